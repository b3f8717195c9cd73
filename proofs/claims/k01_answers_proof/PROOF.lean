import PyProof.Rows.All
import Wide.All
import OpenK.AllK
import Wide.FinOn
import Lean
import PyProof.EqAt
import PyProof.EqKinds
import PyProof.NeKinds
import PyProof.TupleCall
import PySem.Challenge.RW_copydesks_k01_answers
set_option Elab.async false
set_option maxRecDepth 100000
set_option maxHeartbeats 4000000
namespace H1
open PySem PySem.W PySem.Calls PyProof.Rows
noncomputable def fN {α : Type} (n : Nat) (k : Nat→α) : α := @Nat.rec (fun _ => α) (k 0) (fun m _ => k (Nat.succ m)) n
theorem aph {α : Type} (n : Nat) (k : Nat→α) : fN n k = k n := by cases n <;> rfl
noncomputable def run (tb : String→Option Builtin) (p : Program) (w : World) (n₀ : Nat) (ann : Option Value) : Nat→SharedT→Thread→Option SharedT
 | 0,_,_ => none
 | n + 1,s,t => match through t with
   | true => some s
   | false => match stepOk n₀ ann t with
     | false => none
     | true => match stepT (denote tb) p w s t with
       | some (⟨T,k,l,g,d,tk,os⟩,t') => fN tk fun tk => fN k fun k => run tb p w n₀ ann n ⟨T,k,l,g,d,tk,os⟩ t'
       | none => none
section
variable {tb : String→Option Builtin} {p : Program} {w : World} {n₀ : Nat} {ann : Option Value}
theorem akc : ∀ {n : Nat} {s s' : SharedT} {t : Thread},run tb p w n₀ ann n s t = some s'→topRun tb p w n₀ ann n s.abs t = some s'.abs
 | 0,_,_,_,h => by cases h
 | n + 1,s,s',t,h => by
   unfold run at h
   unfold topRun
   cases he : through t with
   | true => rw [he] at h; cases h; rfl
   | false =>
     rw [he] at h
     cases hk : stepOk n₀ ann t with
     | false => rw [hk] at h; cases h
     | true =>
       rw [hk] at h
       cases hs : stepT (denote tb) p w s t with
       | none => rw [hs] at h; cases h
       | some r =>
         obtain ⟨⟨T,k,l,g,d,tk,os⟩,t₂⟩ := r
         rw [hs] at h
         rw [stepT_spec hs]
         dsimp only at h
         rw [aph,aph] at h
         exact akc h
end
def looks (p q : Program) (loose : List Str) (Xt : Shared→Bool) {α : Type} (Yf : Shared→α) (g0 : Bool) (H₀ : Heap) (s : Shared) :=
 (staticsOk (importedModules p.main.body) H₀ s.heap && namesBound p s.heap && gensDone s && laidKept H₀ s.heap,openSeen q loose (importedModules p.main.body) Xt g0 s,Yf s)
def looks0 (p q : Program) (loose : List Str) (Xt : Shared→Bool) (H₀ : Heap) (s : Shared) :=
 (staticsOk (importedModules p.main.body) H₀ s.heap && namesBound p s.heap && gensDone s && laidKept H₀ s.heap,openSeen q loose (importedModules p.main.body) Xt true s)
theorem left {p q : Program} {loose : List Str} {Xt : Shared→Bool} {α : Type} {Yf : Shared→α} {Ya : World→α} {N M : Nat} {g0 : Bool} {T₀ : Params→BT} {n₀ : Nat} {life : Life} {gs₀ : Array GenState} {d₀ : Drawn} {k₀ : Nat} {ann : Option Value}
 (open_ : ∀ w : World,(fencedOpening treeTable p w N).map (fun s => (s.heap,s.gens,s.drawn,s.toks)) = some (absHeap (T₀ w.params) n₀ life,gs₀,d₀,k₀))
 (size : ∀ w : World,((absHeap (T₀ w.params) n₀ life).isNs mainGlobals && gs₀.size == 0,(absHeap (T₀ w.params) n₀ life).nsMap mainGlobals "__annotations__") = (true,ann))
 (h : ∀ w : World,(fun os => (run treeTable p w n₀ ann M ⟨T₀ w.params,n₀,life,gs₀,d₀,k₀,os⟩ (topStub p)).map fun s => looks p q loose Xt Yf g0 (absHeap (T₀ w.params) n₀ life) s.abs) = fun _ => some (true,openGood q loose,Ya w))
 (le : Nat.ble M N = true) : LeftO p q loose Xt Yf Ya N g0 := fun w => by
 obtain ⟨⟨h0,gs,d,k,os⟩,e,e'⟩ := Option.map_eq_some_iff.mp (open_ w)
 obtain ⟨rfl,rfl,rfl,rfl⟩ : h0 = absHeap (T₀ w.params) n₀ life∧gs = gs₀∧d = d₀∧k = k₀ := by simpa using e'
 obtain ⟨z1,z3⟩ : _∧_ := by simpa only [Prod.mk.injEq] using size w
 obtain ⟨sT,r0,l0⟩ := Option.map_eq_some_iff.mp (congrFun (h w) os)
 obtain ⟨l1,l2,l3⟩ : _∧_∧_ := by simpa only [looks,Prod.mk.injEq] using l0
 have r := topRun_mono (N - M) _ _ _ _ (akc r0)
 rw [show M + (N - M) = N by have := Nat.le_of_ble_eq_true le; lia] at r
 have t : topFrom treeTable p w N ⟨absHeap (T₀ w.params) n₀ life,gs,d,k,os⟩ = some sT.abs := by
  unfold topFrom
  dsimp only
  rw [z1,absHeap_size,z3]
  have r' : topRun treeTable p w n₀ ann N ⟨absHeap (T₀ w.params) n₀ life,gs,d,k,os⟩ (topStub p) = some sT.abs := r
  rw [r']
  show (match staticsOk (importedModules p.main.body) (absHeap (T₀ w.params) n₀ life) sT.abs.heap && namesBound p sT.abs.heap && gensDone sT.abs && laidKept (absHeap (T₀ w.params) n₀ life) sT.abs.heap with | true => _ | false => _) = _
  rw [l1]
 unfold openEnds
 rw [e]
 show (topFrom treeTable p w N _).map _ = _
 rw [t]
 exact congrArg some (Prod.ext l2 l3)
end H1
namespace H1
open PySem PySem.W PySem.Calls PyProof.Rows
theorem atk {p q : Program} {loose : List Str} {Xt : Shared→Bool} {α : Type} {Yf : Shared→α} {Ya : World→α} {N M : Nat} {g0 : Bool} {T₀ : Params→BT} {n₀ : Nat} {life : Life} {gs₀ : Array GenState} {d₀ : Drawn} {k₀ : Nat} {ann : Option Value} (row : String)
 (open_ : ∀ w : World,(fencedOpening treeTable p w N).map (fun s => (s.heap,s.gens,s.drawn,s.toks)) = some (absHeap (T₀ w.params) n₀ life,gs₀,d₀,k₀))
 (size : ∀ w : World,((absHeap (T₀ w.params) n₀ life).isNs mainGlobals && gs₀.size == 0,(absHeap (T₀ w.params) n₀ life).nsMap mainGlobals "__annotations__") = (true,ann))
 (h0 : ∀ w : World,(fun os => (run treeTable p (w.withFollow row false) n₀ ann M ⟨T₀ (w.withFollow row false).params,n₀,life,gs₀,d₀,k₀,os⟩ (topStub p)).map fun s => looks p q loose Xt Yf g0 (absHeap (T₀ (w.withFollow row false).params) n₀ life) s.abs) = fun _ => some (true,openGood q loose,Ya (w.withFollow row false)))
 (h1 : ∀ w : World,(fun os => (run treeTable p (w.withFollow row true) n₀ ann M ⟨T₀ (w.withFollow row true).params,n₀,life,gs₀,d₀,k₀,os⟩ (topStub p)).map fun s => looks p q loose Xt Yf g0 (absHeap (T₀ (w.withFollow row true).params) n₀ life) s.abs) = fun _ => some (true,openGood q loose,Ya (w.withFollow row true)))
 (le : Nat.ble M N = true) : LeftO p q loose Xt Yf Ya N g0 :=
 left open_ size (fun w => by
  have e := World.withFollow_self w row
  cases hb : w.params.followText row with
  | false => rw [hb] at e; have := h0 w; rw [e] at this; exact this
  | true => rw [hb] at e; have := h1 w; rw [e] at this; exact this) le
theorem glue {β γ : Type} {r : Option β} {f : β→γ} {δ : Type} {g : β→δ} {a : γ} {b : δ} (x : r.map f = some a) (y : r.map g = some b) : r.map (fun s => (f s,g s)) = some (a,b) := by
 cases r with
 | none => cases x
 | some s => cases x; cases y; rfl
theorem both {p q : Program} {loose : List Str} {Xt : Shared→Bool} {α : Type} {Yf : Shared→α} {M : Nat} {n₀ : Nat} {life : Life} {gs₀ : Array GenState} {d₀ : Drawn} {k₀ : Nat} {ann : Option Value} {w : World} {T : BT} {y : α}
 (x : (fun os => (run treeTable p w n₀ ann M ⟨T,n₀,life,gs₀,d₀,k₀,os⟩ (topStub p)).map fun s => looks0 p q loose Xt (absHeap T n₀ life) s.abs) = fun _ => some (true,openGood q loose))
 (z : (fun os => (run treeTable p w n₀ ann M ⟨T,n₀,life,gs₀,d₀,k₀,os⟩ (topStub p)).map fun s => Yf s.abs) = fun _ => some y) :
 (fun os => (run treeTable p w n₀ ann M ⟨T,n₀,life,gs₀,d₀,k₀,os⟩ (topStub p)).map fun s => looks p q loose Xt Yf true (absHeap T n₀ life) s.abs) = fun _ => some (true,openGood q loose,y) := by
 funext os
 have e := glue (congrFun x os) (congrFun z os)
 cases h : run treeTable p w n₀ ann M ⟨T,n₀,life,gs₀,d₀,k₀,os⟩ (topStub p) with
 | none => rw [h] at e; cases e
 | some s =>
   rw [h] at e
   simp only [Option.map_some,Option.some.injEq,Prod.mk.injEq,looks0,looks] at e ⊢
   exact ⟨e.1.1,e.1.2,e.2⟩
noncomputable def mkT (l : List Obj) : Nat→Nat→Nat→BT
 | 0,_,_ => .nil
 | f + 1,a,b => match l[b]? with
   | some o => .node o (mkT l f (2 * a) (a + b)) (mkT l f (2 * a) (2 * a + b))
   | none => .nil
noncomputable def T0 (P : Params) : BT := mkT (boot_heap P).objs.toList 12 1 0
theorem t0 (P : Params) : absHeap (T0 P) 11 {} = boot_heap P := by kernel_rfl
theorem opens {p : Program} {N : Nat} (e : opening p = plainProg p.main.scope.names) (hN : Nat.ble 600 N = true) (f : ∀ s,fenceModules? p s = some s) (w : World) : (fencedOpening treeTable p w N).map (fun s => (s.heap,s.gens,s.drawn,s.toks)) = some (absHeap (T0 w.params) 11 {},#[],boot_drawn,boot_toks) := by
 rw [t0]; exact boot_open e hN f w
theorem sizes (w : World) : ((absHeap (T0 w.params) 11 {}).isNs mainGlobals && (#[] : Array GenState).size == 0,(absHeap (T0 w.params) 11 {}).nsMap mainGlobals "__annotations__") = (true,some (.ref 6)) := by
 rw [t0]; kernel_rfl
end H1
lay_quick H1.run H1.looks0
set_option Elab.async false
set_option linter.all false
set_option maxRecDepth 100000
namespace PySem
theorem CZ : 0≤sizeLine := by decide
theorem zz1 : 1≤sizeLine := by decide
theorem uo : 2≤sizeLine := by decide
theorem zz3 : 3≤sizeLine := by decide
theorem zz4 : 4≤sizeLine := by decide
theorem zz5 : 5≤sizeLine := by decide
theorem zz6 : 6≤sizeLine := by decide
theorem zz7 : 7≤sizeLine := by decide
theorem zz8 : 8≤sizeLine := by decide
theorem zz9 : 9≤sizeLine := by decide
end PySem
namespace L2
theorem jW {α β : Type} {p r q : α→β→Prop} {C : Prop} (h : ∃ x y,p x y∧r x y∧q x y) (k : ∀ x y,p x y→r x y→q x y→C) : C := Exists.elim h fun x h => Exists.elim h fun y h => k x y h.1 h.2.1 h.2.2
theorem ex3 {β : Type} {p q : β→Prop} {C : Prop} (h : ∃ y,p y∧q y) (k : ∀ y,p y→q y→C) : C := Exists.elim h fun y h => k y h.1 h.2
theorem ex4 {α β : Type} {p q : α→β→Prop} {C : Prop} (h : ∃ x y,p x y∧q x y) (k : ∀ x y,p x y→q x y→C) : C := Exists.elim h fun x h => Exists.elim h fun y h => k x y h.1 h.2
open PySem PySem.Spec PyProof.Rows
abbrev Key := Sum Int Str
def aat : Key→Value→Bool
 | .inl k,v => Value.isInt k v
 | .inr x,v => Value.isStrOf x v
def awK (w : World) : Key→Int
 | .inl k => hashInt k
 | .inr x => hashStr w x
theorem gO : ∀ {k : Key} {v : Value},aat k v = true→(∃ i t,k = Sum.inl i∧v = Value.int i t)∨(∃ x t,k = Sum.inr x∧v = Value.str x t)
 | .inl i,v,h => by
   obtain ⟨t,e⟩ := Value.isInt_shape (k := i) (v := v) h
   exact .inl ⟨i,t,rfl,e⟩
 | .inr x,v,h => by
   obtain ⟨t,e⟩ := Value.isStrOf_shape (x := x) (v := v) h
   exact .inr ⟨x,t,rfl,e⟩
theorem ai1 (i : Int) (t : Tok) : aat (.inl i) (.int i t) = true := by simp [aat,Value.isInt]
theorem ai2 (x : Str) (t : Tok) : aat (.inr x) (.str x t) = true := by simp [aat,Value.isStrOf]
theorem apW (a b : Int) : decide ((Sum.inl a : Key) = Sum.inl b) = (a == b) := by
 by_cases e : a = b
 ·subst e; simp
 ·have h : ¬ (Sum.inl a : Key) = Sum.inl b := fun q => e (Sum.inl.inj q)
  rw [decide_eq_false h]
  exact (beq_eq_false_iff_ne.mpr e).symm
theorem apY (a b : Str) : decide ((Sum.inr a : Key) = Sum.inr b) = decide (a = b) := by
 by_cases e : a = b
 ·subst e; simp
 ·have h : ¬ (Sum.inr a : Key) = Sum.inr b := fun q => e (Sum.inr.inj q)
  rw [decide_eq_false h,decide_eq_false e]
theorem apZ (a : Int) (b : Str) : decide ((Sum.inl a : Key) = Sum.inr b) = false := decide_eq_false (fun q => nomatch q)
theorem ap0 (a : Str) (b : Int) : decide ((Sum.inr a : Key) = Sum.inl b) = false := decide_eq_false (fun q => nomatch q)
def gJ (prog : Program) (w : World) : PySem.KeyKind prog w Key where
 is := aat
 hash := awK w
 inj := fun v a b ha hb => by
  rcases gO ha with ⟨i,t,rfl,rfl⟩ | ⟨x,t,rfl,rfl⟩
  ·rcases gO hb with ⟨j,u,rfl,e⟩ | ⟨y,u,rfl,e⟩
   ·injection e with e1 _; rw [e1]
   ·exact nomatch e
  ·rcases gO hb with ⟨j,u,rfl,e⟩ | ⟨y,u,rfl,e⟩
   ·exact nomatch e
   ·injection e with e1 _; rw [e1]
 byValue := fun k v h => by
  rcases gO h with ⟨i,t,rfl,rfl⟩ | ⟨x,t,rfl,rfl⟩ <;> rfl
 pyHash := fun hv h => by
  rcases gO hv with ⟨i,t,rfl,rfl⟩ | ⟨x,t,rfl,rfl⟩
  ·exact wpAny_pyHash_int h
  ·exact wpAny_pyHash_str h
 eqBool := fun hu hv h => by
  rcases gO hu with ⟨i,t,rfl,rfl⟩ | ⟨x,t,rfl,rfl⟩
  ·rcases gO hv with ⟨j,u,rfl,rfl⟩ | ⟨y,u,rfl,rfl⟩
   ·rw [apW] at h; exact wpAny_eqBool_int h
   ·rw [apZ] at h; exact SeqAt.EqAt.int_str i t y u _ _ _ _ h
  ·rcases gO hv with ⟨j,u,rfl,rfl⟩ | ⟨y,u,rfl,rfl⟩
   ·rw [ap0] at h; exact SeqAt.EqAt.str_int x t j u _ _ _ _ h
   ·rw [apY] at h; exact wpAny_eqBool_str h
 «strs» := fun k x t v h => by
  rcases gO h with ⟨i,u,rfl,e⟩ | ⟨y,u,rfl,e⟩
  ·exact nomatch e
  ·injection e with e1 _
   subst e1
   cases v <;> rfl
theorem aed (prog : Program) (w : World) (i : Int) (t : Tok) : (gJ prog w).is (.inl i) (.int i t) = true := ai1 i t
theorem aee (prog : Program) (w : World) (x : Str) (t : Tok) : (gJ prog w).is (.inr x) (.str x t) = true := ai2 x t
end L2
namespace L2
open PySem PySem.Spec PyProof.Rows
inductive V where
 | non | bl (b : Bool) | int (i : Int) | str (x : Str) | byt (b : Array UInt8) | flt (b : UInt64) | ref (a : Addr) | ty (n : String)
 deriving DecidableEq
def RelV : V→Value→Prop
 | .non,u => u = Value.none
 | .bl b,u => u = Value.bool b
 | .int i,u => ∃ t,u = Value.int i t
 | .str x,u => ∃ t,u = Value.str x t
 | .byt b,u => ∃ t,u = Value.bytes b t
 | .flt b,u => ∃ t,u = Value.float b t
 | .ref a,u => u = Value.ref a
 | .ty n,u => u = Value.type n
abbrev Vals : List V→List Value→Prop := Paired RelV
theorem Vals.length {xs : List V} {us : List Value} (r : Vals xs us) : xs.length = us.length := Paired.length r
theorem Vals.get : ∀ {xs : List V} {us : List Value} {i : Nat} {x : V},Vals xs us→xs[i]? = some x→∃ u,us[i]? = some u∧RelV x u
 | _,_,_,_,.nil,e => by simp at e
 | _,_,0,_,.cons r _,e => by simp at e; subst e; exact ⟨_,rfl,r⟩
 | _,_,i + 1,x,.cons _ t,e => by
   obtain ⟨u,h1,h2⟩ := Vals.get (i := i) (x := x) t (by simpa using e)
   exact ⟨u,by simpa using h1,h2⟩
theorem Vals.set {x : V} {u : Value} (r : RelV x u) : ∀ {xs : List V} {us : List Value} (i : Nat),Vals xs us→Vals (xs.set i x) (us.set i u)
 | _,_,_,.nil => .nil
 | _,_,0,.cons _ t => .cons r t
 | _,_,i + 1,.cons q t => .cons q (Vals.set r i t)
theorem Vals.append : ∀ {xs ys : List V} {us ws : List Value},Vals xs us→Vals ys ws→Vals (xs ++ ys) (us ++ ws)
 | _,_,_,_,.nil,s => s
 | _,_,_,_,.cons r t,s => .cons r (Vals.append t s)
theorem Vals.take : ∀ {xs : List V} {us : List Value} (n : Nat),Vals xs us→Vals (xs.take n) (us.take n)
 | _,_,0,_ => .nil
 | _,_,_ + 1,.nil => .nil
 | _,_,n + 1,.cons r t => .cons r (Vals.take n t)
theorem Vals.drop : ∀ {xs : List V} {us : List Value} (n : Nat),Vals xs us→Vals (xs.drop n) (us.drop n)
 | _,_,0,r => r
 | _,_,_ + 1,.nil => .nil
 | _,_,n + 1,.cons _ t => Vals.drop n t
def Bm : Option V→Option Value→Prop
 | some v,some u => RelV v u
 | none,none => True
 | _,_ => False
def KV {κ : Type} : List (κ×V)→List (κ×Value)→Prop := Paired fun (p : κ×V) (q : κ×Value) => p.1 = q.1∧RelV p.2 q.2
def kV : Key→V
 | .inl i => .int i
 | .inr x => .str x
inductive HO where
 | lst (xs : List V)
 | tup (xs : List V)
 | dK (kvs : List (Key×V)) | dT (kvs : List (List Key×V))
 | set (S : Int→Bool) (n : Nat)
 | ins (C dx : Addr) (fs : List (Str×V))
 | own (x : Addr)
 | xd (fs : List (Str×V))
 | met (f x : Addr)
 | rng (lo hi : Int)
 | frz (o : Obj) (u : HO)
 | tbl (ps : Array Value)
 | ext (φ : Heap→Prop)
abbrev Hp := Addr→Option HO
def upd (H : Hp) (a : Addr) (o : HO) : Hp := fun b => if b = a then some o else H b
theorem aj {H : Hp} {a : Addr} {o : HO} : upd H a o a = some o := by unfold upd; rw [if_pos rfl]
theorem aq {H : Hp} {a b : Addr} {o : HO} (h : b≠a) : upd H a o b = H b := by unfold upd; rw [if_neg h]
theorem ahW {H : Hp} {a : Addr} {o u : HO} : upd (upd H a o) a u = upd H a u := by
 funext b; unfold upd; split <;> rfl
theorem jf {H : Hp} {a b : Addr} {o u : HO} (h : H a = some o) (h' : H b = some u) (d : o≠u) : a≠b := by
 intro e; subst e; rw [h] at h'; exact d (Option.some.inj h')
theorem aF {H : Hp} {a b : Addr} {o : HO} (h : H a = some o) (h' : H b = none) : a≠b := by
 intro e; subst e; rw [h] at h'; cases h'
section
variable (P : Program) (w : World)
def fH (H : Hp) (h : Heap) (a : Addr) : HO→Prop
 | .lst xs => xs.length≤sizeLine∧∃ (its : List Value) (n : Nat),Vals xs its∧h.get? a = some { cls := .type "list",data := .seq its.toArray n }
 | .tup xs => xs.length≤sizeLine∧∃ its : List Value,Vals xs its∧IsTup h a its.toArray
 | .dK kvs => kvs.length≤sizeLine∧(a == sysModules) = false∧∃ vs,KV kvs vs∧h.DictOf (gJ P w) a vs
 | .dT kvs => kvs.length≤sizeLine∧(a == sysModules) = false∧∃ xs : List (List Key×Addr×Value),
    Paired (fun (p : List Key×V) (q : List Key×Addr×Value) => p.1 = q.1∧H q.2.1 = some (.tup (p.1.map kV))∧RelV p.2 q.2.2) kvs xs∧
    ∃ o es ep,h.get? a = some o∧o.ExactDict∧o.data = .dict es ep∧es.toList = xs.map (entryOfKey (tupleKind (gJ P w)))∧(xs.map (·.1)).Nodup
 | .set S n => h.SetOf (intKind P w) a S n
 | .ins C dx fs => H dx = some (.own a)∧fs.length≤1000∧dx≠a∧h.get? a = some (PySem.W.instObj C dx)∧
    ∃ mA,h.Ns1 dx mA∧(∀ f,Bm (fs.lookup f) (mA f))∧PySem.Within mA (fs.map (·.1))
 | .own _ => ∃ o,h.get? a = some o
 | .xd fs => ∃ mA,h.Ns1 a mA∧∀ f,Bm (fs.lookup f) (mA f)
 | .rng lo hi => ∃ t u v,h.get? a = some { cls := .type "range",data := .fields #[.int lo t,.int hi u,.int 1 v] }
 | .frz o u => h.get? a = some o∧fH H h a u
 | .tbl ps => h.get? a = some { cls := .none,data := .fields ps }
 | .met f x => h.get? a = some (PySem.W.methodObj (.ref f) (.ref x))
 | .ext φ => φ h∧(∃ o,h.get? a = some o)∧∀ h1 h2 : Heap,φ h1→(∀ o,h1.get? a = some o→h2.get? a = some o)→φ h2
def Gu (H : Hp) (h : Heap) : Prop := ∀ a o,H a = some o→fH P w H h a o
end
section
variable {P : Program} {w : World} {H H' : Hp} {h h' : Heap} {a : Addr} {o : HO}
theorem fH.lt (x : fH P w H h a o) : a < h.objs.size := by
 cases o with
 | lst xs => obtain ⟨_,_,_,_,e⟩ := x; exact Heap.lt_size e
 | tup xs => obtain ⟨_,_,_,p⟩ := x; exact p.lt
 | dK kvs => obtain ⟨_,_,_,_,o,_,_,e,_⟩ := x; exact Heap.lt_size e
 | dT kvs => obtain ⟨_,_,_,_,o,_,_,e,_⟩ := x; exact Heap.lt_size e
 | set S n => obtain ⟨o,_,_,_,e,_⟩ := x; exact Heap.lt_size e
 | ins C dx fs => obtain ⟨_,_,_,e,_⟩ := x; exact Heap.lt_size e
 | own y => obtain ⟨_,e⟩ := x; exact Heap.lt_size e
 | xd fs => obtain ⟨_,⟨_,_,_,e,_⟩,_⟩ := x; exact Heap.lt_size e
 | rng lo hi => obtain ⟨_,_,_,e⟩ := x; exact Heap.lt_size e
 | frz ob u => obtain ⟨e,_⟩ := x; exact Heap.lt_size e
 | tbl ps => exact Heap.lt_size (show h.get? a = some _ from x)
 | met f y => exact Heap.lt_size (show h.get? a = some _ from x)
 | ext φ => obtain ⟨_,⟨_,e⟩,_⟩ := x; exact Heap.lt_size e
theorem Paired.ap1 {α β : Type} {F G : α→β→Prop} : ∀ {l₁ : List α} {l₂ : List β},Paired F l₁ l₂→(∀ a b,F a b→G a b)→Paired G l₁ l₂
 | _,_,.nil,_ => .nil
 | _,_,.cons r t,f => .cons (f _ _ r) (Paired.ap1 t f)
theorem fH.stay (x : fH P w H h a o) (k : ∀ b u,(b = a∨H b = some (.own a))→h.get? b = some u→h'.get? b = some u)
 (ho : ∀ b,H b = some (.own a)→H' b = some (.own a)) (ht : ∀ b xs,H b = some (.tup xs)→H' b = some (.tup xs)) : fH P w H' h' a o := by
 induction o with
 | lst xs => obtain ⟨z,its,n,r,e⟩ := x; exact ⟨z,its,n,r,k _ _ (.inl rfl) e⟩
 | tup xs => obtain ⟨z,its,r,ob,e,c⟩ := x; exact ⟨z,its,r,ob,k _ _ (.inl rfl) e,c⟩
 | dK kvs => obtain ⟨z,y,vs,r,ob,es,ep,e,c⟩ := x; exact ⟨z,y,vs,r,ob,es,ep,k _ _ (.inl rfl) e,c⟩
 | dT kvs =>
   obtain ⟨z,y,xs,r,ob,es,ep,e,c⟩ := x
   exact ⟨z,y,xs,Paired.ap1 r fun p q z => ⟨z.1,ht _ _ z.2.1,z.2.2⟩,ob,es,ep,k _ _ (.inl rfl) e,c⟩
 | set S n => obtain ⟨ob,es,ep,t,e,c⟩ := x; exact ⟨ob,es,ep,t,k _ _ (.inl rfl) e,c⟩
 | ins C dx fs =>
   obtain ⟨d,z,ne,e,mA,⟨od,es,ep,e2,c⟩,r⟩ := x
   exact ⟨ho _ d,z,ne,k _ _ (.inl rfl) e,mA,⟨od,es,ep,k _ _ (.inr d) e2,c⟩,r⟩
 | own y => obtain ⟨ob,e⟩ := x; exact ⟨ob,k _ _ (.inl rfl) e⟩
 | xd fs => obtain ⟨mA,⟨od,es,ep,e,c⟩,r⟩ := x; exact ⟨mA,⟨od,es,ep,k _ _ (.inl rfl) e,c⟩,r⟩
 | rng lo hi => obtain ⟨t,u,v,e⟩ := x; exact ⟨t,u,v,k _ _ (.inl rfl) e⟩
 | frz ob u ih => obtain ⟨e,q⟩ := x; exact ⟨k _ _ (.inl rfl) e,ih q⟩
 | tbl ps =>
   have e : h.get? a = some { cls := .none,data := .fields ps } := x
   show h'.get? a = some { cls := .none,data := .fields ps }
   exact k a _ (.inl rfl) e
 | met f y =>
   have e : h.get? a = some (PySem.W.methodObj (.ref f) (.ref y)) := x
   show h'.get? a = some (PySem.W.methodObj (.ref f) (.ref y))
   exact k a _ (.inl rfl) e
 | ext φ => obtain ⟨p,⟨o,e⟩,st⟩ := x; exact ⟨st _ _ p fun o q => k _ _ (.inl rfl) q,⟨o,k _ _ (.inl rfl) e⟩,st⟩
theorem Gu.lt (x : Gu P w H h) (e : H a = some o) : a < h.objs.size := (x a o e).lt
theorem Gu.fresh (x : Gu P w H h) (e : h.objs.size≤a) : H a = none := by
 cases q : H a with
 | none => rfl
 | some u => exact absurd (Nat.lt_of_lt_of_le (x.lt q) e) (Nat.lt_irrefl _)
theorem Gu.kept (x : Gu P w H h) (k : ∀ b u,h.get? b = some u→h'.get? b = some u) : Gu P w H h' := fun a o e =>
 (x a o e).stay (fun b u _ q => k b u q) (fun _ q => q) fun _ _ q => q
theorem Gu.laid (x : Gu P w H h) (k : ∀ b u,h.get? b = some u→h'.get? b = some u) (hp : h.objs.size≤a) (new : fH P w (upd H a o) h' a o) : Gu P w (upd H a o) h' := fun b u e => by
 have hn := x.fresh hp
 by_cases hb : b = a
 ·subst hb; rw [aj] at e; cases e; exact new
 ·rw [aq hb] at e
  exact (x b u e).stay (fun c v _ q => k c v q) (fun c q => by rw [aq (aF q hn)]; exact q) fun c xs q => by rw [aq (aF q hn)]; exact q
end
def Rd (H : Hp) (a : Addr) (u : HO) : Prop := H a = some u∨∃ o,H a = some (.frz o u)
theorem Rd.ok {P : Program} {w : World} {H : Hp} {h : Heap} {a : Addr} {u : HO} (r : Rd H a u) (x : Gu P w H h) : fH P w H h a u := by
 rcases r with r | ⟨o,r⟩
 ·exact x a u r
 ·obtain ⟨_,q⟩ := x a _ r
  exact q
def Mut : Option HO→Prop
 | some (.lst _) => True
 | some (.dK _) => True
 | some (.dT _) => True
 | some (.set _ _) => True
 | some (.ins _ _ _) => True
 | some (.ext _) => True
 | _ => False
section
variable {P : Program} {w : World} {H : Hp} {h h' : Heap} {x e : Addr} {o' : HO}
theorem Gu.write (ok : Gu P w H h) (mu : Mut (H x)) (he : e = x∨H e = some (.own x)) (k : ∀ b u,b≠e→h.get? b = some u→h'.get? b = some u) (heo : ∃ u,h'.get? e = some u)
 (new : fH P w (upd H x o') h' x o') : Gu P w (upd H x o') h' := fun b u q => by
 have atm : ∀ c y,H c = some (.own y)→c≠x := fun c y r z => by subst z; rw [r] at mu; exact mu
 have awL : ∀ c xs,H c = some (.tup xs)→c≠x := fun c xs r z => by subst z; rw [r] at mu; exact mu
 by_cases hb : b = x
 ·subst hb; rw [aj] at q; cases q; exact new
 ·rw [aq hb] at q
  by_cases hbe : b = e
  ·have q' : H b = some (.own x) := by
    rcases he with z | z
    ·exact absurd (hbe.trans z) hb
    ·rw [hbe]; exact z
   rw [q] at q'; cases q'
   obtain ⟨v,hv⟩ := heo
   exact ⟨v,by rw [hbe]; exact hv⟩
  ·refine (ok b u q).stay (fun c v hc r => k c v ?_ r) (fun c r => by rw [aq (atm c b r)]; exact r) fun c xs r => by rw [aq (awL c xs r)]; exact r
   rcases hc with rfl | hc
   ·exact hbe
   ·rintro rfl
    rcases he with z | z
    ·exact atm c b hc z
    ·rw [hc] at z; cases z; exact hb rfl
end
structure Un (fs ex : List Addr) (H H' : Hp) (h h' : Heap) : Prop where
 keep : ∀ b o,h.get? b = some o→H b = none→b∉fs→b∉ex→h'.get? b = some o
 slot : ∀ b o,h.get? b = some o→H b = none→b∈fs→b∉ex→∃ sl,h'.get? b = some { o with slots := sl }
 free : ∀ b o,h.get? b = some o→H b = none→b∉ex→H' b = none
 there : ∀ b o,h.get? b = some o→b∉ex→∃ o',h'.get? b = some o'
 tups : ∀ b xs,H b = some (.tup xs)→H' b = some (.tup xs)
 HJ : ∀ b o u,H b = some (.frz o u)→H' b = some (.frz o u)
 JX : ∀ b ps,H b = some (.tbl ps)→∃ more,H' b = some (.tbl (ps ++ more))
section
variable {fs fs' ex ex' : List Addr} {H H1 H2 : Hp} {h h1 h2 h' : Heap} {a x e : Addr} {o : HO}
theorem Un.any (u : Un fs ex H H1 h h1) {b : Addr} {ob : Obj} (q : h.get? b = some ob) (n : H b = none) (hx : b∉ex) : ∃ sl,h1.get? b = some { ob with slots := sl } := by
 by_cases hb : b∈fs
 ·exact u.slot b ob q n hb hx
 ·exact ⟨ob.slots,u.keep b ob q n hb hx⟩
theorem Un.kept (k : ∀ b u,h.get? b = some u→h'.get? b = some u) : Un fs ex H H h h' :=
 ⟨fun b ob q _ _ _ => k b ob q,fun b ob q _ _ _ => ⟨ob.slots,k b ob q⟩,fun _ _ _ n _ => n,fun b ob q _ => ⟨ob,k b ob q⟩,fun _ _ q => q,fun _ _ _ q => q,fun _ ps q => ⟨#[],by rw [q]; simp⟩⟩
theorem Un.refl : Un fs ex H H h h := Un.kept fun _ _ q => q
theorem Un.laid (k : ∀ b u,h.get? b = some u→h'.get? b = some u) (hp : h.objs.size≤a) (hn : H a = none) : Un fs ex H (upd H a o) h h' where
 keep := fun b u q _ _ _ => k b u q
 slot := fun b u q _ _ _ => ⟨u.slots,k b u q⟩
 free := fun b u q n _ => by rw [aq (Nat.ne_of_lt (Nat.lt_of_lt_of_le (Heap.lt_size q) hp))]; exact n
 there := fun b u q _ => ⟨u,k b u q⟩
 tups := fun b xs q => by rw [aq (aF q hn)]; exact q
 HJ := fun b u xs q => by rw [aq (aF q hn)]; exact q
 JX := fun b ps q => ⟨#[],by rw [aq (aF q hn),q]; simp⟩
theorem Un.write (mu : Mut (H x)) (he : e = x∨H e = some (.own x)) (k : ∀ b u,b≠e→h.get? b = some u→h'.get? b = some u) (heo : ∃ u,h'.get? e = some u) : Un fs ex H (upd H x o) h h' := by
 have hx : ∀ b,H b = none→b≠x := fun b n z => by subst z; rw [n] at mu; exact mu
 have hb : ∀ b,H b = none→b≠e := fun b n z => by
  subst z
  rcases he with r | r
  ·exact hx b n r
  ·rw [n] at r; cases r
 have hm : ∀ b u,H b = some u→¬ Mut (some u)→b≠x := fun b u q nm z => by subst z; rw [q] at mu; exact nm mu
 refine ⟨fun b u q n _ _ => k b u (hb b n) q,fun b u q n _ _ => ⟨u.slots,k b u (hb b n) q⟩,fun b u q n _ => by rw [aq (hx b n)]; exact n,fun b u q _ => ?_,
  fun b xs q => by rw [aq (hm b _ q fun z => z)]; exact q,fun b u xs q => by rw [aq (hm b _ q fun z => z)]; exact q,fun b ps q => ⟨#[],by rw [aq (hm b _ q fun z => z),q]; simp⟩⟩
 by_cases hbe : b = e
 ·subst hbe; exact heo
 ·exact ⟨u,k b u hbe q⟩
end
def trk (h : Heap) (H : Hp) : List Addr := (List.range h.objs.size).filter fun a => (H a).isSome
def abe (h : Heap) (H : Hp) : Heap := PySem.W.hideAll h (trk h H)
theorem ai3 (h : Heap) (H : Hp) : (abe h H).objs.size = h.objs.size := PySem.W.hideAll_size _ _
theorem akd {h : Heap} {H : Hp} {b : Addr} {o : Obj} (e : h.get? b = some o) (n : H b = none) : (abe h H).get? b = some o :=
 PySem.W.hideAll_get _ e fun hm => by
  have q : (H b).isSome = true := (List.mem_filter.mp hm).2
  rw [n] at q; simp at q
theorem amJ {h : Heap} {H : Hp} {b : Addr} {o : Obj} (e : (abe h H).get? b = some o) : h.get? b = some o∧H b = none := by
 have e' : h.get? b = some o := PySem.W.of_hideAll (trk h H) e
 refine ⟨e',?_⟩
 cases q : H b with
 | none => rfl
 | some x =>
   have hm : b∈trk h H := List.mem_filter.mpr ⟨List.mem_range.mpr (Heap.lt_size e'),by simp [q]⟩
   have z : (abe h H).get? b = none := PySem.W.hideAll_none (trk h H) hm
   rw [z] at e; cases e
end L2
namespace L2
open PySem PySem.Spec PyProof.Rows
structure Mod (K : PySem.W.Frag) (mg : Str→Option Value) (base : Heap) : Prop where
 kin : K.In base
 glob : base.Ns mainGlobals mg
 blt : ∃ mb,base.Ns builtinsNs mb∧∀ x : Str,x≠"__name__"→mb x = bootBuiltins x
 nolimit : base.NoLimit
structure Cx where
 prog : Program
 w : World
 K : PySem.W.Frag
 mg : Str→Option Value
 base : Heap
 A : Around
 N : List Str
 s₀ : Shared
 H₀ : Hp
 env : Env
 outer : List Env
 stack : List Env
 ex : List Addr
 fn : Str→Bool
 calm : Bool
 pn : List (Addr×Obj)
 xe : Value→Shared→Prop
def frs (l : List Env) : List Addr := l.filterMap (·.frame)
abbrev Cx.fs (X : Cx) : List Addr := frs X.outer
def Vis (sc : Scope) (x : Str) : Prop := sc.names.lookup x = some .local∨sc.names.lookup x = some .cell∨sc.names.lookup x = some .free
def Loc (sc : Scope) (x : Str) : Prop := sc.names.lookup x = some .local∨sc.names.lookup x = some .cell
def Look (env : Env) (h : Heap) (m : Str→Option Value) (x : Str) (u : Value) : Prop :=
 (env.kindOf x = some .local∧m x = some u)∨((env.kindOf x = some .cell∨env.kindOf x = some .free)∧∃ c,env.cells.lookup x = some c∧h.IsCell c (some u))
structure Cx.Ok (X : Cx) : Prop where
 mod : Mod X.K X.mg X.base
 kind : X.env.scope.kind = .function
 glob : X.env.globals = mainGlobals
 blt : X.env.builtins = builtinsNs
 above : X.s₀.heap.objs.size≤X.env.locals
 inj : ∀ x y c,X.env.cells.lookup x = some c→X.env.cells.lookup y = some c→x = y
 has : ∀ x,(X.env.kindOf x = some .cell∨X.env.kindOf x = some .free)→∃ c,X.env.cells.lookup x = some c
 cab : ∀ x c,X.fn x = true→X.env.cells.lookup x = some c→X.s₀.heap.objs.size≤c
 hd : X.calm = true→X.A.handled = none
 frames : X.A.frames = some X.stack
 stk : X.stack = X.outer∨(X.stack = X.env :: X.outer∧X.env.frame = some X.env.locals)
 exf : ∀ b∈X.ex,b≠X.env.locals∧∀ x c,X.env.cells.lookup x = some c→c≠b
 bs : ∀ b o,X.base.get? b = some o→X.s₀.heap.get? b = some o∧X.H₀ b = none
 bsz : X.base.objs.size≤X.s₀.heap.objs.size
 aef : ∀ b o,X.base.get? b = some o→b∉X.ex
 agv : ∀ b∈X.ex,b∉X.fs
 HN : X.s₀.heap.FunFrames X.base X.outer
 frf : ∀ b∈X.fs,X.H₀ b = none
structure Inv (X : Cx) (pins : List (Addr×Obj)) (σ : List (Option V)) (H : Hp) (s : Shared) : Prop where
 ok : X.Ok
 os : s.os = X.s₀.os
 bare : AllBare s.gens
 base : Un X.fs X.ex X.H₀ H X.s₀.heap s.heap
 loc : ∃ m,s.heap.Ns X.env.locals m∧∀ (i : Nat) (x : Str) (v : V),X.N[i]? = some x→σ[i]? = some (some v)→Vis X.env.scope x→∃ u,RelV v u∧Look X.env s.heap m x u
 cell : ∀ x c,X.env.cells.lookup x = some c→∃ v,s.heap.IsCell c v
 free : H X.env.locals = none
 uq : ∀ x c,X.env.cells.lookup x = some c→H c = none
 pin : ∀ p∈X.pn ++ pins,s.heap.get? p.1 = some p.2∧H p.1 = none∧p.1≠X.env.locals∧p.1∉X.fs∧∀ v,p.2.data≠.cell v
 hok : Gu X.prog X.w H s.heap
 len : σ.length = X.N.length
section
variable {X : Cx} {pins : List (Addr×Obj)} {σ : List (Option V)} {H H' : Hp} {s : Shared} {h' : Heap}
theorem Cx.Ok.awM (ok : X.Ok) {b : Addr} {o : Obj} (e : X.base.get? b = some o) : b∉X.fs := fun hb => by
 have := (ok.HN.mem hb).1
 rw [e] at this; cases this
theorem Inv.bs (I : Inv X pins σ H s) : ∀ b o,X.base.get? b = some o→s.heap.get? b = some o∧H b = none := fun b o e =>
 ⟨I.base.keep b o (I.ok.bs b o e).1 (I.ok.bs b o e).2 (I.ok.awM e) (I.ok.aef b o e),I.base.free b o (I.ok.bs b o e).1 (I.ok.bs b o e).2 (I.ok.aef b o e)⟩
theorem Inv.bk (I : Inv X pins σ H s) : ∀ b o,X.base.get? b = some o→s.heap.get? b = some o := fun b o e => (I.bs b o e).1
theorem Inv.mod (I : Inv X pins σ H s) : Mod X.K X.mg X.base := I.ok.mod
theorem Inv.wF (I : Inv X pins σ H s) : X.K.In s.heap := I.ok.mod.kin.keeps I.bk
theorem Inv.lt (I : Inv X pins σ H s) : X.env.locals < s.heap.objs.size := let ⟨_,hn,_⟩ := I.loc; hn.lt
theorem Inv.sz (I : Inv X pins σ H s) : X.s₀.heap.objs.size≤s.heap.objs.size := Nat.le_trans I.ok.above (Nat.le_of_lt I.lt)
theorem Inv.awN (I : Inv X pins σ H s) {a : Addr} (h : s.heap.objs.size≤a) : a∉X.fs := fun hb => by
 obtain ⟨_,o,ho,_⟩ := I.ok.HN.mem hb
 exact absurd (Nat.lt_of_lt_of_le (Heap.lt_size ho) (Nat.le_trans I.sz h)) (Nat.lt_irrefl _)
theorem Inv.cne (I : Inv X pins σ H s) : ∀ x c,X.env.cells.lookup x = some c→c≠X.env.locals := fun x c e z => by
 obtain ⟨v,o,ho,hd⟩ := I.cell x c e
 obtain ⟨m,⟨o',es,ep,ho',hd',_⟩,_⟩ := I.loc
 rw [z,ho'] at ho; cases ho; rw [hd'] at hd; cases hd
theorem Inv.HN (I : Inv X pins σ H s) : s.heap.FunFrames X.base X.outer := by
 have all : ∀ (l : List Env),(∀ b∈frs l,b∈X.fs)→X.s₀.heap.FunFrames X.base l→s.heap.FunFrames X.base l := by
  intro l
  induction l with
  | nil => intro _ _; trivial
  | cons env r ih =>
    intro hs hl
    obtain ⟨hk,⟨L,o,hf,hn,ho,hd⟩,hr⟩ := hl
    have hL : L∈X.fs := hs L (by unfold frs; rw [List.filterMap_cons,hf]; exact List.mem_cons_self)
    obtain ⟨sl,e⟩ := I.base.slot L o ho (I.ok.frf L hL) hL fun z => I.ok.agv L z hL
    exact ⟨hk,⟨L,_,hf,hn,e,hd⟩,ih (fun b hb => hs b (by unfold frs; rw [List.filterMap_cons,hf]; exact List.mem_cons_of_mem _ hb)) hr⟩
 exact all X.outer (fun _ hb => hb) I.ok.HN
theorem Inv.stack (I : Inv X pins σ H s) : s.heap.FunFrames X.base X.stack := by
 rcases I.ok.stk with e | ⟨e,hf⟩
 ·rw [e]; exact I.HN
 ·rw [e]
  obtain ⟨m,hn,_⟩ := I.loc
  refine .cons (by rw [I.ok.kind]; decide) hf hn ?_ I.HN
  exact Heap.get?_none_of_le (Nat.le_trans I.ok.bsz I.ok.above)
theorem Inv.Vf (I : Inv X pins σ H s) : ∀ b∈frs X.stack,b∈X.env.locals :: X.fs := fun b hb => by
 rcases I.ok.stk with e | ⟨e,hf⟩
 ·rw [e] at hb; exact List.mem_cons_of_mem _ hb
 ·rw [e] at hb
  unfold frs at hb
  rw [List.filterMap_cons,hf] at hb
  exact hb
theorem Inv.abf (I : Inv X pins σ H s) : ∀ b∈frs X.stack,H b = none := fun b hb => by
 rcases List.mem_cons.mp (I.Vf b hb) with e | hb
 ·rw [e]; exact I.free
 ·obtain ⟨_,o,ho,_⟩ := I.ok.HN.mem hb
  exact I.base.free b o ho (I.ok.frf b hb) fun z => I.ok.agv b z hb
theorem Inv.step {g' : Array GenState} {t' : Nat} {d' : Drawn} {ch : List Addr} (I : Inv X pins σ H s)
 (hch : ∀ b∈ch,(b∈X.ex∨X.s₀.heap.objs.size≤b)∧b≠X.env.locals∧(∀ x c,X.env.cells.lookup x = some c→c≠b)∧∀ p∈X.pn ++ pins,p.1≠b)
 (keep : ∀ b o,b≠X.env.locals→b∉X.fs→b∉ch→s.heap.get? b = some o→H b = none→h'.get? b = some o)
 (slot : ∀ b o,b≠X.env.locals→b∈X.fs→b∉ch→s.heap.get? b = some o→H b = none→∃ sl,h'.get? b = some { o with slots := sl }) (free : ∀ b o,b∉ch→s.heap.get? b = some o→H b = none→H' b = none)
 (there : ∀ b o,b∉ch→s.heap.get? b = some o→∃ o',h'.get? b = some o')
 (tups : ∀ b xs,H b = some (.tup xs)→H' b = some (.tup xs)) (HJ : ∀ b o u,H b = some (.frz o u)→H' b = some (.frz o u)) (JX : ∀ b ps,H b = some (.tbl ps)→∃ more,H' b = some (.tbl (ps ++ more)))
 (ns : ∀ m,s.heap.Ns X.env.locals m→h'.Ns X.env.locals m) (hok : Gu X.prog X.w H' h') (hg : AllBare g') :
 Inv X pins σ H' { s with heap := h',gens := g',drawn := d',toks := t' } := by
 have neL : ∀ b o,X.s₀.heap.get? b = some o→b≠X.env.locals := fun b o e => Nat.ne_of_lt (Nat.lt_of_lt_of_le (Heap.lt_size e) I.ok.above)
 have neC : ∀ b o,X.s₀.heap.get? b = some o→b∉X.ex→b∉ch := fun b o e hx hb => by
  rcases (hch b hb).1 with z | z
  ·exact hx z
  ·exact absurd (Nat.lt_of_lt_of_le (Heap.lt_size e) z) (Nat.lt_irrefl _)
 have cellK : ∀ x c,X.env.cells.lookup x = some c→∀ v,s.heap.IsCell c v→h'.IsCell c v := fun x c e v ⟨o,ho,hd⟩ => by
  have nch : c∉ch := fun z => (hch c z).2.2.1 x c e rfl
  by_cases hc : c∈X.fs
  ·obtain ⟨sl,q⟩ := slot c o (I.cne x c e) hc nch ho (I.uq x c e)
   exact ⟨_,q,hd⟩
  ·exact ⟨o,keep c o (I.cne x c e) hc nch ho (I.uq x c e),hd⟩
 refine ⟨I.ok,I.os,hg,⟨fun b o e n hb hx => ?_,fun b o e n hb hx => ?_,fun b o e n hx => ?_,fun b o e hx => ?_,fun b xs e => tups b xs (I.base.tups b xs e),fun b o xs e => HJ b o xs (I.base.HJ b o xs e),fun b ps e => ?_⟩,?_,fun x c e => ?_,?_,fun x c e => ?_,fun p hp => ?_,hok,I.len⟩
 ·exact keep b o (neL b o e) hb (neC b o e hx) (I.base.keep b o e n hb hx) (I.base.free b o e n hx)
 ·obtain ⟨sl,e1⟩ := I.base.slot b o e n hb hx
  obtain ⟨sl',e2⟩ := slot b _ (neL b o e) hb (neC b o e hx) e1 (I.base.free b o e n hx)
  exact ⟨sl',e2⟩
 ·obtain ⟨o',e1⟩ := I.base.there b o e hx
  exact free b o' (neC b o e hx) e1 (I.base.free b o e n hx)
 ·obtain ⟨o',e1⟩ := I.base.there b o e hx
  exact there b o' (neC b o e hx) e1
 ·obtain ⟨m1,e1⟩ := I.base.JX b ps e
  obtain ⟨m2,e2⟩ := JX b _ e1
  exact ⟨m1 ++ m2,by rw [e2,Array.append_assoc]⟩
 ·obtain ⟨m,hn,hl⟩ := I.loc
  refine ⟨m,ns m hn,fun i x v e1 e2 e3 => ?_⟩
  obtain ⟨u,r,l⟩ := hl i x v e1 e2 e3
  refine ⟨u,r,?_⟩
  rcases l with l | ⟨k,c,e,z⟩
  ·exact .inl l
  ·exact .inr ⟨k,c,e,cellK x c e _ z⟩
 ·obtain ⟨v,z⟩ := I.cell x c e
  exact ⟨v,cellK x c e v z⟩
 ·obtain ⟨m,⟨o,_,_,ho,_⟩,_⟩ := I.loc
  exact free _ o (fun z => (hch _ z).2.1 rfl) ho I.free
 ·obtain ⟨v,o,ho,hd⟩ := I.cell x c e
  exact free c o (fun z => (hch c z).2.2.1 x c e rfl) ho (I.uq x c e)
 ·obtain ⟨e,n,ne,nf,d⟩ := I.pin p hp
  have nch : p.1∉ch := fun z => (hch p.1 z).2.2.2 p hp rfl
  exact ⟨keep p.1 p.2 ne nf nch e n,free p.1 p.2 nch e n,ne,nf,d⟩
theorem Inv.un {t' : Nat} (I : Inv X pins σ H s) (u : Un X.fs [] H H' s.heap h') (hok : Gu X.prog X.w H' h') : Inv X pins σ H' { s with heap := h',toks := t' } := by
 obtain ⟨m,⟨o,es,ep,ho,r⟩,_⟩ := id I.loc
 obtain ⟨sl,hL⟩ := u.any ho I.free (by simp)
 exact I.step (g' := s.gens) (d' := s.drawn) (ch := []) (fun _ z => nomatch z) (fun b o _ hb _ e n => u.keep b o e n hb (by simp)) (fun b o _ hb _ e n => u.slot b o e n hb (by simp)) (fun b o _ e n => u.free b o e n (by simp)) (fun b o _ e => u.there b o e (by simp)) u.tups u.HJ u.JX (fun m' hm => by
  obtain ⟨o',es',ep',ho',r'⟩ := hm
  rw [ho] at ho'; cases ho'
  exact ⟨_,es',ep',hL,r'⟩) hok I.bare
theorem Inv.call {g' : Array GenState} {t' : Nat} {d' : Drawn} {ch : List Addr} (I : Inv X pins σ H s) (u : Un (frs X.stack) ch H H' s.heap h') (hok : Gu X.prog X.w H' h') (hg : AllBare g')
 (hch : ∀ b∈ch,(b∈X.ex∨X.s₀.heap.objs.size≤b)∧b≠X.env.locals∧(∀ x c,X.env.cells.lookup x = some c→c≠b)∧∀ p∈X.pn ++ pins,p.1≠b) :
 Inv X pins σ H' { s with heap := h',gens := g',drawn := d',toks := t' } := by
 obtain ⟨m,⟨o,es,ep,ho,r⟩,_⟩ := id I.loc
 obtain ⟨sl,hL⟩ := u.any ho I.free fun z => (hch _ z).2.1 rfl
 exact I.step (ch := ch) hch (fun b o hL hb hc e n => u.keep b o e n (fun z => (List.mem_cons.mp (I.Vf b z)).elim hL hb) hc) (fun b o _ _ hc e n => u.any e n hc) (fun b o hc e n => u.free b o e n hc) (fun b o hc e => u.there b o e hc) u.tups u.HJ u.JX (fun m' hm => by
  obtain ⟨o',es',ep',ho',r'⟩ := hm
  rw [ho] at ho'; cases ho'
  exact ⟨_,es',ep',hL,r'⟩) hok hg
theorem Inv.turned {t' : Nat} {it : Addr} (I : Inv X pins σ H s) (k : ∀ b o,b≠it→s.heap.get? b = some o→h'.get? b = some o) (hn : H it = none) (hL : it≠X.env.locals)
 (h1 : it∈X.ex∨X.s₀.heap.objs.size≤it) (h2 : ∀ x c,X.env.cells.lookup x = some c→c≠it) (h3 : ∀ p∈X.pn ++ pins,p.1≠it) : Inv X pins σ H { s with heap := h',toks := t' } := by
 have nit : ∀ b u,H b = some u→b≠it := fun b u e z => by rw [z,hn] at e; cases e
 refine I.step (g' := s.gens) (d' := s.drawn) (ch := [it]) (fun b hb => ?_) (fun b o _ _ hc e _ => k b o (fun z => hc (by simp [z])) e) (fun b o _ _ hc e _ => ⟨o.slots,k b o (fun z => hc (by simp [z])) e⟩) (fun _ _ _ _ n => n)
  (fun b o hc e => ⟨o,k b o (fun z => hc (by simp [z])) e⟩) (fun _ _ e => e) (fun _ _ _ e => e) (fun b ps e => ⟨#[],by rw [e]; simp⟩) (fun m hm => ?_) (fun b u e => ?_) I.bare
 ·have e : b = it := by simpa using hb
  subst e
  exact ⟨h1,hL,h2,h3⟩
 ·obtain ⟨o,es,ep,ho,r⟩ := hm
  exact ⟨o,es,ep,k _ o (Ne.symm hL) ho,r⟩
 ·refine (I.hok b u e).stay (fun c v hc q => k c v ?_ q) (fun _ q => q) fun _ _ q => q
  rcases hc with z | z
  ·rw [z]; exact nit b u e
  ·exact nit c _ z
theorem Inv.tok (I : Inv X pins σ H s) (t : Nat) : Inv X pins σ H { s with toks := t } := I.un (h' := s.heap) (t' := t) Un.refl I.hok
theorem Inv.kept {t' : Nat} (I : Inv X pins σ H s) (k : ∀ b u,s.heap.get? b = some u→h'.get? b = some u) : Inv X pins σ H { s with heap := h',toks := t' } := I.un (Un.kept k) (I.hok.kept k)
theorem Inv.laid {a : Addr} {o : HO} {t' : Nat} (I : Inv X pins σ H s) (k : ∀ b u,s.heap.get? b = some u→h'.get? b = some u) (hp : s.heap.objs.size≤a) (new : fH X.prog X.w (upd H a o) h' a o) :
 Inv X pins σ (upd H a o) { s with heap := h',toks := t' } := I.un (Un.laid k hp (I.hok.fresh hp)) (I.hok.laid k hp new)
theorem Inv.write {x e : Addr} {o : HO} {t' : Nat} (I : Inv X pins σ H s) (mu : Mut (H x)) (he : e = x∨H e = some (.own x)) (k : ∀ b u,b≠e→s.heap.get? b = some u→h'.get? b = some u) (heo : ∃ u,h'.get? e = some u)
 (new : fH X.prog X.w (upd H x o) h' x o) : Inv X pins σ (upd H x o) { s with heap := h',toks := t' } := I.un (Un.write mu he k heo) (I.hok.write mu he k heo new)
theorem Inv.ahX {akg : List (Addr×Obj)} (I : Inv X pins σ H s) (h : ∀ p∈akg,s.heap.get? p.1 = some p.2∧H p.1 = none∧p.1≠X.env.locals∧p.1∉X.fs∧∀ v,p.2.data≠.cell v) : Inv X akg σ H s :=
 ⟨I.ok,I.os,I.bare,I.base,I.loc,I.cell,I.free,I.uq,fun p hp => (List.mem_append.mp hp).elim (fun z => I.pin p (List.mem_append_left _ z)) (h p),I.hok,I.len⟩
theorem aeg {N : List Str} (hN : N.Nodup) {i j : Nat} {x : Str} (a : N[i]? = some x) (b : N[j]? = some x) : i = j := by
 obtain ⟨h1,e1⟩ := List.getElem?_eq_some_iff.mp a
 obtain ⟨h2,e2⟩ := List.getElem?_eq_some_iff.mp b
 exact (List.getElem_inj hN).mp (e1.trans e2.symm)
theorem aau {M : Model} {A : Around} {E : Value→Shared→Prop} {i : Nat} {x : Str} {v : V} {u : Value} {Q : Unit→Shared→Prop} (I : Inv X pins σ H s) (hN : X.N.Nodup) (hi : X.N[i]? = some x) (hx : Loc X.env.scope x) (r : RelV v u)
 (h : ∀ s',Inv X pins (σ.set i (some v)) H s'→(∃ a,Heap.SameBut a s.heap s'.heap∧(a = X.env.locals∨X.env.cells.lookup x = some a))→Q () s') (hf : X.fn x = true∨X.env.scope.names.lookup x = some .local := by first | exact .inl rfl | exact .inr rfl | assumption) : wpAny M A (storeName X.env x u) Q E s := by
 obtain ⟨m,hn,hl⟩ := id I.loc
 have hcls : (X.env.scope.kind == .class || (X.env.scope.kind == .module && X.env.locals != X.env.globals)) = false := by rw [I.ok.kind]; rfl
 have hiσ : i < σ.length := by rw [I.len]; exact (List.getElem?_eq_some_iff.mp hi).1
 have cne := I.cne
 have tracked : ∀ {a : Addr} {h' : Heap},(∃ o,s.heap.get? a = some o∧H a = none)→Heap.SameBut a s.heap h'→Gu X.prog X.w H h' := fun {a h'} ha hs b ob e => by
  obtain ⟨_,_,hfree⟩ := ha
  refine (I.hok b ob e).stay (fun c w' hc q => (hs.2 c ?_).trans q) (fun _ q => q) fun _ _ q => q
  rintro rfl
  rcases hc with rfl | hc
  ·rw [hfree] at e; cases e
  ·rw [hfree] at hc; cases hc
 rcases hx with hk | hk
 ·refine wpAny_storeName_local hk hn (fun h' hn' hs => ?_) hcls
  obtain ⟨oL,_,_,hoL,_⟩ := id hn
  refine h _ ⟨I.ok,I.os,I.bare,⟨fun b o e n hb hx => ?_,fun b o e n hb hx => ?_,I.base.free,fun b o e hx => ?_,I.base.tups,I.base.HJ,I.base.JX⟩,⟨_,hn',fun j y v' e1 e2 e3 => ?_⟩,fun y c e => ?_,I.free,I.uq,fun p hp => ?_,tracked ⟨oL,hoL,I.free⟩ hs,by simpa using I.len⟩ ⟨_,hs,.inl rfl⟩
  ·exact (hs.2 b (Nat.ne_of_lt (Nat.lt_of_lt_of_le (Heap.lt_size e) I.ok.above))).trans (I.base.keep b o e n hb hx)
  ·obtain ⟨sl,e1⟩ := I.base.slot b o e n hb hx
   exact ⟨sl,(hs.2 b (Nat.ne_of_lt (Nat.lt_of_lt_of_le (Heap.lt_size e) I.ok.above))).trans e1⟩
  ·obtain ⟨o',e1⟩ := I.base.there b o e hx
   exact ⟨o',(hs.2 b (Nat.ne_of_lt (Nat.lt_of_lt_of_le (Heap.lt_size e) I.ok.above))).trans e1⟩
  ·by_cases hj : j = i
   ·subst hj
    rw [hi] at e1; cases e1
    rw [List.getElem?_set_self hiσ] at e2
    cases e2
    exact ⟨u,r,.inl ⟨hk,by simp⟩⟩
   ·rw [List.getElem?_set_ne (Ne.symm hj)] at e2
    obtain ⟨u',r',q⟩ := hl j y v' e1 e2 e3
    refine ⟨u',r',?_⟩
    rcases q with ⟨k,e⟩ | ⟨k,c,e,z⟩
    ·refine .inl ⟨k,?_⟩
     have : y≠x := fun e => hj (aeg hN e1 (e▸hi))
     simp [this,e]
    ·exact .inr ⟨k,c,e,z.sameBut hs (cne y c e)⟩
  ·obtain ⟨w',z⟩ := I.cell y c e
   exact ⟨w',z.sameBut hs (cne y c e)⟩
  ·obtain ⟨e,n,ne,nf,d⟩ := I.pin p hp
   exact ⟨(hs.2 p.1 ne).trans e,n,ne,nf,d⟩
 ·have hfn : X.fn x = true := by
   rcases hf with z | z
   ·exact z
   ·rw [z] at hk; cases hk
  obtain ⟨c,hc⟩ := I.ok.has x (.inl hk)
  obtain ⟨w',z⟩ := I.cell x c hc
  refine wpAny_storeName_cell I.ok.kind hk hc z (fun h' hc' hs => ?_)
  obtain ⟨oc,hoc,awO⟩ := id z
  refine h { s with heap := h' } ⟨I.ok,I.os,I.bare,⟨fun b o e n hb hx => ?_,fun b o e n hb hx => ?_,I.base.free,fun b o e hx => ?_,I.base.tups,I.base.HJ,I.base.JX⟩,⟨m,hn.sameBut hs (Ne.symm (cne x c hc)),fun j y v' e1 e2 e3 => ?_⟩,fun y c' e => ?_,I.free,I.uq,fun p hp => ?_,tracked ⟨oc,hoc,I.uq x c hc⟩ hs,by simpa using I.len⟩ ⟨c,hs,.inr hc⟩
  ·exact (hs.2 b (Nat.ne_of_lt (Nat.lt_of_lt_of_le (Heap.lt_size e) (I.ok.cab x c hfn hc)))).trans (I.base.keep b o e n hb hx)
  ·obtain ⟨sl,e1⟩ := I.base.slot b o e n hb hx
   exact ⟨sl,(hs.2 b (Nat.ne_of_lt (Nat.lt_of_lt_of_le (Heap.lt_size e) (I.ok.cab x c hfn hc)))).trans e1⟩
  ·obtain ⟨o',e1⟩ := I.base.there b o e hx
   exact ⟨o',(hs.2 b (Nat.ne_of_lt (Nat.lt_of_lt_of_le (Heap.lt_size e) (I.ok.cab x c hfn hc)))).trans e1⟩
  ·by_cases hj : j = i
   ·subst hj
    rw [hi] at e1; cases e1
    rw [List.getElem?_set_self hiσ] at e2
    cases e2
    exact ⟨u,r,.inr ⟨.inl hk,c,hc,hc'⟩⟩
   ·rw [List.getElem?_set_ne (Ne.symm hj)] at e2
    obtain ⟨u',r',q⟩ := hl j y v' e1 e2 e3
    refine ⟨u',r',?_⟩
    rcases q with q | ⟨k,c',e,z'⟩
    ·exact .inl q
    ·refine .inr ⟨k,c',e,z'.sameBut hs ?_⟩
     rintro rfl
     exact hj (aeg hN e1 (I.ok.inj _ _ _ e hc▸hi))
  ·by_cases hcc : c' = c
   ·subst hcc; exact ⟨_,hc'⟩
   ·obtain ⟨w2,z2⟩ := I.cell y c' e
    exact ⟨w2,z2.sameBut hs hcc⟩
  ·obtain ⟨e,n,ne,nf,d⟩ := I.pin p hp
   refine ⟨(hs.2 p.1 ?_).trans e,n,ne,nf,d⟩
   intro q
   rw [q,hoc] at e
   have q' : oc = p.2 := Option.some.inj e
   exact d w' (by rw [← q']; exact awO)
theorem aeh {M : Model} {A : Around} {E : Value→Shared→Prop} {i : Nat} {x : Str} {v : V} {u : Value} {Q : Unit→Shared→Prop} (I : Inv X pins σ H s) (hN : X.N.Nodup) (hi : X.N[i]? = some x) (hx : Loc X.env.scope x) (r : RelV v u)
 (h : ∀ s',Inv X pins (σ.set i (some v)) H s'→Q () s') (hf : X.fn x = true∨X.env.scope.names.lookup x = some .local := by first | exact .inl rfl | exact .inr rfl | assumption) : wpAny M A (storeName X.env x u) Q E s :=
 aau I hN hi hx r (fun s' I' _ => h s' I') hf
theorem Inv.call' {s' : Shared} {ch : List Addr} (I : Inv X pins σ H s) (ho : s'.os = s.os) (u : Un (frs X.stack) ch H H' s.heap s'.heap) (hok : Gu X.prog X.w H' s'.heap) (hg : AllBare s'.gens)
 (hch : ∀ b∈ch,(b∈X.ex∨X.s₀.heap.objs.size≤b)∧b≠X.env.locals∧(∀ x c,X.env.cells.lookup x = some c→c≠b)∧∀ p∈X.pn ++ pins,p.1≠b) : Inv X pins σ H' s' := by
 obtain ⟨h',g',d',t',o'⟩ := s'
 have e : o' = s.os := ho
 subst e
 exact I.call (g' := g') (t' := t') (d' := d') u hok hg hch
end
abbrev XK := Value→Option Addr→Hp→Prop
abbrev St := List (Option V)
abbrev VK := V→Hp→Prop
abbrev TE := St→Hp→VK→Prop
abbrev TT := St→Hp→(Bool→Hp→Prop)→Prop
abbrev TA := St→Hp→(List V→Hp→Prop)→Prop
structure Ends where
 nx : St→Hp→Prop
 rt : VK
 bk : St→Hp→Prop := fun _ _ => False
 ct : St→Hp→Prop := fun _ _ => False
abbrev TS := Ends→St→Hp→Prop
def EP (X : Cx) (pins : List (Addr×Obj)) (σ : St) (Q : VK) (u : Value) (s' : Shared) : Prop := ∃ v H',Inv X pins σ H' s'∧RelV v u∧Q v H'
def TP (X : Cx) (pins : List (Addr×Obj)) (σ : St) (Q : Bool→Hp→Prop) (b : Bool) (s' : Shared) : Prop := ∃ H',Inv X pins σ H' s'∧Q b H'
def AP (X : Cx) (pins : List (Addr×Obj)) (σ : St) (Q : List V→Hp→Prop) (us : List Value) (s' : Shared) : Prop := ∃ vs H',Inv X pins σ H' s'∧Vals vs us∧Q vs H'
def SP (X : Cx) (pins : List (Addr×Obj)) (D : Ends) (f : Flow) (s' : Shared) : Prop :=
 match f with
 | .next => ∃ σ' H',Inv X pins σ' H' s'∧D.nx σ' H'
 | .brk => ∃ σ' H',Inv X pins σ' H' s'∧D.bk σ' H'
 | .cont => ∃ σ' H',Inv X pins σ' H' s'∧D.ct σ' H'
 | .ret u => ∃ v σ' H',Inv X pins σ' H' s'∧RelV v u∧D.rt v H'
def PE (X : Cx) (e : Expr) (t : TE) : Prop :=
 ∀ (pins : List (Addr×Obj)) (s : Shared) (σ : St) (H : Hp) (Q : VK),Inv X pins σ H s→t σ H Q→wpAny (model X.prog X.w) X.A (eval e X.env) (EP X pins σ Q) X.xe s
def PT (X : Cx) (e : Expr) (t : TT) : Prop :=
 ∀ (pins : List (Addr×Obj)) (s : Shared) (σ : St) (H : Hp) (Q : Bool→Hp→Prop),Inv X pins σ H s→t σ H Q→wpAny (model X.prog X.w) X.A (isTrue e X.env (eval e X.env)) (TP X pins σ Q) X.xe s
def PW (X : Cx) (e : Expr) (t : TT) : Prop :=
 ∀ (whole : Sem Value) (pins : List (Addr×Obj)) (s : Shared) (σ : St) (H : Hp) (Q : Bool→Hp→Prop),Inv X pins σ H s→t σ H Q→wpAny (model X.prog X.w) X.A (isTrue e X.env whole) (TP X pins σ Q) X.xe s
theorem PW.pt {X : Cx} {e : Expr} {t : TT} (h : PW X e t) : PT X e t := h _
def PA (X : Cx) (es : List Expr) (t : TA) : Prop :=
 ∀ (pos : Pos) (pins : List (Addr×Obj)) (s : Shared) (σ : St) (H : Hp) (Q : List V→Hp→Prop),Inv X pins σ H s→t σ H Q→wpAny (model X.prog X.w) X.A (spliced (backTo pos (starEach es X.env))) (AP X pins σ Q) X.xe s
def PS (X : Cx) (st : Stmt) (t : TS) : Prop :=
 ∀ (pins : List (Addr×Obj)) (s : Shared) (σ : St) (H : Hp) (D : Ends),Inv X pins σ H s→t D σ H→wpAny (model X.prog X.w) X.A (exec st X.env) (SP X pins D) X.xe s
def PSs (X : Cx) (st : List Stmt) (t : TS) : Prop :=
 ∀ (pins : List (Addr×Obj)) (s : Shared) (σ : St) (H : Hp) (D : Ends),Inv X pins σ H s→t D σ H→wpAny (model X.prog X.w) X.A (execs st X.env) (SP X pins D) X.xe s
theorem fY {α : Type} {t : Sem α} {Q Q' : α→Shared→Prop} {M : Model} {A : Around} {E : Value→Shared→Prop} {s : Shared} (h : wpAny M A t Q E s) (hQ : ∀ a s,Q a s→Q' a s) : wpAny M A t Q' E s := wpAny_mono h hQ fun _ _ x => x
end L2
namespace L2
open PySem PySem.Spec PyProof.Rows
section
variable {X : Cx}
def iY (i : Nat) : TE := fun σ H Q => ∃ v,σ[i]? = some (some v)∧Q v H
def tC (v : V) : TE := fun _ H Q => Q v H
theorem ap4 {i : Nat} {x : Str} {pos : Pos} (hN : X.N[i]? = some x) (hv : Vis X.env.scope x) (hd : (x == ("__debug__" : Str)) = false := by decide) (hcd : (x == ("__classdict__" : Str)) = false := by decide) : PE X (.Name x pos) (iY i) := by
 intro pins s σ H Q I h
 obtain ⟨v,e,h⟩ := h
 obtain ⟨m,hn,hl⟩ := I.loc
 obtain ⟨u,r,l⟩ := hl i x v hN e hv
 have fin : EP X pins σ Q u s := ⟨v,H,I,r,h⟩
 rcases l with ⟨hk,hm⟩ | ⟨hk,c,hc,hcell⟩
 ·exact wpAny_Name (wpAny_loadName_local I.ok.kind hk hn hm fin) hd
 ·rcases hk with hk | hk
  ·exact wpAny_Name (wpAny_loadName_cell I.ok.kind hk hc hcell fin) hd
  ·exact wpAny_Name (wpAny_loadName_free I.ok.kind hk hc hcell fin hcd) hd
theorem az {i j pos} : PE X (.Constant (.int i) j pos) (tC (.int i)) := fun _ _ _ H _ I h => wpAny_Constant_int ⟨.int i,H,I.tok _,⟨_,rfl⟩,h⟩
theorem Vg {b j pos} : PE X (.Constant (.bool b) j pos) (tC (.bl b)) := fun _ _ _ H _ I h => Constant_bool ⟨.bl b,H,I,rfl,h⟩
theorem rK {j pos} : PE X (.Constant .none j pos) (tC .non) := fun _ _ _ H _ I h => Constant_none ⟨.non,H,I,rfl,h⟩
theorem aC {x j pos} : PE X (.Constant (.str x) j pos) (tC (.str x)) := fun _ _ _ H _ I h => Calls.Constant_str ⟨.str x,H,I.tok _,⟨_,rfl⟩,h⟩
def Gl (X : Cx) (x : Str) : Prop := X.env.kindOf x = some .globalImplicit
theorem yq {E : Value→Shared→Prop} {pins : List (Addr×Obj)} {s : Shared} {σ : St} {H : Hp} {x : Str} {u : Value} {pos : Pos} {Q : Value→Shared→Prop} (I : Inv X pins σ H s) (hg : Gl X x) (hm : X.mg x = some u) (h : Q u s)
 (hd : (x == ("__debug__" : Str)) = false := by decide) : wpAny (model X.prog X.w) X.A (eval (.Name x pos) X.env) Q E s :=
 Calls.Name_function_global I.ok.kind hg (Calls.loadGlobal_global (by rw [I.ok.glob]; exact I.mod.glob.keeps I.bk) hm h) hd
theorem Vh {E : Value→Shared→Prop} {pins : List (Addr×Obj)} {s : Shared} {σ : St} {H : Hp} {x : Str} {u : Value} {pos : Pos} {Q : Value→Shared→Prop} (I : Inv X pins σ H s) (hg : Gl X x) (hm : X.mg x = none) (hv : bootBuiltins x = some u) (h : Q u s)
 (hn : x≠"__name__" := by decide) (hd : (x == ("__debug__" : Str)) = false := by decide) : wpAny (model X.prog X.w) X.A (eval (.Name x pos) X.env) Q E s := by
 obtain ⟨mb,h1,h2⟩ := I.mod.blt
 exact Calls.Name_function_global I.ok.kind hg (Calls.loadGlobal_builtin (by rw [I.ok.glob]; exact I.mod.glob.keeps I.bk) hm (by rw [I.ok.blt]; exact h1.keeps I.bk) ((h2 x hn).trans hv) h) hd
theorem amK {x : Str} {v : V} {u : Value} {pos : Pos} (hg : Gl X x) (hm : X.mg x = some u) (r : RelV v u) (hd : (x == ("__debug__" : Str)) = false := by decide) : PE X (.Name x pos) (tC v) :=
 fun _ _ _ H _ I h => yq I hg hm ⟨v,H,I,r,h⟩ hd
theorem amL {x : Str} {v : V} {u : Value} {pos : Pos} (hg : Gl X x) (hm : X.mg x = none) (hv : bootBuiltins x = some u) (r : RelV v u) (hn : x≠"__name__" := by decide) (hd : (x == ("__debug__" : Str)) = false := by decide) : PE X (.Name x pos) (tC v) :=
 fun _ _ _ H _ I h => Vh I hg hm hv ⟨v,H,I,r,h⟩ hn hd
variable {a b : Expr} {ta tb : TE} {pos : Pos}
def PC (X : Cx) (op : CmpOp) (a b : Expr) (t : TE) : Prop :=
 ∀ (pins : List (Addr×Obj)) (s : Shared) (σ : St) (H : Hp) (Q : VK),Inv X pins σ H s→t σ H Q→
  wpAny (model X.prog X.w) X.A (eval a X.env) (fun v s₁ => wpAny (model X.prog X.w) X.A (eval b X.env) (fun u s₂ => wpAny (model X.prog X.w) X.A (compareOp op v u) (EP X pins σ Q) X.xe s₂) X.xe s₁) X.xe s
theorem aei (b : Expr) {op : CmpOp} (h : op≠.In) (h2 : op≠.NotIn) : behindInMarks op b = false := by
 have e1 : (op == CmpOp.In) = false := by cases op <;> first | rfl | exact absurd rfl h
 have e2 : (op == CmpOp.NotIn) = false := by cases op <;> first | rfl | exact absurd rfl h2
 cases b <;> simp [behindInMarks,e1,e2]
def awP (ta : TE) : TE := fun σ H Q => ta σ H fun x H1 => Q (.bl (decide (x = .non))) H1
def atp (ta : TE) : TE := fun σ H Q => ta σ H fun x H1 => Q (.bl (!decide (x = .non))) H1
theorem RelV.aej {x : V} {v : Value} (r : RelV x v) : (v == Value.none) = decide (x = .non) := by
 cases x with
 | non => cases r; rfl
 | bl _ => cases r; rfl
 | int _ => obtain ⟨t,rfl⟩ := r; rfl
 | str _ => obtain ⟨t,rfl⟩ := r; rfl
 | byt _ => obtain ⟨t,rfl⟩ := r; rfl
 | flt _ => obtain ⟨t,rfl⟩ := r; rfl
 | ref _ => cases r; rfl
 | ty _ => cases r; rfl
theorem agw {j pos'} (ha : PE X a ta) : PC X .Is a (.Constant .none j pos') (awP ta) := by
 intro pins s σ H Q I h
 refine fY (ha pins s σ H _ I h) fun v s1 hz => jW hz fun x H1 I1 r1 q1 => ?_
 exact Constant_none (is_none_gen ⟨.bl _,H1,I1,by rw [r1.aej]; rfl,q1⟩)
theorem ur {j pos'} (ha : PE X a ta) : PC X .IsNot a (.Constant .none j pos') (atp ta) := by
 intro pins s σ H Q I h
 refine fY (ha pins s σ H _ I h) fun v s1 hz => jW hz fun x H1 I1 r1 q1 => ?_
 exact Constant_none (isnot_none_gen ⟨.bl _,H1,I1,by rw [r1.aej]; rfl,q1⟩)
def tB (t : TE) : TT := fun σ H Q => t σ H fun x H1 => ∃ c,x = .bl c∧Q c H1
theorem akh {op : CmpOp} {t : TE} (h : PC X op a b t) (h1 : behindInMarks op b = false := by first | exact aei _ (by decide) (by decide) | rfl) : PE X (.Compare a [op] [b] pos) t := fun pins s σ H Q I hw => wpAny_Compare1 (h pins s σ H Q I hw) h1
theorem vD {op : CmpOp} {t : TE} (h : PC X op a b t) (h1 : behindInMarks op b = false := by first | exact aei _ (by decide) (by decide) | rfl) : PT X (.Compare a [op] [b] pos) (tB t) := by
 intro pins s σ H Q I hw
 refine wpAny_isTrue_Compare1 (fY (h pins s σ H _ I hw) fun v s1 h1 => fY h1 fun u s2 h2 => fY h2 fun c s3 hz => jW hz fun x H1 I1 r1 q1 => ?_) h1
 obtain ⟨d,rfl,q⟩ := q1
 cases r1
 exact wpAny_truthy_bool ⟨H1,I1,q⟩
theorem p7 {e : Expr} {t : TE} (h : PE X e t) (he : ∀ whole,isTrue e X.env whole = (do let v ← whole; standAt e.pos; holding [v] (truthy v)) := by intro _; rfl) : PT X e (tB t) := by
 intro pins s σ H Q I hw
 refine isTrue_plain (fY (h pins s σ H _ I hw) fun v s1 hz => jW hz fun x H1 I1 r1 q1 => ?_) (he _)
 obtain ⟨d,rfl,q⟩ := q1
 cases r1
 exact wpAny_truthy_bool ⟨H1,I1,q⟩
variable {tA tB' : TT} {rest : List Expr}
def atq (t u : TT) : TT := fun σ H Q => t σ H fun c H1 => if c = true then u σ H1 Q else Q false H1
def tOr (t u : TT) : TT := fun σ H Q => t σ H fun c H1 => if c = true then Q true H1 else u σ H1 Q
def awQ (t : TT) : TT := fun σ H Q => t σ H fun c H1 => Q (!c) H1
theorem JZ (ha : PT X a tA) : PW X (.BoolOp .And [a] pos) tA := by
 intro wh pins s σ H Q I h
 refine isTrue_and (fY (ha pins s σ H Q I h) fun c s1 e => ?_)
 cases c with
 | true => exact isTrue_and_nil e
 | false => exact e
theorem p8 (ha : PT X a tA) : PW X (.BoolOp .Or [a] pos) tA := by
 intro wh pins s σ H Q I h
 refine isTrue_or (fY (ha pins s σ H Q I h) fun c s1 e => ?_)
 cases c with
 | false => exact isTrue_or_nil e
 | true => exact e
theorem Oe (ha : PT X a tA) (hb : PW X (.BoolOp .And (b :: rest) pos) tB') : PW X (.BoolOp .And (a :: b :: rest) pos) (atq tA tB') := by
 intro wh pins s σ H Q I h
 refine isTrue_and (fY (ha pins s σ H _ I h) fun c s1 hz => ex3 hz fun H1 I1 q1 => ?_)
 cases c with
 | true => exact hb wh pins s1 σ H1 Q I1 q1
 | false => exact ⟨H1,I1,q1⟩
theorem wG (ha : PT X a tA) (hb : PW X (.BoolOp .Or (b :: rest) pos) tB') : PW X (.BoolOp .Or (a :: b :: rest) pos) (tOr tA tB') := by
 intro wh pins s σ H Q I h
 refine isTrue_or (fY (ha pins s σ H _ I h) fun c s1 hz => ex3 hz fun H1 I1 q1 => ?_)
 cases c with
 | true => exact ⟨H1,I1,q1⟩
 | false => exact hb wh pins s1 σ H1 Q I1 q1
theorem HQ (ha : PT X a tA) : PT X (.UnaryOp .Not a pos) (awQ tA) := by
 intro pins s σ H Q I h
 exact isTrue_not (ha pins s σ H (fun c H1 => Q (!c) H1) I h)
def atr (ta tb : TE) : TE := fun σ H Q => ta σ H fun x H1 => ∃ c,x = .bl c∧if c = true then tb σ H1 Q else Q (.bl false) H1
def awR (ta tb : TE) : TE := fun σ H Q => ta σ H fun x H1 => ∃ c,x = .bl c∧if c = true then Q (.bl true) H1 else tb σ H1 Q
def atu (ta : TE) : TE := fun σ H Q => ta σ H fun x H1 => ∃ c,x = .bl c∧Q (.bl (!c)) H1
theorem abg {op} {t : TE} (h : PE X a t) : PE X (.BoolOp op [a] pos) t := fun pins s σ H Q I hw => BoolOp_one (h pins s σ H Q I hw)
theorem agx (ha : PE X a ta) (hb : PE X (.BoolOp .And (b :: rest) pos) tb) : PE X (.BoolOp .And (a :: b :: rest) pos) (atr ta tb) := by
 intro pins s σ H Q I h
 refine BoolOp_and (fY (ha pins s σ H _ I h) fun v s1 hz => jW hz fun x H1 I1 r1 q1 => ?_)
 obtain ⟨c,rfl,q1⟩ := q1
 cases r1
 refine wpAny_truthy_bool ?_
 cases c with
 | true => exact hb pins s1 σ H1 Q I1 q1
 | false => exact ⟨.bl false,H1,I1,rfl,q1⟩
theorem atv (ha : PE X a ta) (hb : PE X (.BoolOp .Or (b :: rest) pos) tb) : PE X (.BoolOp .Or (a :: b :: rest) pos) (awR ta tb) := by
 intro pins s σ H Q I h
 refine BoolOp_or (fY (ha pins s σ H _ I h) fun v s1 hz => jW hz fun x H1 I1 r1 q1 => ?_)
 obtain ⟨c,rfl,q1⟩ := q1
 cases r1
 refine wpAny_truthy_bool ?_
 cases c with
 | false => exact hb pins s1 σ H1 Q I1 q1
 | true => exact ⟨.bl true,H1,I1,rfl,q1⟩
theorem ap5 (ha : PE X a ta) : PE X (.UnaryOp .Not a pos) (atu ta) := by
 intro pins s σ H Q I h
 refine UnaryOp_ (fY (ha pins s σ H _ I h) fun v s1 hz => jW hz fun x H1 I1 r1 q1 => ?_)
 obtain ⟨c,rfl,q1⟩ := q1
 cases r1
 exact not_of (wpAny_truthy_bool ⟨.bl (!c),H1,I1,rfl,q1⟩)
def tIf (t : TT) (ta tb : TE) : TE := fun σ H Q => t σ H fun c H1 => if c = true then ta σ H1 Q else tb σ H1 Q
theorem pB {c : Expr} (hc : PT X c tA) (ha : PE X a ta) (hb : PE X b tb) : PE X (.IfExp c a b pos) (tIf tA ta tb) := by
 intro pins s σ H Q I h
 refine wpAny_IfExp (fY (hc pins s σ H _ I h) fun d s1 hz => ex3 hz fun H1 I1 q1 => ?_)
 cases d with
 | true => exact ha pins s1 σ H1 Q I1 q1
 | false => exact hb pins s1 σ H1 Q I1 q1
end
end L2
namespace L2
open PySem PySem.Spec PyProof.Rows
def cz (K : PySem.W.Frag) (H : Hp) (a : Addr) (xs : List V) : Prop :=
 Rd H a (.lst xs)∨
  ∃ (o : Obj) (its : Array Value) (n : Nat),K.lookup a = some o∧o.cls = .type "list"∧o.dict = none∧o.data = .seq its n∧its.size≤sizeLine∧Vals xs its.toList
def dq (K : PySem.W.Frag) (H : Hp) (a : Addr) (xs : List V) : Prop :=
 Rd H a (.tup xs)∨
  ∃ (o : Obj) (its : Array Value) (n : Nat),K.lookup a = some o∧o.cls = .type "tuple"∧o.data = .seq its n∧its.size≤sizeLine∧Vals xs its.toList
def awS : Value→Option V
 | .none => some .non
 | .bool b => some (.bl b)
 | .int i _ => some (.int i)
 | .str x _ => some (.str x)
 | .bytes b _ => some (.byt b)
 | .float b _ => some (.flt b)
 | .ref a => some (.ref a)
 | .type n => some (.ty n)
 | _ => none
theorem RelV.abs {x : V} {u : Value} (r : RelV x u) : awS u = some x := by
 cases x with
 | non => cases r; rfl
 | bl _ => cases r; rfl
 | int _ => obtain ⟨t,rfl⟩ := r; rfl
 | str _ => obtain ⟨t,rfl⟩ := r; rfl
 | byt _ => obtain ⟨t,rfl⟩ := r; rfl
 | flt _ => obtain ⟨t,rfl⟩ := r; rfl
 | ref _ => cases r; rfl
 | ty _ => cases r; rfl
theorem RelV.inj {x y : V} {u : Value} (r : RelV x u) (q : RelV y u) : x = y := Option.some.inj (r.abs.symm.trans q.abs)
theorem Vals.inj : ∀ {xs ys : List V} {us : List Value},Vals xs us→Vals ys us→xs = ys
 | _,_,_,.nil,.nil => rfl
 | _,_,_,.cons r t,.cons r' t' => by rw [r.inj r',Vals.inj t t']
section
variable {X : Cx} {pins : List (Addr×Obj)} {σ : St} {H : Hp} {s : Shared} {a : Addr} {xs ys : List V}
theorem cz.of {K : PySem.W.Frag} (h : H a = some (.lst xs)) : cz K H a xs := .inl (.inl h)
theorem dq.of {K : PySem.W.Frag} (h : H a = some (.tup xs)) : dq K H a xs := .inl (.inl h)
theorem Inv.list (I : Inv X pins σ H s) (h : cz X.K H a xs) : ∃ its : List Value,Vals xs its∧PlainL s.heap a its.toArray∧xs.length≤sizeLine := by
 rcases h with h | ⟨o,its,n,hk,hc,hd,hs,hz,r⟩
 ·obtain ⟨z,its,n,r,e⟩ := h.ok I.hok
  exact ⟨its,r,⟨_,n,e,rfl,rfl,rfl⟩,z⟩
 ·refine ⟨its.toList,r,⟨o,n,I.wF a o hk,hc,hd,by simpa using hs⟩,?_⟩
  have e := r.length
  simp only [Array.length_toList] at e
  lia
theorem Inv.tuple (I : Inv X pins σ H s) (h : dq X.K H a xs) : ∃ its : List Value,Vals xs its∧IsTup s.heap a its.toArray∧xs.length≤sizeLine := by
 rcases h with h | ⟨o,its,n,hk,hc,hs,hz,r⟩
 ·obtain ⟨z,its,r,p⟩ := h.ok I.hok
  exact ⟨its,r,p,z⟩
 ·refine ⟨its.toList,r,⟨o,I.wF a o hk,hc,n,by simpa using hs⟩,?_⟩
  have e := r.length
  simp only [Array.length_toList] at e
  lia
theorem Inv.aek (I : Inv X pins σ H s) (h : cz X.K H a xs) (h' : cz X.K H a ys) : xs = ys := by
 obtain ⟨its,r,⟨o,n,e,_,_,d⟩,_⟩ := I.list h
 obtain ⟨its',r',⟨o',n',e',_,_,d'⟩,_⟩ := I.list h'
 rw [e] at e'; cases e'
 rw [d] at d'
 injection d' with d1 _
 have : its = its' := by simpa using congrArg Array.toList d1
 subst this
 exact r.inj r'
end
abbrev Cx.wish (X : Cx) (E : Value→Shared→Prop) : Cx := { X with xe := E }
abbrev Cx.j6 (X : Cx) : Cx := X.wish fun _ _ => False
theorem Cx.Ok.wish {X : Cx} (ok : X.Ok) (E : Value→Shared→Prop) : (X.wish E).Ok :=
 ⟨ok.mod,ok.kind,ok.glob,ok.blt,ok.above,ok.inj,ok.has,ok.cab,ok.hd,ok.frames,ok.stk,ok.exf,ok.bs,ok.bsz,ok.aef,ok.agv,ok.HN,ok.frf⟩
theorem Cx.Ok.vG {X : Cx} {E : Value→Shared→Prop} (ok : (X.wish E).Ok) : X.Ok :=
 ⟨ok.mod,ok.kind,ok.glob,ok.blt,ok.above,ok.inj,ok.has,ok.cab,ok.hd,ok.frames,ok.stk,ok.exf,ok.bs,ok.bsz,ok.aef,ok.agv,ok.HN,ok.frf⟩
section
variable {X : Cx} {pins : List (Addr×Obj)} {σ : St} {H : Hp} {s : Shared} {E : Value→Shared→Prop}
theorem Inv.wish (I : Inv X pins σ H s) (E : Value→Shared→Prop) : Inv (X.wish E) pins σ H s := ⟨I.ok.wish E,I.os,I.bare,I.base,I.loc,I.cell,I.free,I.uq,I.pin,I.hok,I.len⟩
theorem Inv.vG (I : Inv (X.wish E) pins σ H s) : Inv X pins σ H s := ⟨I.ok.vG,I.os,I.bare,I.base,I.loc,I.cell,I.free,I.uq,I.pin,I.hok,I.len⟩
theorem SP.vG {D : Ends} {f : Flow} {s' : Shared} (h : SP (X.wish E) pins D f s') : SP X pins D f s' := by
 cases f with
 | next => obtain ⟨σ',H',I,q⟩ := h; exact ⟨σ',H',I.vG,q⟩
 | brk => obtain ⟨σ',H',I,q⟩ := h; exact ⟨σ',H',I.vG,q⟩
 | cont => obtain ⟨σ',H',I,q⟩ := h; exact ⟨σ',H',I.vG,q⟩
 | ret u => obtain ⟨v,σ',H',I,r,q⟩ := h; exact ⟨v,σ',H',I.vG,r,q⟩
theorem PSs.j6 {st : List Stmt} {t : TS} (h : PSs X.j6 st t) : PSs X st t := fun pins s σ H D I hw =>
 wpAny_mono (h pins s σ H D (I.wish _) hw) (fun _ _ q => q.vG) fun _ _ z => False.elim z
end
section
variable {X : Cx} {st : Stmt} {rest : List Stmt} {t u : TS} {e : Expr} {te : TE} {pos : Pos}
def bJ : TS := fun D σ H => D.nx σ H
def aQ (t u : TS) : TS := fun D σ H => t { D with nx := u D } σ H
theorem bB : PSs X [] bJ := fun _ _ σ H _ I h => wpAny_execs_nil ⟨σ,H,I,h⟩
theorem ak (h1 : PS X st t) (h2 : PSs X rest u) : PSs X (st :: rest) (aQ t u) := by
 intro pins s σ H D I h
 refine wpAny_execs_cons (fY (h1 pins s σ H { D with nx := u D } I h) fun f s1 q => ?_)
 cases f with
 | next =>
   obtain ⟨σ',H',I',q⟩ := q
   exact h2 pins s1 σ' H' D I' q
 | ret v => exact q
 | brk => exact q
 | cont => exact q
theorem aB (h1 : PS X st t) : PSs X [st] t := by
 intro pins s σ H D I h
 refine wpAny_execs_cons (fY (h1 pins s σ H D I h) fun f s1 q => ?_)
 cases f with
 | next => exact wpAny_execs_nil q
 | ret v => exact q
 | brk => exact q
 | cont => exact q
theorem Inv.quiet {pins : List (Addr×Obj)} {σ : St} {H : Hp} {s : Shared} (I : Inv X pins σ H s) : interactive X.env = false := by simp [interactive,I.ok.kind]
def ahY (te : TE) : TS := fun D σ H => te σ H fun _ H1 => D.nx σ H1
theorem bM (he : PE X e te) (hs : swapsWith e none pos.line X.env = pure false := by rfl) : PS X (.Expr e pos) (ahY te) := by
 intro pins s σ H D I h
 exact wpAny_Expr_any (fY (he pins s σ H _ I h) fun v s1 hz => jW hz fun x H1 I1 r1 q1 => ⟨σ,H1,I1,q1⟩) I.quiet hs
def ap6 (te : TE) : TS := fun D σ H => te σ H D.rt
theorem bj (he : PE X e te) : PS X (.Return (some e) pos) (ap6 te) := by
 intro pins s σ H D I h
 exact wpAny_Return_some (fY (he pins s σ H _ I h) fun v s1 hz => jW hz fun x H1 I1 r1 q1 => ⟨x,σ,H1,I1,r1,q1⟩)
def cY (c : TT) (t u : TS) : TS := fun D σ H => c σ H fun b H1 => if b = true then t D σ H1 else u D σ H1
theorem cu {c : Expr} {a b : List Stmt} {tc : TT} (hc : PT X c tc) (ha : PSs X a t) (hb : PSs X b u) : PS X (.If c a b pos) (cY tc t u) := by
 intro pins s σ H D I h
 refine wpAny_If (fY (hc pins s σ H _ I h) fun d s1 hz => ex3 hz fun H1 I1 q1 => ?_)
 cases d with
 | true => exact ha pins s1 σ H1 D I1 q1
 | false => exact hb pins s1 σ H1 D I1 q1
def ap7 : TS := fun _ _ _ => False
end
abbrev TG := V→St→Hp→(St→Hp→Prop)→Prop
abbrev TGs := List V→St→Hp→(St→Hp→Prop)→Prop
def PG (X : Cx) (target : Expr) (t : TG) : Prop :=
 ∀ (pins : List (Addr×Obj)) (s : Shared) (σ : St) (H : Hp) (v : V) (u : Value) (Q : St→Hp→Prop),Inv X pins σ H s→RelV v u→t v σ H Q→
  wpAny (model X.prog X.w) X.A (assign target X.env u) (fun _ s' => ∃ σ' H',Inv X pins σ' H' s'∧Q σ' H') X.xe s
def PGs (X : Cx) (ts : List Expr) (t : TGs) : Prop :=
 ∀ (pins : List (Addr×Obj)) (s : Shared) (σ : St) (H : Hp) (vs : List V) (us : List Value) (Q : St→Hp→Prop),Inv X pins σ H s→Vals vs us→t vs σ H Q→
  wpAny (model X.prog X.w) X.A (assignInOrder ((assignEach ts X.env).map (·.2)) us) (fun _ s' => ∃ σ' H',Inv X pins σ' H' s'∧Q σ' H') X.xe s
abbrev ap8 := V→V→V→Hp→(Hp→Prop)→Prop
def atx (X : Cx) (t : ap8) : Prop :=
 ∀ (pins : List (Addr×Obj)) (s : Shared) (σ : St) (H : Hp) (o i v : V) (ov iv u : Value) (Q : Hp→Prop),Inv X pins σ H s→RelV o ov→RelV i iv→RelV v u→t o i v H Q→
  wpAny (model X.prog X.w) X.A (setItem ov iv u) (fun _ s' => ∃ H',Inv X pins σ H' s'∧Q H') X.xe s
section
variable {X : Cx} {pos : Pos}
def aav (i : Nat) : TG := fun v σ H Q => Q (σ.set i (some v)) H
theorem dg {i : Nat} {x : Str} (hN : X.N.Nodup) (hi : X.N[i]? = some x) (hx : Loc X.env.scope x) (hf : X.fn x = true∨X.env.scope.names.lookup x = some .local := by first | exact .inl rfl | exact .inr rfl | assumption) : PG X (.Name x pos) (aav i) := by
 intro pins s σ H v u Q I r h
 exact wpAny_assign_Name (aeh I hN hi hx r (fun s' I' => ⟨_,H,I',h⟩) hf)
def awT : TGs := fun vs σ H Q => vs = []∧Q σ H
def aty (t : TG) (u : TGs) : TGs := fun vs σ H Q => ∃ v r,vs = v :: r∧t v σ H fun σ' H' => u r σ' H' Q
theorem Gi : PGs X [] awT := by
 intro pins s σ H vs us Q I r h
 obtain ⟨e,h⟩ := h
 subst e
 cases r
 exact assignInOrder_nil ⟨σ,H,I,h⟩
theorem iG {e : Expr} {es : List Expr} {t : TG} {u : TGs} (h1 : PG X e t) (h2 : PGs X es u)
 (hs : (assignEach (e :: es) X.env).map (·.2) = assign e X.env :: (assignEach es X.env).map (·.2) := by rfl) : PGs X (e :: es) (aty t u) := by
 intro pins s σ H vs us Q I r h
 obtain ⟨v,vr,e1,h⟩ := h
 subst e1
 cases r with
 | cons r rr =>
   rw [hs]
   refine assignInOrder_cons (fY (h1 pins s σ H _ _ _ I r h) fun _ s1 hz => ex4 hz fun σ1 H1 I1 q1 => ?_)
   exact h2 pins s1 σ1 H1 _ _ Q I1 rr q1
def atz (K : PySem.W.Frag) (n : Nat) (t : TGs) : TG := fun v σ H Q => ∃ a xs,v = .ref a∧dq K H a xs∧xs.length = n∧t xs σ H Q
theorem Og {es : List Expr} {k : Nat} {t : TGs} {n : Nat} (hc : X.calm = true) (h : PGs X es t)
 (hn : (assignEach es X.env).length = n := by rfl) (hst : (assignEach es X.env).findIdx? (·.1) = none := by rfl) : PG X (.Tuple es k pos) (atz X.K n t) := by
 intro pins s σ H v u Q I r hw
 obtain ⟨a,xs,e1,hq,hl,hw⟩ := hw
 subst e1
 cases r
 obtain ⟨its,rv,ht,hz⟩ := I.tuple hq
 refine assign_Tuple_tuple (I.ok.hd hc) ht (by simp [hn,← hl,rv.length]) hst fun h' hx => ?_
 have I1 : Inv X pins σ H { s with heap := h' } := I.kept (t' := s.toks) fun b o e => hx b o (Nat.ne_of_lt (Heap.lt_size e)) e
 exact h pins _ σ H xs _ Q I1 (by simpa using rv) hw
def atA (to ti : TE) (t : ap8) : TG := fun v σ H Q => to σ H fun o H1 => ti σ H1 fun i H2 => t o i v H2 fun H3 => Q σ H3
theorem HR {o i : Expr} {to ti : TE} {t : ap8} (ho : PE X o to) (hi : PE X i ti) (hs : atx X t)
 (ha : ∀ v,assign (.Subscript o i pos) X.env v = (do
   let ov ← holding [v] (eval o X.env)
   let iv ← holding [v,ov] (eval i X.env)
   standAt pos
   holding [v,ov,iv] (setItem ov iv v)
   release [v,ov,iv] []) := by intro _; rfl) : PG X (.Subscript o i pos) (atA to ti t) := by
 intro pins s σ H v u Q I r h
 rw [ha]
 refine wpAny_bind (wpAny_holding (fY (ho pins s σ H _ I h) fun ov s1 hz => jW hz fun x H1 I1 r1 q1 => ?_))
 refine wpAny_bind (wpAny_holding (fY (hi pins s1 σ H1 _ I1 q1) fun iv s2 hz => jW hz fun y H2 I2 r2 q2 => ?_))
 refine wpAny_bind (wpAny_standAt (wpAny_bind (wpAny_holding (fY (hs pins s2 σ H2 x y v ov iv u _ I2 r1 r2 r q2) fun _ s3 hz => ex3 hz fun H3 I3 q3 => ?_))))
 exact wpAny_release ⟨σ,H3,I3,q3⟩
def ap9 (te : TE) (g : TG) : TS := fun D σ H => te σ H fun x H1 => g x σ H1 D.nx
theorem yr {tg e : Expr} {te : TE} {g : TG} (he : PE X e te) (hg : PG X tg g) (hs : swapsWithSole [tg] e pos.line X.env = pure false := by rfl) (hw : swappedStores [tg] e X.env = pure none := by rfl)
 (h1 : (assignEach [tg] X.env).map (·.2) = [assign tg X.env] := by rfl) : PS X (.Assign [tg] e pos) (ap9 te g) := by
 intro pins s σ H D I h
 refine wpAny_Assign_stores (fY (he pins s σ H _ I h) fun v s1 hz => jW hz fun x H1 I1 r1 q1 => ?_) hs hw
 rw [h1]
 exact fY (hg pins s1 σ H1 x v _ I1 r1 q1) fun _ s2 q => q
theorem bu {i : Nat} {x : Str} {e : Expr} {te : TE} {pos' : Pos} (hN : X.N.Nodup) (hi : X.N[i]? = some x) (hx : Loc X.env.scope x) (he : PE X e te) (hs : swapsWith e (some (.Name x pos')) pos.line X.env = pure false := by rfl) (hf : X.fn x = true∨X.env.scope.names.lookup x = some .local := by first | exact .inl rfl | exact .inr rfl | assumption) :
 PS X (.Assign [.Name x pos'] e pos) (ap9 te (aav i)) := by
 intro pins s σ H D I h
 refine wpAny_Assign_Name (fY (he pins s σ H _ I h) fun v s1 hz => jW hz fun y H1 I1 r1 q1 => ?_) hs
 exact aeh I1 hN hi hx r1 (fun s2 I2 => ⟨_,H1,I2,q1⟩) hf
end
section
variable {X : Cx} {pos : Pos}
def abh (c : TT) (tb : TS) : TS := fun D σ H => ∃ W : Nat→St→Hp→Prop,(∃ m,W m σ H)∧∀ m σ H,W m σ H→
 c σ H fun b H1 => if b = true then ∃ N : St→Hp→Prop,(∀ σ' H',N σ' H'→∃ m',m' < m∧W m' σ' H')∧tb { D with nx := N,ct := N,bk := D.nx } σ H1 else D.nx σ H1
theorem Vi {c : Expr} {body : List Stmt} {tc : TT} {tb : TS} (hp : PassesOwn (model X.prog X.w) X.A X.env X.xe) (hc : PT X c tc) (hb : PSs X body tb) : PS X (.While c body [] pos) (abh tc tb) := by
 intro pins s σ H D I h
 obtain ⟨W,⟨m0,w0⟩,turn⟩ := h
 refine wpAny_While (codeAny_whileLoop (fun n s' => ∃ σ' H',Inv X pins σ' H' s'∧W n σ' H') ?_ m0 ⟨σ,H,I,w0⟩)
 rintro n s1 ⟨σ1,H1,I1,w1⟩
 refine wpAny_passesOwn hp (fY (hc pins s1 σ1 H1 _ I1 (turn n σ1 H1 w1)) fun b s2 hz => ex3 hz fun H2 I2 q2 => ?_)
 cases b with
 | true =>
   obtain ⟨N,hN,q2⟩ := q2
   rw [if_pos rfl]
   refine wpAny_passesOwn hp (fY (hb pins s2 σ1 H2 _ I2 q2) fun f s3 q3 => ?_)
   cases f with
   | next =>
     obtain ⟨σ3,H3,I3,n3⟩ := q3
     obtain ⟨m',hm,w3⟩ := hN σ3 H3 n3
     exact ⟨m',hm,σ3,H3,I3,w3⟩
   | cont =>
     obtain ⟨σ3,H3,I3,n3⟩ := q3
     obtain ⟨m',hm,w3⟩ := hN σ3 H3 n3
     exact ⟨m',hm,σ3,H3,I3,w3⟩
   | brk => exact q3
   | ret v => exact q3
 | false =>
   rw [if_neg Bool.false_ne_true]
   exact wpAny_execs_nil ⟨σ1,H2,I2,q2⟩
end
structure It where
 go : Nat→Hp→Prop
 yld : Nat→Hp→V→Hp→Prop
 stop : Nat→Hp→Prop
def J0 (X : Cx) (pins : List (Addr×Obj)) (H : Hp) (b : Addr) : Prop :=
 H b = none∧b≠X.env.locals∧b∉X.fs∧(b∈X.ex∨X.s₀.heap.objs.size≤b)∧(∀ x c,X.env.cells.lookup x = some c→c≠b)∧∀ p∈X.pn ++ pins,p.1≠b
theorem Inv.amM {X : Cx} {pins : List (Addr×Obj)} {σ : St} {H H' : Hp} {s : Shared} {b : Addr} (I : Inv X pins σ H s) (hb : s.heap.objs.size≤b) (hn : H' b = none) : J0 X pins H' b := by
 refine ⟨hn,Nat.ne_of_gt (Nat.lt_of_lt_of_le I.lt hb),I.awN hb,.inr (Nat.le_trans I.sz hb),fun x c e z => ?_,fun p hp z => ?_⟩
 ·obtain ⟨v,q⟩ := I.cell x c e
  exact absurd (Nat.lt_of_lt_of_le q.lt (by rw [z]; exact hb)) (Nat.lt_irrefl _)
 ·exact absurd (Nat.lt_of_lt_of_le (Heap.lt_size (I.pin p hp).1) (by rw [z]; exact hb)) (Nat.lt_irrefl _)
structure Turn (P : Program) (w : World) (K : PySem.W.Frag) (tg : Expr) (J : It) (fp : List Addr) (it : Addr) (tn : Nat→Heap→Prop) : Prop where
 mem : it∈fp
 obj : ∀ i h,tn i h→∀ b∈fp,∃ o,h.get? b = some o∧∀ v,o.data≠.cell v
 keep : ∀ i h h',tn i h→(∀ b∈fp,∀ o,h.get? b = some o→h'.get? b = some o)→tn i h'
 item : ∀ (X : Cx),X.prog = P→X.w = w→X.K = K→X.calm = true→∀ (i : Nat) (pins : List (Addr×Obj)) (s : Shared) (σ : St) (H : Hp) (E : Value→Shared→Prop),Inv X pins σ H s→(∀ b∈fp,J0 X pins H b)→tn i s.heap→J.go i H→
  wpAny (model P w) X.A (pyNext (.ref it)) (fun r s1 => ∃ u,r = some u∧
   wpAny (model P w) X.A (letOwnedTupleGo tg (.ref it) u) (fun _ s2 => ∃ x H',Inv X pins σ H' s2∧RelV x u∧J.yld i H x H'∧tn (i + 1) s2.heap∧∀ b∈fp,H' b = none) E s1) E s
 done : ∀ (X : Cx),X.prog = P→X.w = w→X.K = K→X.calm = true→∀ (i : Nat) (pins : List (Addr×Obj)) (s : Shared) (σ : St) (H : Hp) (E : Value→Shared→Prop),Inv X pins σ H s→(∀ b∈fp,J0 X pins H b)→tn i s.heap→J.stop i H→
  wpAny (model P w) X.A (pyNext (.ref it)) (fun r s1 => r = none∧Inv X pins σ H s1) E s
 self : ∀ (A : Around) (i : Nat) (s : Shared) (Q : Value→Shared→Prop) (E : Value→Shared→Prop),tn i s.heap→Q (.ref it) s→wpAny (model P w) A (pyIter (.ref it)) Q E s
abbrev TI := St→Hp→(It→Hp→Prop)→Prop
def PIE (X : Cx) (pins : List (Addr×Obj)) (σ : St) (tg : Expr) (R : It→Hp→Prop) (itv : Value) (s2 : Shared) : Prop :=
 ∃ (it : Addr) (fp : List Addr) (tn : Nat→Heap→Prop) (J : It) (H' : Hp),itv = .ref it∧Inv X pins σ H' s2∧Turn X.prog X.w X.K tg J fp it tn∧tn 0 s2.heap∧(∀ b∈fp,J0 X pins H' b)∧R J H'
def PI (X : Cx) (tg iter : Expr) (wi : TI) : Prop :=
 ∀ (pins : List (Addr×Obj)) (s : Shared) (σ : St) (H : Hp) (R : It→Hp→Prop),Inv X pins σ H s→wi σ H R→
  wpAny (model X.prog X.w) X.A (eval iter X.env) (fun v s1 => wpAny (model X.prog X.w) X.A (pyIter v) (PIE X pins σ tg R) X.xe s1) X.xe s
theorem apj {M : Model} {A : Around} {E : Value→Shared→Prop} {s : Shared} {tg : Expr} {it : Addr} {u : Value} {o : Obj} {n : String} {vs : Array Value} {Q : Unit→Shared→Prop} (ho : s.heap.get? it = some o) (hc : o.cls = .type n) (hd : o.data = .fields vs)
 (hn : ["enumerate","zip","dict_itemiterator","dict_reverseitemiterator","odict_iterator","itertools.zip_longest","itertools.pairwise"].contains n = false) (hQ : Q () s) : wpAny M A (letOwnedTupleGo tg (.ref it) u) Q E s := by
 unfold letOwnedTupleGo
 cases tg <;> first
  | exact wpAny_pure hQ
  | (cases u <;> first
      | exact wpAny_pure hQ
      | (refine wpAny_bind (wpAny_load ho ?_)
         rw [hc,hd]
         show wpAny M A (if (["enumerate","zip","dict_itemiterator","dict_reverseitemiterator","odict_iterator","itertools.zip_longest","itertools.pairwise"].contains n && vs[0]? == some (rawInt _)) = true then _ else _) Q E s
         rw [if_neg (by intro h; rw [hn,Bool.false_and] at h; cases h)]
         exact wpAny_pure hQ))
def Itl (K : PySem.W.Frag) (a : Addr) : It :=
 ⟨fun i H => ∃ xs x,cz K H a xs∧xs[i]? = some x,fun i H x H' => H' = H∧∀ xs,cz K H a xs→xs[i]? = some x,fun i H => ∃ xs,cz K H a xs∧xs.length≤i⟩
def Itr (lo : Int) (n : Nat) : It := ⟨fun i _ => i < n,fun i H x H' => H' = H∧x = .int (lo + i),fun i _ => n≤i⟩
theorem ai4 {P : Program} {w : World} {K : PySem.W.Frag} {tg : Expr} (a it : Addr) : Turn P w K tg (Itl K a) [it] it (fun i h => h.IsListIter it a i) where
 mem := by simp
 obj := fun i h st b hb => by
  have e : b = it := by simpa using hb
  subst e
  obtain ⟨o,e,c,d⟩ := st
  exact ⟨o,e,fun v z => by rw [d] at z; cases z⟩
 keep := fun i h h' st k => st.at fun o e => k it (by simp) o e
 item := by
  intro X hP hw hK hc i pins s σ H E I hf st hg
  subst hP hw hK
  obtain ⟨xs,x,hq,hx⟩ := hg
  obtain ⟨its,rv,p,hz⟩ := I.list hq
  obtain ⟨u,hu,ru⟩ := rv.get hx
  obtain ⟨f0,f1,f2,f3,f4,f5⟩ := hf it (by simp)
  refine wpAny_pyNext_list_item st p.isList (x := u) (by simpa using hu) fun h' st' sb => ?_
  have I1 : Inv X pins σ H { s with heap := h' } := I.turned (t' := s.toks) (fun b o hb e => (sb.2 b hb).trans e) f0 f1 f3 f4 f5
  obtain ⟨o,e,c,d⟩ := id st'
  exact ⟨u,rfl,apj (s := { s with heap := h' }) e c d (by decide) ⟨x,H,I1,ru,⟨rfl,fun ys hy => by rw [I.aek hy hq]; exact hx⟩,st',fun b hb => (hf b hb).1⟩⟩
 done := by
  intro X hP hw hK hc i pins s σ H E I hf st hg
  subst hP hw hK
  obtain ⟨xs,hq,hx⟩ := hg
  obtain ⟨its,rv,p,hz⟩ := I.list hq
  obtain ⟨f0,f1,f2,f3,f4,f5⟩ := hf it (by simp)
  have hl := rv.length
  exact wpAny_pyNext_list_end (I.ok.hd hc) st p.isList (by simp; lia) fun h' eb => ⟨rfl,I.turned (t' := s.toks) (fun b o hb e => eb b o hb e) f0 f1 f3 f4 f5⟩
 self := fun _ _ _ _ _ st h => wpAny_pyIter_listiter st h
theorem agy {P : Program} {w : World} {K : PySem.W.Frag} {tg : Expr} (it : Addr) (lo : Int) (n : Nat) : Turn P w K tg (Itr lo n) [it] it (fun i h => IsRangeIter h it (lo + (i : Nat) * 1) ((n : Int) - (i : Nat)) 1) where
 mem := by simp
 obj := fun i h st b hb => by
  have e : b = it := by simpa using hb
  subst e
  exact ⟨_,st,fun v z => by
   have z' : Data.fields _ = Data.cell v := z
   cases z'⟩
 keep := fun i h h' st k => k it (by simp) _ st
 item := by
  intro X hP hw hK hc i pins s σ H E I hf st hg
  subst hP hw hK
  obtain ⟨f0,f1,f2,f3,f4,f5⟩ := hf it (by simp)
  have W := Walks.range (prog := X.prog) (w := X.w) (I.ok.hd hc) it lo 1 n
  refine W.item i s _ _ hg st fun v h' tk hv st' kk => ?_
  obtain ⟨t,rfl⟩ := hv
  have I1 : Inv X pins σ H { s with heap := h',toks := tk } := I.turned (fun b o hb e => kk b o (by simpa using hb) e) f0 f1 f3 f4 f5
  refine ⟨_,rfl,apj (s := { s with heap := h',toks := tk }) (n := "range_iterator") st' rfl rfl (by decide) ⟨.int (lo + i),H,I1,⟨t,?_⟩,⟨rfl,rfl⟩,st',fun b hb => (hf b hb).1⟩⟩
  rw [Int.mul_one]
 done := by
  intro X hP hw hK hc i pins s σ H E I hf st hg
  subst hP hw hK
  obtain ⟨f0,f1,f2,f3,f4,f5⟩ := hf it (by simp)
  exact wpAny_pyNext_range_end (I.ok.hd hc) st (by have : n≤i := hg; lia) fun h' eb => ⟨rfl,I.turned (t' := s.toks) (fun b o hb e => eb b o hb e) f0 f1 f3 f4 f5⟩
 self := fun _ _ _ _ _ st h => wpAny_pyIter_rangeiter st h
end L2
namespace L2
open PySem PySem.Spec PyProof.Rows
section
variable {X : Cx} {tg : Expr}
def atD (K : PySem.W.Frag) (tl : TE) : TI := fun σ H R => tl σ H fun x H1 => ∃ a,x = .ref a∧(∃ xs,cz K H1 a xs)∧R (Itl K a) H1
theorem ux {l : Expr} {tl : TE} (hl : PE X l tl) : PI X tg l (atD X.K tl) := by
 intro pins s σ H R I h
 refine fY (hl pins s σ H _ I h) fun v s1 hz => jW hz fun x H1 I1 r1 q1 => ?_
 obtain ⟨a,e,⟨xs,hq⟩,q⟩ := q1
 subst e
 cases r1
 obtain ⟨its,rv,p,hz⟩ := I1.list hq
 refine wpAny_pyIter_list p.isList ?_
 refine ⟨s1.heap.objs.size,[s1.heap.objs.size],_,_,H1,rfl,I1.kept (t' := s1.toks) fun b o e => Heap.get?_push_of_some _ e,ai4 a _,⟨_,Heap.get?_push_size _ rfl,rfl,rfl⟩,fun b hb => ?_,q⟩
 have e : b = s1.heap.objs.size := by simpa using hb
 subst e
 exact I1.amM (Nat.le_refl _) (I1.hok.fresh (Nat.le_refl _))
theorem aki {pins : List (Addr×Obj)} {σ : St} {H : Hp} {s : Shared} {R : It→Hp→Prop} {E : Value→Shared→Prop} {lo hi : Int} {t u v : Tok} {tk : Nat} (I : Inv X pins σ H s) (h1 : -(2 ^ 62)≤lo) (h2 : lo < 2 ^ 62) (h3 : -(2 ^ 62)≤hi) (h4 : hi < 2 ^ 62)
 (q : R (Itr lo (hi - lo).toNat) H) : wpAny (model X.prog X.w) X.A (pyIter (.ref s.heap.objs.size)) (PIE X pins σ tg R) E { s with heap := s.heap.push { cls := .type "range",data := .fields #[.int lo t,.int hi u,.int 1 v] },toks := tk } := by
 refine wpAny_pyIter_range (IsRange.new ..) (small_one h1 h2 h3 h4) ?_
 have I1 : Inv X pins σ H { s with heap := s.heap.push { cls := .type "range",data := .fields #[.int lo t,.int hi u,.int 1 v] },toks := tk } := I.kept fun b o e => Heap.get?_push_of_some _ e
 refine ⟨(s.heap.push { cls := .type "range",data := .fields #[.int lo t,.int hi u,.int 1 v] }).objs.size,[(s.heap.push { cls := .type "range",data := .fields #[.int lo t,.int hi u,.int 1 v] }).objs.size],_,_,H,rfl,
  I1.kept (t' := tk) fun b o e => Heap.get?_push_of_some _ e,agy _ lo (hi - lo).toNat,?_,fun b hb => ?_,q⟩
 ·have e1 : lo + ((0 : Nat) : Int) * 1 = lo := by simp
  have e2 : (((hi - lo).toNat : Nat) : Int) - ((0 : Nat) : Int) = Builtin.Range.rangeSize lo hi 1 := by rw [rangeSize_one]; split <;> lia
  show IsRangeIter _ _ (lo + ((0 : Nat) : Int) * 1) ((((hi - lo).toNat : Nat) : Int) - ((0 : Nat) : Int)) 1
  rw [e1,e2]
  exact Heap.get?_push_size _ rfl
 ·have e : b = (s.heap.push { cls := .type "range",data := .fields #[.int lo t,.int hi u,.int 1 v] }).objs.size := by simpa using hb
  subst e
  exact I1.amM (Nat.le_refl _) (I1.hok.fresh (Nat.le_refl _))
def atE (ta : TA) : TI := fun σ H R => ta σ H fun vs H1 => ∃ j : Int,vs = [.int j]∧-(2 ^ 62)≤j∧j < 2 ^ 62∧R (Itr 0 j.toNat) H1
theorem iH {a : Expr} {ta : TA} {p pos : Pos} (hg : Gl X "range") (hm : X.mg "range" = none) (ha : PA X [a] ta) (hs : starEach [a] X.env = [(false,eval a X.env)] := by rfl) : PI X tg (.Call (.Name "range" p) [a] [] pos) (atE ta) := by
 intro pins s σ H R I h
 refine Call_ (Vh I hg hm boot_range (PyProof.Rows.callWith_type1 (fY (ha pos pins s σ H _ I h) fun us s1 hz => jW hz fun vs H1 I1 r1 q1 => ?_) hs rfl))
 obtain ⟨j,e,q1,q2,q⟩ := q1
 subst e
 cases r1 with
 | cons r rr =>
   cases rr
   obtain ⟨t,rfl⟩ := r
   exact call_range_1 (aki I1 (by lia) (by lia) q1 q2 (by simpa using q))
def ael (wi : TI) (g : TG) (tb : TS) : TS := fun D σ H => wi σ H fun J H1 => ∃ W : Nat→Nat→St→Hp→Prop,(∃ m,W 0 m σ H1)∧∀ i m σ H,W i m σ H→
 (J.stop i H∧D.nx σ H)∨(J.go i H∧∃ N : St→Hp→Prop,(∀ σ' H',N σ' H'→∃ m',m' < m∧W (i + 1) m' σ' H')∧∀ x H',J.yld i H x H'→g x σ H' fun σ2 H2 => tb { D with nx := N,ct := N,bk := D.nx } σ2 H2)
def Vj (fp : List Addr) (h : Heap) : List (Addr×Obj) := fp.filterMap fun b => (h.get? b).map fun o => (b,o)
theorem yt {fp : List Addr} {h : Heap} {b : Addr} {o : Obj} (hb : b∈fp) (e : h.get? b = some o) : (b,o)∈Vj fp h := List.mem_filterMap.mpr ⟨b,hb,by rw [e]; rfl⟩
theorem ai5 {fp : List Addr} {h : Heap} {p : Addr×Obj} (hp : p∈Vj fp h) : p.1∈fp∧h.get? p.1 = some p.2 := by
 obtain ⟨b,hb,e⟩ := List.mem_filterMap.mp hp
 cases q : h.get? b with
 | none => rw [q] at e; cases e
 | some o =>
   rw [q] at e
   have e' : (b,o) = p := Option.some.inj e
   subst e'
   exact ⟨hb,q⟩
theorem Inv.pinned {pins : List (Addr×Obj)} {σ : St} {H : Hp} {s : Shared} {fp : List Addr} (I : Inv X pins σ H s) (hf : ∀ b∈fp,J0 X pins H b) (ho : ∀ b∈fp,∃ o,s.heap.get? b = some o∧∀ v,o.data≠.cell v) : Inv X (pins ++ Vj fp s.heap) σ H s :=
 I.ahX fun p hp => (List.mem_append.mp hp).elim (fun z => I.pin p (List.mem_append_right _ z)) fun z => by
  obtain ⟨hb,e⟩ := ai5 z
  obtain ⟨f0,f1,f2,_⟩ := hf p.1 hb
  obtain ⟨o,e',d⟩ := ho p.1 hb
  rw [e] at e'; cases e'
  exact ⟨e,f0,f1,f2,d⟩
theorem Inv.J1 {pins pl : List (Addr×Obj)} {σ : St} {H : Hp} {s : Shared} (I : Inv X (pins ++ pl) σ H s) : Inv X pins σ H s := I.ahX fun p hp => I.pin p (List.mem_append_right _ (List.mem_append_left _ hp))
theorem HS {iter : Expr} {body : List Stmt} {wi : TI} {g : TG} {tb : TS} {pos : Pos} (hp : PassesOwn (model X.prog X.w) X.A X.env X.xe) (hc : X.calm = true) (hi : PI X tg iter wi) (hg : PG X tg g) (hb : PSs X body tb)
 (hs : ∀ x,foldedSetIterable iter X.env x = pure x := by intro _; rfl) : PS X (.For tg iter body [] pos) (ael wi g tb) := by
 intro pins s σ H D I h
 refine wpAny_For (fY (hi pins s σ H _ I h) fun v s1 h1 => fY h1 fun itv s2 h2 => ?_) hs
 obtain ⟨it,fp,tn,J,H2,e,I2,T,st2,f2,W,⟨m0,w0⟩,turn⟩ := h2
 subst e
 have stat : ∀ {H' : Hp},(∀ b∈fp,H' b = none)→∀ b∈fp,J0 X pins H' b := fun hn b hb => ⟨hn b hb,(f2 b hb).2⟩
 refine codeAny_forLoop_any (fun n s' => ∃ i σ' H',Inv X pins σ' H' s'∧tn i s'.heap∧(∀ b∈fp,H' b = none)∧W i n σ' H') ?_ m0 ⟨0,σ,H2,I2,st2,fun b hb => (f2 b hb).1,w0⟩
 rintro n s3 ⟨i,σ3,H3,I3,st3,fr3,w3⟩
 rcases turn i n σ3 H3 w3 with ⟨stop,qn⟩ | ⟨go,N,hN,step⟩
 ·refine wpAny_passesOwn hp (fY (T.done X rfl rfl rfl hc i pins s3 σ3 H3 X.xe I3 (stat fr3) st3 stop) fun r s4 ⟨hr,I4⟩ => ?_)
  subst hr
  exact wpAny_execs_nil ⟨σ3,H3,I4,qn⟩
 ·refine wpAny_passesOwn hp (fY (T.item X rfl rfl rfl hc i pins s3 σ3 H3 X.xe I3 (stat fr3) st3 go) fun r s4 ⟨u,hr,h4⟩ => ?_)
  subst hr
  refine wpAny_passesOwn hp (fY h4 fun _ s5 hz => jW hz fun x H5 I5 r5 ⟨y5,st5,fr5⟩ => ?_)
  have I5' := I5.pinned (stat fr5) (T.obj _ _ st5)
  refine wpAny_passesOwn hp (fY (hg _ s5 σ3 H5 x u _ I5' r5 (step x H5 y5)) fun _ s6 hz => ex4 hz fun σ6 H6 I6 q6 => ?_)
  refine wpAny_passesOwn hp (fY (hb _ s6 σ6 H6 _ I6 q6) fun f s7 q7 => ?_)
  have again : ∀ {σ7 : St} {H7 : Hp},Inv X (pins ++ Vj fp s5.heap) σ7 H7 s7→N σ7 H7→∃ m,m < n∧∃ i σ' H',Inv X pins σ' H' s7∧tn i s7.heap∧(∀ b∈fp,H' b = none)∧W i m σ' H' := fun {σ7 H7} I7 n7 => by
   obtain ⟨m',hm,w7⟩ := hN σ7 H7 n7
   refine ⟨m',hm,i + 1,σ7,H7,I7.J1,T.keep _ _ _ st5 fun b hb o e => (I7.pin (b,o) (List.mem_append_right _ (List.mem_append_right _ (yt hb e)))).1,fun b hb => ?_,w7⟩
   obtain ⟨o,e,d⟩ := T.obj _ _ st5 b hb
   exact (I7.pin (b,o) (List.mem_append_right _ (List.mem_append_right _ (yt hb e)))).2.1
  cases f with
  | next => obtain ⟨σ7,H7,I7,n7⟩ := q7; exact again I7 n7
  | cont => obtain ⟨σ7,H7,I7,n7⟩ := q7; exact again I7 n7
  | brk => obtain ⟨σ7,H7,I7,q7⟩ := q7; exact ⟨σ7,H7,I7.J1,q7⟩
  | ret v => obtain ⟨x7,σ7,H7,I7,r7,q7⟩ := q7; exact ⟨x7,σ7,H7,I7.J1,r7,q7⟩
end
theorem J2 {K : PySem.W.Frag} {a : Addr} {xs : List V} {g : TG} {tb : TS} {D : Ends} {σ : St} {H : Hp} (Pv : Nat→St→Hp→Prop) (h0 : Pv 0 σ H) (hl : ∀ i σ H,i≤xs.length→Pv i σ H→cz K H a xs)
 (hs : ∀ i x σ H,xs[i]? = some x→Pv i σ H→g x σ H fun σ2 H2 => tb { D with nx := Pv (i + 1),ct := Pv (i + 1),bk := D.nx } σ2 H2) (hd : ∀ σ H,Pv xs.length σ H→D.nx σ H) :
 ∃ W : Nat→Nat→St→Hp→Prop,(∃ m,W 0 m σ H)∧∀ i m σ H,W i m σ H→
  ((Itl K a).stop i H∧D.nx σ H)∨((Itl K a).go i H∧∃ N : St→Hp→Prop,(∀ σ' H',N σ' H'→∃ m',m' < m∧W (i + 1) m' σ' H')∧∀ x H',(Itl K a).yld i H x H'→g x σ H' fun σ2 H2 => tb { D with nx := N,ct := N,bk := D.nx } σ2 H2) := by
 refine ⟨fun i m σ H => m = xs.length - i∧i≤xs.length∧Pv i σ H,⟨xs.length,by simp,Nat.zero_le _,h0⟩,?_⟩
 rintro i m σ H ⟨rfl,hi,p⟩
 have q := hl i σ H hi p
 by_cases hlt : i < xs.length
 ·refine .inr ⟨⟨xs,xs[i],q,by simp [hlt]⟩,Pv (i + 1),fun σ' H' p' => ⟨xs.length - (i + 1),by lia,rfl,hlt,p'⟩,fun x H' y => ?_⟩
  obtain ⟨e,y⟩ := y
  subst e
  exact hs i x σ _ (y xs q) p
 ·have e : i = xs.length := by lia
  subst e
  exact .inl ⟨⟨xs,q,Nat.le_refl _⟩,hd σ H p⟩
theorem Oh {lo : Int} {n : Nat} {g : TG} {tb : TS} {D : Ends} {σ : St} {H : Hp} (Pv : Nat→St→Hp→Prop) (h0 : Pv 0 σ H)
 (hs : ∀ i σ H,i < n→Pv i σ H→g (.int (lo + i)) σ H fun σ2 H2 => tb { D with nx := Pv (i + 1),ct := Pv (i + 1),bk := D.nx } σ2 H2) (hd : ∀ σ H,Pv n σ H→D.nx σ H) :
 ∃ W : Nat→Nat→St→Hp→Prop,(∃ m,W 0 m σ H)∧∀ i m σ H,W i m σ H→
  ((Itr lo n).stop i H∧D.nx σ H)∨((Itr lo n).go i H∧∃ N : St→Hp→Prop,(∀ σ' H',N σ' H'→∃ m',m' < m∧W (i + 1) m' σ' H')∧∀ x H',(Itr lo n).yld i H x H'→g x σ H' fun σ2 H2 => tb { D with nx := N,ct := N,bk := D.nx } σ2 H2) := by
 refine ⟨fun i m σ H => m = n - i∧i≤n∧Pv i σ H,⟨n,by simp,Nat.zero_le _,h0⟩,?_⟩
 rintro i m σ H ⟨rfl,hi,p⟩
 by_cases hlt : i < n
 ·refine .inr ⟨hlt,Pv (i + 1),fun σ' H' p' => ⟨n - (i + 1),by lia,rfl,hlt,p'⟩,fun x H' y => ?_⟩
  obtain ⟨e,y⟩ := y
  subst e y
  exact hs i σ _ hlt p
 ·have e : i = n := by lia
  subst e
  exact .inl ⟨Nat.le_refl _,hd σ H p⟩
end L2
namespace L2
open PySem PySem.Spec PyProof.Rows
abbrev R2 := V→V→Hp→VK→Prop
def Va (X : Cx) (f : Value→Value→Sem Value) (r : R2) : Prop :=
 ∀ (pins : List (Addr×Obj)) (s : Shared) (σ : St) (H : Hp) (x y : V) (v u : Value) (Q : VK),Inv X pins σ H s→RelV x v→RelV y u→r x y H Q→
  wpAny (model X.prog X.w) X.A (f v u) (EP X pins σ Q) X.xe s
def UnR (X : Cx) (f : Value→Sem Value) (r : V→Hp→VK→Prop) : Prop :=
 ∀ (pins : List (Addr×Obj)) (s : Shared) (σ : St) (H : Hp) (x : V) (v : Value) (Q : VK),Inv X pins σ H s→RelV x v→r x H Q→
  wpAny (model X.prog X.w) X.A (f v) (EP X pins σ Q) X.xe s
def QH (X : Cx) (f : Value) (r : List V→Hp→VK→Prop) : Prop :=
 ∀ (pins : List (Addr×Obj)) (s : Shared) (σ : St) (H : Hp) (xs : List V) (us : List Value) (Q : VK),Inv X pins σ H s→Vals xs us→r xs H Q→
  wpAny (model X.prog X.w) X.A (call f us) (EP X pins σ Q) X.xe s
def awV (X : Cx) (r : V→Hp→(Bool→Hp→Prop)→Prop) : Prop :=
 ∀ (pins : List (Addr×Obj)) (s : Shared) (σ : St) (H : Hp) (x : V) (v : Value) (Q : Bool→Hp→Prop),Inv X pins σ H s→RelV x v→r x H Q→
  wpAny (model X.prog X.w) X.A (truthy v) (TP X pins σ Q) X.xe s
def Vk (r : R2) (ta tb : TE) : TE := fun σ H Q => ta σ H fun x H1 => tb σ H1 fun y H2 => r x y H2 Q
def tUn (r : V→Hp→VK→Prop) (ta : TE) : TE := fun σ H Q => ta σ H fun x H1 => r x H1 Q
def rI (C : Int→Int→Prop) (g : Int→Int→V) : R2 := fun x y H Q => ∃ i j,x = .int i∧y = .int j∧C i j∧Q (g i j) H
def rI0 (g : Int→Int→V) : R2 := fun x y H Q => ∃ i j,x = .int i∧y = .int j∧Q (g i j) H
def rU (g : Int→V) : V→Hp→VK→Prop := fun x H Q => ∃ i,x = .int i∧Q (g i) H
section
variable {X : Cx} {a b c : Expr} {ta tb tc : TE} {pos : Pos}
theorem aqa (ha : PE X a ta) (hb : PE X b tb) {pins : List (Addr×Obj)} {s : Shared} {σ : St} {H : Hp} {R : V→V→Hp→Prop} (I : Inv X pins σ H s)
 (h : ta σ H fun x H1 => tb σ H1 fun y H2 => R x y H2) {Q : Value→Shared→Prop} {f : Value→Value→Sem Value}
 (hf : ∀ v u s2 x y H2,Inv X pins σ H2 s2→RelV x v→RelV y u→R x y H2→wpAny (model X.prog X.w) X.A (f v u) Q X.xe s2) :
 wpAny (model X.prog X.w) X.A (eval a X.env) (fun v s₁ => wpAny (model X.prog X.w) X.A (eval b X.env) (fun u s₂ => wpAny (model X.prog X.w) X.A (f v u) Q X.xe s₂) X.xe s₁) X.xe s := by
 refine fY (ha pins s σ H _ I h) fun v s1 hz => jW hz fun x H1 I1 r1 q1 => ?_
 refine fY (hb pins s1 σ H1 _ I1 q1) fun u s2 hz => jW hz fun y H2 I2 r2 q2 => ?_
 exact hf v u s2 x y H2 I2 r1 r2 q2
theorem bD {op : Operator} {r : R2} (ho : Va X (binaryOp op) r) (ha : PE X a ta) (hb : PE X b tb) : PE X (.BinOp a op b pos) (Vk r ta tb) := by
 intro pins s σ H Q I h
 exact wpAny_BinOp (aqa ha hb I h fun v u s2 x y H2 I2 rx ry q => ho pins s2 σ H2 x y v u Q I2 rx ry q)
theorem QJ {op : UnaryOp} {r : V→Hp→VK→Prop} (ho : UnR X (unaryOp op) r) (ha : PE X a ta) : PE X (.UnaryOp op a pos) (tUn r ta) := by
 intro pins s σ H Q I h
 exact UnaryOp_ (fY (ha pins s σ H _ I h) fun v s1 hz => jW hz fun x H1 I1 r1 q1 => ho pins s1 σ H1 x v Q I1 r1 q1)
theorem opI {f : Value→Value→Sem Value} {C : Int→Int→Prop} {g : Int→Int→Int}
 (rule : ∀ (i j : Int) (t u : Tok) (s : Shared) (Q : Value→Shared→Prop) (E : Value→Shared→Prop),C i j→Q (.int (g i j) s.toks) { s with toks := s.toks + 1 }→wpAny (model X.prog X.w) X.A (f (.int i t) (.int j u)) Q E s) :
 Va X f (rI C fun i j => .int (g i j)) := by
 intro pins s σ H x y v u Q I rx ry h
 obtain ⟨i,j,rfl,rfl,hc,q⟩ := h
 obtain ⟨t,rfl⟩ := rx
 obtain ⟨t',rfl⟩ := ry
 exact rule i j t t' s _ _ hc ⟨.int (g i j),H,I.tok _,⟨_,rfl⟩,q⟩
theorem atF {f : Value→Value→Sem Value} {g : Int→Int→Int}
 (rule : ∀ (i j : Int) (t u : Tok) (s : Shared) (Q : Value→Shared→Prop) (E : Value→Shared→Prop),Q (.int (g i j) s.toks) { s with toks := s.toks + 1 }→wpAny (model X.prog X.w) X.A (f (.int i t) (.int j u)) Q E s) :
 Va X f (rI0 fun i j => .int (g i j)) := by
 intro pins s σ H x y v u Q I rx ry h
 obtain ⟨i,j,rfl,rfl,q⟩ := h
 obtain ⟨t,rfl⟩ := rx
 obtain ⟨t',rfl⟩ := ry
 exact rule i j t t' s _ _ ⟨.int (g i j),H,I.tok _,⟨_,rfl⟩,q⟩
theorem aqb {f : Value→Value→Sem Value} {g : Int→Int→Bool}
 (rule : ∀ (i j : Int) (t u : Tok) (s : Shared) (Q : Value→Shared→Prop) (E : Value→Shared→Prop),Q (.bool (g i j)) s→wpAny (model X.prog X.w) X.A (f (.int i t) (.int j u)) Q E s) :
 Va X f (rI0 fun i j => .bl (g i j)) := by
 intro pins s σ H x y v u Q I rx ry h
 obtain ⟨i,j,rfl,rfl,q⟩ := h
 obtain ⟨t,rfl⟩ := rx
 obtain ⟨t',rfl⟩ := ry
 exact rule i j t t' s _ _ ⟨.bl (g i j),H,I,rfl,q⟩
def atG (i j : Int) : Prop := 0 < j∧j < 1073741824
def awW (i j : Int) : Prop := 0≤j∧j≤1000000∧i.natAbs < 2 ^ 64
def akj (i j : Int) : Prop := (-(2 ^ 64) < i∧i < 2 ^ 64)∨(-(2 ^ 64) < j∧j < 2 ^ 64)
theorem akj.ok {i j : Int} (h : akj i j) : IntMulOk i j := by
 rcases h with ⟨h1,h2⟩ | ⟨h1,h2⟩
 ·exact .of_left (intBits_le_64 h1 h2)
 ·exact .of_right (intBits_le_64 h1 h2)
theorem jB : Va X (binaryOp .Add) (rI0 fun i j => .int (i + j)) := atF fun _ _ _ _ _ _ _ q => add_int q
theorem HW : Va X (binaryOp .Sub) (rI0 fun i j => .int (i - j)) := atF fun _ _ _ _ _ _ _ q => sub_int q
theorem yu : Va X (binaryOp .Mult) (rI akj fun i j => .int (i * j)) := opI fun _ _ _ _ _ _ _ hc q => mul_int q hc.ok
theorem ju : Va X (binaryOp .FloorDiv) (rI atG fun i j => .int (i / j)) := opI fun i j _ _ _ _ _ hc q => by
 have h1 : (0 : Int) < j := hc.1
 have h2 : j < 1073741824 := hc.2
 exact floordiv_int (by lia) (by rw [Int.fdiv_eq_ediv_of_nonneg i (by lia)]; exact q) (.inl (PyProof.noPylong_small (by lia)))
theorem fB : Va X (binaryOp .Mod) (rI (fun _ j => 0 < j) fun i j => .int (i % j)) := opI fun i j _ _ _ _ _ hc q => by
 have h1 : (0 : Int) < j := hc
 exact mod_int' (by lia) (by rw [Int.fmod_eq_emod_of_nonneg i (by lia)]; exact q)
theorem abi : Va X (binaryOp .Pow) (rI awW fun i j => .int (i ^ j.toNat)) := opI fun _ _ _ _ _ _ _ hc q => pow_int_small hc.1 hc.2.1 hc.2.2 q
theorem unI {f : Value→Sem Value} {g : Int→Int}
 (rule : ∀ (i : Int) (t : Tok) (s : Shared) (Q : Value→Shared→Prop) (E : Value→Shared→Prop),Q (.int (g i) s.toks) { s with toks := s.toks + 1 }→wpAny (model X.prog X.w) X.A (f (.int i t)) Q E s) :
 UnR X f (rU fun i => .int (g i)) := by
 intro pins s σ H x v Q I rx h
 obtain ⟨i,rfl,q⟩ := h
 obtain ⟨t,rfl⟩ := rx
 exact rule i t s _ _ ⟨.int (g i),H,I.tok _,⟨_,rfl⟩,q⟩
theorem Dc : UnR X (unaryOp .USub) (rU fun i => .int (-i)) := unI fun _ _ _ _ _ q => neg_int q
end
def aqc : V→V→Bool
 | .non,.non => true | .non,.int _ => true | .int _,.non => true | .non,.bl _ => true | .bl _,.non => true | .non,.str _ => true | .str _,.non => true
 | .int _,.int _ => true | .bl _,.bl _ => true | .str _,.str _ => true | .byt _,.byt _ => true
 | .int _,.str _ => true | .str _,.int _ => true | .bl _,.str _ => true | .str _,.bl _ => true
 | _,_ => false
def rEq : R2 := fun x y H Q => aqc x y = true∧Q (.bl (decide (x = y))) H
def rNe : R2 := fun x y H Q => aqc x y = true∧Q (.bl (!decide (x = y))) H
theorem ahZ {i j : Int} : decide (V.int i = V.int j) = (i == j) := by
 rw [Bool.eq_iff_iff]
 simp
theorem akk {i j : Bool} : decide (V.bl i = V.bl j) = (i == j) := by
 rw [Bool.eq_iff_iff]
 simp
theorem ah0 {i j : Str} : decide (V.str i = V.str j) = (i == j) := by
 rw [Bool.eq_iff_iff]
 simp
theorem ah1 {i j : Array UInt8} : decide (V.byt i = V.byt j) = (i.toList == j.toList) := by
 rw [Bool.eq_iff_iff]
 cases i
 cases j
 simp
section
variable {X : Cx} {a b c : Expr} {ta tb tc : TE} {pos : Pos}
theorem eE {pins : List (Addr×Obj)} {σ : St} {H : Hp} {s : Shared} {Q : VK} {k k' : Bool} (I : Inv X pins σ H s) (q : Q (.bl k) H) (e : k = k') : EP X pins σ Q (.bool k') s := by
 subst e
 exact ⟨.bl k,H,I,rfl,q⟩
theorem cO : Va X (compareOp .Eq) rEq := by
 intro pins s σ H x y v u Q I rx ry h
 obtain ⟨hs,q⟩ := h
 cases x with
 | non =>
   cases rx
   cases y with
   | non => cases ry; exact PySem.EqNone.eq_none_none (eE I q (by simp))
   | bl j => cases ry; exact PySem.EqNone.eq_none_bool (eE I q (by simp))
   | int j => obtain ⟨t',rfl⟩ := ry; exact PySem.EqNone.eq_none_int (eE I q (by simp))
   | str j => obtain ⟨t',rfl⟩ := ry; exact PySem.EqNone.eq_none_str (eE I q (by simp))
   | _ => exact absurd (show false = true from hs) Bool.false_ne_true
 | bl i =>
   cases rx
   cases y with
   | non => cases ry; exact PySem.EqNone.eq_bool_none (eE I q (by simp))
   | bl j => cases ry; exact eq_bool (eE I q akk)
   | str j => obtain ⟨t',rfl⟩ := ry; exact PySem.EqMixed.eq_bool_str (eE I q (by simp))
   | _ => exact absurd (show false = true from hs) Bool.false_ne_true
 | int i =>
   obtain ⟨t,rfl⟩ := rx
   cases y with
   | non => cases ry; exact PySem.EqNone.eq_int_none (eE I q (by simp))
   | int j => obtain ⟨t',rfl⟩ := ry; exact eq_int (eE I q ahZ)
   | str j => obtain ⟨t',rfl⟩ := ry; exact PySem.EqMixed.eq_int_str (eE I q (by simp))
   | _ => exact absurd (show false = true from hs) Bool.false_ne_true
 | str i =>
   obtain ⟨t,rfl⟩ := rx
   cases y with
   | non => cases ry; exact PySem.EqNone.eq_str_none (eE I q (by simp))
   | bl j => cases ry; exact PySem.EqMixed.eq_str_bool (eE I q (by simp))
   | int j => obtain ⟨t',rfl⟩ := ry; exact PySem.EqMixed.eq_str_int (eE I q (by simp))
   | str j => obtain ⟨t',rfl⟩ := ry; exact eq_str (eE I q ah0)
   | _ => exact absurd (show false = true from hs) Bool.false_ne_true
 | byt i =>
   obtain ⟨t,rfl⟩ := rx
   cases y with
   | byt j => obtain ⟨t',rfl⟩ := ry; exact PySem.W.eq_bytes (eE I q ah1)
   | _ => exact absurd (show false = true from hs) Bool.false_ne_true
 | _ => cases y <;> exact absurd (show false = true from hs) Bool.false_ne_true
theorem z7 : Va X (compareOp .NotEq) rNe := by
 intro pins s σ H x y v u Q I rx ry h
 obtain ⟨hs,q⟩ := h
 cases x with
 | non =>
   cases rx
   cases y with
   | non => cases ry; exact PySem.EqNone.ne_none_none (eE I q (by simp))
   | bl j => cases ry; exact PySem.EqNone.ne_none_bool (eE I q (by simp))
   | int j => obtain ⟨t',rfl⟩ := ry; exact PySem.EqNone.ne_none_int (eE I q (by simp))
   | str j => obtain ⟨t',rfl⟩ := ry; exact PySem.EqNone.ne_none_str (eE I q (by simp))
   | _ => exact absurd (show false = true from hs) Bool.false_ne_true
 | bl i =>
   cases rx
   cases y with
   | non => cases ry; exact PySem.EqNone.ne_bool_none (eE I q (by simp))
   | bl j => cases ry; exact ne_bool (eE I q (congrArg not akk))
   | str j => obtain ⟨t',rfl⟩ := ry; exact PySem.EqMixed.ne_bool_str (eE I q (by simp))
   | _ => exact absurd (show false = true from hs) Bool.false_ne_true
 | int i =>
   obtain ⟨t,rfl⟩ := rx
   cases y with
   | non => cases ry; exact PySem.EqNone.ne_int_none (eE I q (by simp))
   | int j => obtain ⟨t',rfl⟩ := ry; exact ne_int (eE I q (congrArg not ahZ))
   | str j => obtain ⟨t',rfl⟩ := ry; exact PySem.EqMixed.ne_int_str (eE I q (by simp))
   | _ => exact absurd (show false = true from hs) Bool.false_ne_true
 | str i =>
   obtain ⟨t,rfl⟩ := rx
   cases y with
   | non => cases ry; exact PySem.EqNone.ne_str_none (eE I q (by simp))
   | bl j => cases ry; exact PySem.EqMixed.ne_str_bool (eE I q (by simp))
   | int j => obtain ⟨t',rfl⟩ := ry; exact PySem.EqMixed.ne_str_int (eE I q (by simp))
   | str j => obtain ⟨t',rfl⟩ := ry; exact ne_str (eE I q (congrArg not ah0))
   | _ => exact absurd (show false = true from hs) Bool.false_ne_true
 | byt i =>
   obtain ⟨t,rfl⟩ := rx
   cases y with
   | byt j => obtain ⟨t',rfl⟩ := ry; exact PySem.W.ne_bytes (eE I q (congrArg not ah1))
   | _ => exact absurd (show false = true from hs) Bool.false_ne_true
 | _ => cases y <;> exact absurd (show false = true from hs) Bool.false_ne_true
theorem aaw : Va X (compareOp .Lt) (rI0 fun i j => .bl (decide (i < j))) := aqb fun _ _ _ _ _ _ _ q => lt_int q
theorem apk : Va X (compareOp .Gt) (rI0 fun i j => .bl (decide (j < i))) := aqb fun _ _ _ _ _ _ _ q => gt_int q
theorem Vl : Va X (compareOp .GtE) (rI0 fun i j => .bl (decide (j≤i))) := aqb fun _ _ _ _ _ _ _ q => ge_int q
theorem bf (b : Expr) {op : CmpOp} (h : op≠.In := by decide) (h2 : op≠.NotIn := by decide) : behindInMarks op b = false := by
 have e1 : (op == CmpOp.In) = false := by cases op <;> first | rfl | exact absurd rfl h
 have e2 : (op == CmpOp.NotIn) = false := by cases op <;> first | rfl | exact absurd rfl h2
 cases b <;> simp [behindInMarks,e1,e2]
theorem lR {op : CmpOp} {r : R2} (ho : Va X (compareOp op) r) (ha : PE X a ta) (hb : PE X b tb) (hm : behindInMarks op b = false) : PE X (.Compare a [op] [b] pos) (Vk r ta tb) := by
 intro pins s σ H Q I h
 exact wpAny_Compare1 (aqa ha hb I h fun v u s2 x y H2 I2 rx ry q => ho pins s2 σ H2 x y v u Q I2 rx ry q) hm
def aem (t : TE) : TT := fun σ H Q => t σ H fun x H' => ∃ k,x = .bl k∧Q k H'
theorem aR {op : CmpOp} {r : R2} (ho : Va X (compareOp op) r) (ha : PE X a ta) (hb : PE X b tb) (hm : behindInMarks op b = false) : PT X (.Compare a [op] [b] pos) (aem (Vk r ta tb)) := by
 intro pins s σ H Q I h
 refine wpAny_isTrue_Compare1 (fY (ha pins s σ H _ I h) fun v s1 hz => jW hz fun x H1 I1 r1 q1 => fY (hb pins s1 σ H1 _ I1 q1) fun u s2 hz => jW hz fun y H2 I2 r2 q2 =>
  fY (ho pins s2 σ H2 x y v u _ I2 r1 r2 q2) fun c s3 hz => jW hz fun z H3 I3 r3 ⟨k,e,q3⟩ => ?_) hm
 subst e
 cases r3
 exact wpAny_truthy_bool ⟨H3,I3,q3⟩
def atH (K : PySem.W.Frag) (x : V) (H : Hp) (k : Bool) : Prop :=
 match x with
 | .non => k = false
 | .bl b => k = b
 | .int i => k = (i != 0)
 | .str y => y.length≤sizeLine∧k = ((y.length : Int) != 0)
 | .byt y => y.size≤sizeLine∧k = ((y.size : Int) != 0)
 | .ref p => (∃ xs,cz K H p xs∧k = !xs.isEmpty)∨(∃ xs,dq K H p xs∧k = !xs.isEmpty)∨∃ kvs,H p = some (.dK kvs)∧k = !kvs.isEmpty
 | _ => False
theorem agz {κ : Type} {kvs : List (κ×V)} {vs : List (κ×Value)} (r : KV kvs vs) : (!vs.isEmpty) = !kvs.isEmpty := by
 cases r <;> rfl
theorem Vm {xs : List V} {its : List Value} (r : Vals xs its) : (!its.toArray.isEmpty) = !xs.isEmpty := by
 cases r <;> simp
theorem Vn : (sizeLine : Nat) < 2 ^ 63 := by rw [sizeLine_eq]; decide
theorem aqd : awV X (fun x H Q => ∃ k,atH X.K x H k∧Q k H) := by
 intro pins s σ H x v Q I rx h
 obtain ⟨k,e,q⟩ := h
 have hl := Vn
 have hs : sizeLine = 16777216 := sizeLine_eq
 cases x with
 | non =>
   cases rx
   have e' : k = false := e
   subst e'
   exact truthy_none ⟨H,I,q⟩
 | bl b =>
   cases rx
   have e' : k = b := e
   subst e'
   exact wpAny_truthy_bool ⟨H,I,q⟩
 | int i =>
   obtain ⟨t,rfl⟩ := rx
   have e' : k = (i != 0) := e
   subst e'
   exact PySem.P.truthy_int ⟨H,I,q⟩
 | str y =>
   obtain ⟨t,rfl⟩ := rx
   obtain ⟨hy,e'⟩ : y.length≤sizeLine∧k = ((y.length : Int) != 0) := e
   subst e'
   exact PySem.P.truthy_str (by lia) ⟨H,I.tok _,q⟩
 | byt y =>
   obtain ⟨t,rfl⟩ := rx
   obtain ⟨hy,e'⟩ : y.size≤sizeLine∧k = ((y.size : Int) != 0) := e
   subst e'
   exact PySem.W.truthy_bytes (by lia) ⟨H,I.tok _,q⟩
 | ref p =>
   cases rx
   have e' : (∃ xs,cz X.K H p xs∧k = !xs.isEmpty)∨(∃ xs,dq X.K H p xs∧k = !xs.isEmpty)∨∃ kvs,H p = some (.dK kvs)∧k = !kvs.isEmpty := e
   rcases e' with ⟨xs,hx,e'⟩ | ⟨xs,hx,e'⟩ | ⟨kvs,hx,e'⟩
   ·subst e'
    obtain ⟨its,r,pl,hz⟩ := I.list hx
    have hlen := r.length
    exact wpAny_truthy_list pl.isList (by simp only [List.size_toArray]; lia) ⟨H,I.tok _,by rw [Vm r]; exact q⟩
   ·subst e'
    obtain ⟨its,r,pl,hz⟩ := I.tuple hx
    have hlen := r.length
    exact truthy_tuple pl (by simp only [List.size_toArray]; lia) ⟨H,I.tok _,by rw [Vm r]; exact q⟩
   ·subst e'
    obtain ⟨hz,hS,vs,r,m⟩ : kvs.length≤sizeLine∧(p == sysModules) = false∧∃ vs,KV kvs vs∧s.heap.DictOf (gJ X.prog X.w) p vs := I.hok p _ hx
    have hlen : kvs.length = vs.length := Paired.length r
    exact wpAny_truthy_dict hS m (by lia) ⟨H,I.tok _,by rw [agz r]; exact q⟩
 | _ => exact (show False from e).elim
theorem Dd (ha : PE X a ta) (he : ∀ whole,isTrue a X.env whole = (do let v ← whole; standAt a.pos; holding [v] (truthy v))) :
 PT X a (fun σ H Q => ta σ H fun x H' => ∃ k,atH X.K x H' k∧Q k H') := by
 intro pins s σ H Q I h
 exact isTrue_plain (fY (ha pins s σ H _ I h) fun v s1 hz => jW hz fun x H1 I1 r1 q1 => aqd pins s1 σ H1 x v Q I1 r1 q1) (he _)
theorem agA : Va X (binaryOp .Add) (fun x y H Q => ∃ i j,x = .str i∧y = .str j∧i.length + j.length≤sizeLine∧Q (.str (i ++ j)) H) := by
 intro pins s σ H x y v u Q I rx ry h
 obtain ⟨i,j,rfl,rfl,hz,q⟩ := h
 obtain ⟨t,rfl⟩ := rx
 obtain ⟨t',rfl⟩ := ry
 exact add_str (fun t' tk => ⟨.str (i ++ j),H,I.tok _,⟨_,rfl⟩,q⟩) hz
theorem vals1 {x : V} {us : List Value} (r : Vals [x] us) : ∃ u,us = [u]∧RelV x u := by
 cases r with
 | cons r1 r2 => cases r2; exact ⟨_,rfl,r1⟩
theorem lE : QH X (.type "int") (fun xs H Q => (∃ i,xs = [.int i]∧Q (.int i) H)∨∃ k,xs = [.bl k]∧Q (.int (if k then 1 else 0)) H) := by
 intro pins s σ H xs us Q I r h
 rcases h with ⟨i,rfl,q⟩ | ⟨k,rfl,q⟩
 ·obtain ⟨u,rfl,t,rfl⟩ := vals1 r
  exact call_int_int ⟨.int i,H,I,⟨_,rfl⟩,q⟩
 ·obtain ⟨u,rfl,r1⟩ := vals1 r
  cases r1
  exact call_int_bool ⟨.int (if k then 1 else 0),H,I.tok _,⟨_,rfl⟩,q⟩
end
end L2
namespace L2
open PySem PySem.Spec PyProof.Rows
structure agB (h : Heap) (x dx C : Addr) (mA : Str→Option Value) : Prop where
 obj : h.get? x = some (PySem.W.instObj C dx)
 ns : h.Ns1 dx mA
 ne : dx≠x
theorem ai6 {h : Heap} {dx : Addr} {mA : Str→Option Value} (n : h.Ns1 dx mA) : ∃ od,h.get? dx = some od∧∀ name,PySem.W.lookIn name od = some (mA name) := by
 obtain ⟨o,es,ep,ho,hd,hk,_,hm⟩ := n
 refine ⟨o,ho,fun name => ?_⟩
 have e := hm name
 unfold nsFind findBy at e
 rw [← Array.find?_toList] at e
 unfold PySem.W.lookIn
 rw [hd]
 dsimp only
 split
 ·rename_i y q
  rw [q] at e
  exact congrArg some e
 ·rename_i q
  rw [q] at e
  have a : es.toList.any (·.refKey) = false := by
   rw [List.any_eq_false]
   intro y hy
   obtain ⟨z,t,hkey⟩ := hk y (Array.mem_toList_iff.mp hy)
   simp [DictEntry.refKey,hkey]
  have a' : ¬ es.toList.any (·.refKey) = true := by rw [a]; exact Bool.false_ne_true
  rw [if_neg a']
  exact congrArg some e
theorem agB.look {h : Heap} {x dx C : Addr} {mA : Str→Option Value} (I : agB h x dx C mA) : ∃ od,PySem.W.InstAt h x (PySem.W.instObj C dx) C (some od)∧∀ name,PySem.W.lookIn name od = some (mA name) :=
 let ⟨od,ho,hl⟩ := ai6 I.ns
 ⟨od,⟨I.obj,rfl,rfl,ho⟩,hl⟩
section
variable {prog : Program} {w : World} {A : Around} {E : Value→Shared→Prop} {s : Shared} {K : PySem.W.Frag} {x dx C f : Addr} {mA : Str→Option Value} {name : Str} {v : Value}
theorem get_map {expr : Bool} {Q : Value→Shared→Prop} (X : K.In s.heap) (I : agB s.heap x dx C mA) (hg : PySem.W.plainGet K C name = true) (hh : PySem.W.hasDictIn K C = true)
 (ha : PySem.W.findIn K (.ref C) name = some none) (hv : mA name = some v) (hv' : PySem.W.handedIn v = true) (h : Q v { s with toks := s.toks + 1 }) :
 wpAny (model prog w) A (getAttr (.ref x) name expr) Q E s := by
 obtain ⟨od,J,hl⟩ := I.look
 exact PySem.W.get_value X J (PySem.W.plainGet_of hg).1 (PySem.W.findObj_own hh ha rfl (by rw [hl,hv])) hv' h
theorem akl {pl : Sem Bool} {Q : Value×List Value→Shared→Prop} (X : K.In s.heap) (I : agB s.heap x dx C mA) (hg : PySem.W.plainGet K C name = true)
 (hf : PySem.W.findIn K (.ref C) name = some (some (.ref f))) (ht : PySem.W.isFn K (.ref f) = true) (hv : mA name = none) (h : Q (.ref f,[.ref x]) s) :
 wpAny (model prog w) A (getMethod (.ref x) name pl) Q E s := by
 obtain ⟨od,J,hl⟩ := I.look
 exact PySem.W.method_fn X J (PySem.W.plainGet_of hg).1 (PySem.W.plainGet_of hg).2 hf (beq_iff_eq.mp ht) (by show (PySem.W.lookIn name od).map (·.isSome) = some false; rw [hl,hv]; rfl) h
theorem amO {ns : List Str} {Q : Unit→Shared→Prop} (X : K.In s.heap) (I : agB s.heap x dx C mA)
 (hs : PySem.W.findIn K (.ref C) "__setattr__" = some (some (.builtin "object.__setattr__"))) (hp : PySem.W.plainOver K C = true) (ht : PySem.W.takerIn K C name = some none) (hh : PySem.W.hasDictIn K C = true)
 (hw : PySem.Within mA ns) (hsz : ns.length≤sizeLine)
 (h : ∀ h',agB h' x dx C (fun y => if y = name then some v else mA y)→Heap.SameBut dx s.heap h'→Q () { s with heap := h',toks := s.toks + 2 }) :
 wpAny (model prog w) A (setAttr (.ref x) name v) Q E s := by
 obtain ⟨od,J,hl⟩ := I.look
 refine PySem.W.set_plain X J hs (PySem.W.osa_open (s := { s with toks := s.toks + 1 }) (r := none) X J hp ht fun b => ?_)
 obtain ⟨cd,hc,hd'⟩ := PySem.W.any_some hh
 have hx : s.heap.get? x = some ⟨.ref C,some dx,.plain,#[]⟩ := I.obj
 refine wpAny_bind (wpAny_pure (wpAny_bind (wpAny_bind (wpAny_loadPart hx (wpAny_bind (PySem.W.Looks.here (s := { s with toks := s.toks + 1 }) (PySem.W.looks_clsIn X hc) ?_))))))
 rw [hd']
 refine wpAny_pure (a := some dx) (wpAny_bind (wpAny_pure (wpAny_bind ?_)))
 refine wpAny_nsSet1 (s := { s with toks := s.toks + 1 }) I.ns fun h' hn2 hs2 => ?_
 obtain ⟨oD,esD,epD,hoD,hdD,hcD⟩ := hn2.count (PySem.Within.cons name v hw)
 refine wpAny_bind (wpAny_lookBehind hoD (by rw [hdD]; exact pastItsLine_dict (Nat.le_trans hcD (by rw [List.length_cons]; lia))) ?_)
 exact wpAny_pure (h _ ⟨(hs2.2 _ (Ne.symm I.ne)).trans I.obj,hn2,I.ne⟩ hs2)
theorem akm {R : Result→Shared→Prop} {vs : List Value} {kw : List (Str×Value)} (X : K.In s.heap) (hm : PySem.W.makesIn K C = true)
 (hi : PySem.W.findIn K (.ref C) "__init__" = some (some (.ref f))) (hf : PySem.W.typeIn K (.ref f) = some (.type "function"))
 (h : codeAny (model prog w) (A.under (.builtin "type.__call__" ⟨.ref C :: vs,kw⟩)) (.call (.ref f) ⟨.ref (s.heap.objs.size + 1) :: vs,kw⟩) (PySem.W.InitBack (s.heap.objs.size + 1) R)
   { s with heap := (s.heap.push PySem.W.emptyDict).push (PySem.W.instObj C s.heap.objs.size) }) :
 codeAny (model prog w) A (.call (.ref C) ⟨vs,kw⟩) R s := by
 obtain ⟨hh,g,d,t,os⟩ := s
 exact PySem.W.make_core (PySem.W.makes_of X hm) (PySem.W.looks_findIn X hi) (fun self => PySem.W.bind_fn X self hf) (.inl rfl) h
end
def fW (f : Str) (v : V) : List (Str×V)→List (Str×V)
 | [] => [(f,v)]
 | (g,x) :: r => if g = f then (g,v) :: r else (g,x) :: fW f v r
theorem jC (f g : Str) (v : V) : ∀ fs : List (Str×V),(fW f v fs).lookup g = if g = f then some v else fs.lookup g
 | [] => by
   show List.lookup g [(f,v)] = _
   by_cases h : g = f
   ·have hb : (g == f) = true := beq_iff_eq.mpr h
    simp only [List.lookup,hb,if_pos h]
   ·have hb : (g == f) = false := beq_eq_false_iff_ne.mpr h
    simp only [List.lookup,hb,if_neg h]
 | (k,x) :: r => by
   have ih := jC f g v r
   rw [show fW f v ((k,x) :: r) = (if k = f then (k,v) :: r else (k,x) :: fW f v r) from rfl]
   by_cases hk : k = f
   ·rw [if_pos hk]
    by_cases h : g = k
    ·have hb : (g == k) = true := beq_iff_eq.mpr h
     simp only [List.lookup,hb,if_pos (h.trans hk)]
    ·have hb : (g == k) = false := beq_eq_false_iff_ne.mpr h
     simp only [List.lookup,hb,if_neg (fun e : g = f => h (e.trans hk.symm))]
   ·rw [if_neg hk]
    by_cases h : g = k
    ·have hb : (g == k) = true := beq_iff_eq.mpr h
     simp only [List.lookup,hb,if_neg (fun e : g = f => hk (h.symm.trans e))]
    ·have hb : (g == k) = false := beq_eq_false_iff_ne.mpr h
     simp only [List.lookup,hb]
     exact ih
theorem Oi (f : Str) (v : V) : ∀ fs : List (Str×V),f∈(fW f v fs).map (·.1)∧∀ g,g∈fs.map (·.1)→g∈(fW f v fs).map (·.1)
 | [] => ⟨by simp [fW],fun g h => by simp at h⟩
 | (k,x) :: r => by
   obtain ⟨i1,i2⟩ := Oi f v r
   rw [show fW f v ((k,x) :: r) = (if k = f then (k,v) :: r else (k,x) :: fW f v r) from rfl]
   by_cases hk : k = f
   ·rw [if_pos hk]
    subst hk
    exact ⟨by simp,fun g h => by simpa using h⟩
   ·rw [if_neg hk]
    refine ⟨?_,fun g h => ?_⟩
    ·rw [List.map_cons]
     exact List.mem_cons_of_mem _ i1
    ·rw [List.map_cons] at h ⊢
     rcases List.mem_cons.mp h with e | e
     ·exact List.mem_cons.mpr (.inl e)
     ·exact List.mem_cons_of_mem _ (i2 g e)
theorem QK (f : Str) (v : V) : ∀ fs : List (Str×V),(fW f v fs).length≤fs.length + 1
 | [] => by simp [fW]
 | (k,x) :: r => by
   have ih := QK f v r
   rw [show fW f v ((k,x) :: r) = (if k = f then (k,v) :: r else (k,x) :: fW f v r) from rfl]
   by_cases hk : k = f
   ·rw [if_pos hk,List.length_cons,List.length_cons]; lia
   ·rw [if_neg hk,List.length_cons,List.length_cons]; lia
theorem Bm.some_of {v : V} {o : Option Value} (r : Bm (some v) o) : ∃ u,o = some u∧RelV v u := by
 cases o with
 | none => exact (show False from r).elim
 | some u => exact ⟨u,rfl,r⟩
theorem Bm.none_of {o : Option Value} (r : Bm none o) : o = none := by
 cases o with
 | none => rfl
 | some u => exact (show False from r).elim
theorem ai7 {v : V} {u : Value} (r : RelV v u) : PySem.W.handedIn u = true := by
 cases v with
 | non => cases (show u = Value.none from r); rfl
 | bl b => cases (show u = Value.bool b from r); rfl
 | int i => obtain ⟨t,e⟩ := (show ∃ t,u = Value.int i t from r); cases e; rfl
 | str x => obtain ⟨t,e⟩ := (show ∃ t,u = Value.str x t from r); cases e; rfl
 | byt b => obtain ⟨t,e⟩ := (show ∃ t,u = Value.bytes b t from r); cases e; rfl
 | flt b => obtain ⟨t,e⟩ := (show ∃ t,u = Value.float b t from r); cases e; rfl
 | ref a => cases (show u = Value.ref a from r); rfl
 | ty n => cases (show u = Value.type n from r); rfl
section
variable {P : Program} {w : World} {H H' : Hp} {h h' : Heap} {a C dx : Addr} {fs fs' : List (Str×V)}
theorem J3 (hok : Gu P w H h) (e : H a = some (.ins C dx fs)) : ∃ mA,agB h a dx C mA∧(∀ f,Bm (fs.lookup f) (mA f))∧PySem.Within mA (fs.map (·.1))∧fs.length≤1000∧H dx = some (.own a) := by
 obtain ⟨d,z,ne,ob,mA,n,r,q⟩ := (show fH P w H h a (.ins C dx fs) from hok a _ e)
 exact ⟨mA,⟨ob,n,ne⟩,r,q,z,d⟩
end
structure Cls (K : PySem.W.Frag) (C : Addr) : Prop where
 pg : PySem.W.plainGet K C Str.empty = true
 hd : PySem.W.hasDictIn K C = true
 po : PySem.W.plainOver K C = true
 sa : PySem.W.findIn K (.ref C) "__setattr__" = some (some (.builtin "object.__setattr__"))
theorem Cls.get {K : PySem.W.Frag} {C : Addr} (c : Cls K C) (f : Str) : PySem.W.plainGet K C f = true := c.pg
def gK (K : PySem.W.Frag) (C : Addr) (f : Str) : Prop := PySem.W.findIn K (.ref C) f = some none
theorem gK.taker {K : PySem.W.Frag} {C : Addr} {f : Str} (n : gK K C f) : PySem.W.takerIn K C f = some none := by
 unfold PySem.W.takerIn
 rw [show PySem.W.findIn K (.ref C) f = some none from n]
 rfl
structure Meth (K : PySem.W.Frag) (C : Addr) (m : Str) (f : Addr) : Prop where
 at_ : PySem.W.findIn K (.ref C) m = some (some (.ref f))
 fn : PySem.W.isFn K (.ref f) = true
 kp : PySem.W.keepIn K (.ref f) = true
section
variable {X : Cx} {pins : List (Addr×Obj)} {σ : St} {H : Hp} {s : Shared} {a C dx : Addr} {fs : List (Str×V)} {f : Str} {v : V} {A : Around} {E : Value→Shared→Prop}
theorem Vo {b : Bool} {Q : Value→Shared→Prop} (I : Inv X pins σ H s) (e : H a = some (.ins C dx fs)) (c : Cls X.K C) (n : gK X.K C f) (l : fs.lookup f = some v)
 (h : ∀ u s',Inv X pins σ H s'→RelV v u→Q u s') : wpAny (model X.prog X.w) A (getAttr (.ref a) f b) Q E s := by
 obtain ⟨mA,O,r,_,_,_⟩ := J3 I.hok e
 obtain ⟨u,hu,ru⟩ := Bm.some_of (v := v) (o := mA f) (by rw [← l]; exact r f)
 exact get_map I.wF O (c.get f) c.hd n hu (ai7 ru) (h u _ (I.tok _) ru)
theorem HX {m : Str} {g : Addr} {pl : Sem Bool} {Q : Value×List Value→Shared→Prop} (I : Inv X pins σ H s) (e : H a = some (.ins C dx fs)) (c : Cls X.K C) (k : Meth X.K C m g) (l : fs.lookup m = none)
 (h : Q (.ref g,[.ref a]) s) : wpAny (model X.prog X.w) A (getMethod (.ref a) m pl) Q E s := by
 obtain ⟨mA,O,r,_,_,_⟩ := J3 I.hok e
 have hn : mA m = none := Bm.none_of (by rw [← l]; exact r m)
 exact akl I.wF O (c.get m) k.at_ k.fn hn h
theorem Vp {y : V} {u : Value} {Q : Unit→Shared→Prop} (I : Inv X pins σ H s) (e : H a = some (.ins C dx fs)) (c : Cls X.K C) (n : gK X.K C f) (hl : fs.length < 1000) (ry : RelV y u)
 (h : ∀ s',Inv X pins σ (upd H a (.ins C dx (fW f y fs))) s'→Q () s') : wpAny (model X.prog X.w) A (setAttr (.ref a) f u) Q E s := by
 obtain ⟨mA,O,r,wi,_,ho⟩ := J3 I.hok e
 have hz : (fs.map (·.1)).length≤sizeLine := by rw [List.length_map,sizeLine_eq]; lia
 refine amO I.wF O c.sa c.po n.taker c.hd wi hz fun h' O' sb => h _ ?_
 have hd : ∃ o,h'.get? dx = some o := let ⟨o,_,_,e',_⟩ := O'.ns; ⟨o,e'⟩
 refine I.write (x := a) (e := dx) (by rw [e]; exact True.intro) (.inr ho) (fun b q hb z => (sb.2 b hb).trans z) hd ?_
 refine ⟨by rw [aq O.ne]; exact ho,?_,O.ne,O'.obj,_,O'.ns,fun g => ?_,fun g hg => ?_⟩
 ·have := QK f y fs; lia
 ·show Bm ((fW f y fs).lookup g) (if g = f then some u else mA g)
  rw [jC]
  by_cases q : g = f
  ·rw [if_pos q,if_pos q]; exact ry
  ·rw [if_neg q,if_neg q]; exact r g
 ·by_cases q : g = f
  ·rw [q]; exact (Oi f y fs).1
  ·refine (Oi f y fs).2 g (wi g fun z => hg ?_)
   show (if g = f then some u else mA g) = none
   rw [if_neg q]; exact z
theorem Inv.made (I : Inv X pins σ H s) : Inv X pins σ (upd (upd H s.heap.objs.size (.own (s.heap.objs.size + 1))) (s.heap.objs.size + 1) (.ins C s.heap.objs.size []))
 { s with heap := (s.heap.push PySem.W.emptyDict).push (PySem.W.instObj C s.heap.objs.size) } := by
 have e1 : (s.heap.push PySem.W.emptyDict).get? s.heap.objs.size = some PySem.W.emptyDict := Heap.get?_push_size s.heap rfl
 have e2 : ((s.heap.push PySem.W.emptyDict).push (PySem.W.instObj C s.heap.objs.size)).get? (s.heap.objs.size + 1) = some (PySem.W.instObj C s.heap.objs.size) := by
  have := Heap.get?_push_size (s.heap.push PySem.W.emptyDict) (o := PySem.W.instObj C s.heap.objs.size) rfl
  rwa [Heap.size_push] at this
 have e3 : (s.heap.push PySem.W.emptyDict).Ns s.heap.objs.size (fun _ => none) := ⟨PySem.W.emptyDict,#[],_,e1,rfl,(fun e he => absurd he (by simp)),fun _ => rfl⟩
 have I1 := I.laid (a := s.heap.objs.size) (o := .own (s.heap.objs.size + 1)) (h' := s.heap.push PySem.W.emptyDict) (t' := s.toks) (fun b u q => Heap.get?_push_of_some _ q) (Nat.le_refl _) ⟨_,e1⟩
 refine I1.laid (a := s.heap.objs.size + 1) (o := .ins C s.heap.objs.size []) (t' := s.toks) (fun b u q => Heap.get?_push_of_some _ q) (Nat.le_of_eq (Heap.size_push _ _)) ?_
 have ne : s.heap.objs.size≠s.heap.objs.size + 1 := Nat.ne_of_lt (Nat.lt_succ_self _)
 refine ⟨by rw [aq ne,aj],Nat.zero_le _,ne,e2,fun _ => none,(Heap.Ns1.of_empty e3).at fun o q => Heap.get?_push_of_some _ q,fun _ => True.intro,fun y hy => absurd rfl hy⟩
theorem amP {prog : Program} {w : World} {env : Env} {e : Expr} {f : Str} {pos : Pos} {s : Shared} {Q : Value→Shared→Prop} (hb : attributeBase e f env (eval e env) = eval e env)
 (h : wpAny (model prog w) A (eval e env) (fun o s₁ => wpAny (model prog w) A (getAttr o f true) Q E s₁) E s) : wpAny (model prog w) A (eval (.Attribute e f pos) env) Q E s :=
 Attribute_any_ h (by rw [arm_eval_Attribute,hb])
end
def abj (K : PySem.W.Frag) (ta : TE) (f : Str) : TE := fun σ H Q => ta σ H fun x H1 => ∃ a C dx fs v,x = .ref a∧H1 a = some (.ins C dx fs)∧Cls K C∧gK K C f∧fs.lookup f = some v∧Q v H1
def awY (K : PySem.W.Frag) (ta tv : TE) (f : Str) : TS := fun D σ H => tv σ H fun y H1 => ta σ H1 fun x H2 => ∃ a C dx fs,x = .ref a∧H2 a = some (.ins C dx fs)∧Cls K C∧gK K C f∧fs.length < 1000∧
 D.nx σ (upd H2 a (.ins C dx (fW f y fs)))
def atJ (X : Cx) (op : Operator) (rd : V→V→Hp→VK→Prop) : Prop :=
 ∀ (pins : List (Addr×Obj)) (s : Shared) (σ : St) (H : Hp) (x y : V) (u v : Value) (Q : VK),Inv X pins σ H s→RelV x u→RelV y v→rd x y H Q→wpAny (model X.prog X.w) X.A (inplaceOp op u v) (EP X pins σ Q) X.xe s
def amQ (K : PySem.W.Frag) (ta tv : TE) (rd : V→V→Hp→VK→Prop) (f : Str) : TS := fun D σ H => ta σ H fun x H1 => ∃ a C dx fs v,x = .ref a∧H1 a = some (.ins C dx fs)∧Cls K C∧gK K C f∧fs.lookup f = some v∧
 tv σ H1 fun y H2 => rd v y H2 fun z H3 => ∃ dx' fs',H3 a = some (.ins C dx' fs')∧fs'.length < 1000∧D.nx σ (upd H3 a (.ins C dx' (fW f z fs')))
section
variable {X : Cx} {o e value : Expr} {f : Str} {pos pos' tpos : Pos} {ta tv : TE}
theorem cL (he : PE X e ta) (hb : attributeBase e f X.env (eval e X.env) = eval e X.env) : PE X (.Attribute e f pos) (abj X.K ta f) := by
 intro pins s σ H Q I h
 refine amP hb (fY (he pins s σ H _ I h) fun u s1 hz => jW hz fun x H1 I1 rx ⟨a,C,dx,fs,v,ex,ea,c,n,l,q⟩ => ?_)
 subst ex
 obtain rfl : u = Value.ref a := rx
 exact Vo I1 ea c n l fun u' s2 I2 ru => ⟨v,H1,I2,ru,q⟩
theorem fZ (ha : PE X o ta) (hv : PE X value tv) (hs : swapsWith value (some (.Attribute o f pos')) pos.line X.env = pure false) : PS X (.Assign [.Attribute o f pos'] value pos) (awY X.K ta tv f) := by
 intro pins s σ H D I h
 refine plainObj_wpAny_Assign_Attribute (fY (hv pins s σ H _ I h) fun u s1 hz => jW hz fun y H1 I1 ry q => fY (ha pins s1 σ H1 _ I1 q) fun ov s2 hz => jW hz fun x H2 I2 rx ⟨a,C,dx,fs,ex,ea,c,n,l,q2⟩ => ?_) hs
 subst ex
 obtain rfl : ov = Value.ref a := rx
 exact Vp I2 ea c n l ry fun s3 I3 => ⟨σ,_,I3,q2⟩
theorem ai8 {op : Operator} {rd : V→V→Hp→VK→Prop} (ha : PE X o ta) (hv : PE X value tv) (hop : atJ X op rd) : PS X (.AugAssign (.Attribute o f tpos) op value pos) (amQ X.K ta tv rd f) := by
 intro pins s σ H D I h
 refine wpAny_AugAssign_AttributeAny (fY (ha pins s σ H _ I h) fun ov s1 hz => jW hz fun x H1 I1 rx ⟨a,C,dx,fs,v,ex,ea,c,n,l,q⟩ => ?_)
 subst ex
 obtain rfl : ov = Value.ref a := rx
 refine Vo I1 ea c n l fun u s2 I2 ru => fY (hv pins s2 σ H1 _ I2 q) fun w3 s3 hz => jW hz fun y H2 I3 ry q3 => fY (hop pins s3 σ H2 v y u w3 _ I3 ru ry q3) fun w4 s4 hz => jW hz fun z H3 I4 rz ⟨dx',fs',ea',l',q4⟩ => ?_
 exact Vp I4 ea' c n l' rz fun s5 I5 => ⟨σ,_,I5,q4⟩
def awZ : V→V→Hp→VK→Prop := fun x y H Q => ∃ i j,x = .int i∧y = .int j∧Q (.int (i - j)) H
theorem aqe : atJ X .Sub awZ := by
 rintro pins s σ H x y u v Q I rx ry ⟨i,j,rfl,rfl,q⟩
 obtain ⟨t,rfl⟩ := (show ∃ t,u = Value.int i t from rx)
 obtain ⟨t',rfl⟩ := (show ∃ t',v = Value.int j t' from ry)
 exact PyProof.Rows.isub_int ⟨.int (i - j),H,I.tok _,⟨_,rfl⟩,q⟩
end
section
variable {X : Cx} {pins : List (Addr×Obj)} {σ : St} {H : Hp} {s : Shared} {A : Around} {E : Value→Shared→Prop} {Q : Value→Shared→Prop} {c : Value} {b : Bool}
inductive J4 (K : PySem.W.Frag) (H : Hp) : V→Value→Prop where
 | non : J4 K H .non (.type "NoneType")
 | bl (x : Bool) : J4 K H (.bl x) (.type "bool")
 | int (i : Int) : J4 K H (.int i) (.type "int")
 | str (x : Str) : J4 K H (.str x) (.type "str")
 | flt (x : UInt64) : J4 K H (.flt x) (.type "float")
 | lst {a : Addr} {xs : List V} (e : H a = some (.lst xs)) : J4 K H (.ref a) (.type "list")
 | frz {a : Addr} {o : Obj} {xs : List V} (e : H a = some (.frz o (.lst xs))) : J4 K H (.ref a) (.type "list")
 | tup {a : Addr} {xs : List V} (e : H a = some (.tup xs)) : J4 K H (.ref a) (.type "tuple")
 | dK {a : Addr} {kvs : List (Key×V)} (e : H a = some (.dK kvs)) : J4 K H (.ref a) (.type "dict")
 | dT {a : Addr} {kvs : List (List Key×V)} (e : H a = some (.dT kvs)) : J4 K H (.ref a) (.type "dict")
 | ins {a C dx : Addr} {fs : List (Str×V)} (e : H a = some (.ins C dx fs)) (cl : Cls K C) (ha : PySem.W.findIn K (.ref C) "__class__" = some (some (.builtin "object.__class__")))
    (hn : PySem.W.specialIn K (.builtin "object.__class__") "__get__" = some (some (.builtin "getset_descriptor.__get__"))) (htk : PySem.W.takesIn K (.builtin "object.__class__") = some true)
    (hm : PySem.W.mroIn K C (.type "object") = some true) : J4 K H (.ref a) (.ref C)
theorem ai9 {x : V} {u t : Value} (I : Inv X pins σ H s) (rx : RelV x u) (ty : J4 X.K H x t) (e : PySem.W.kitOne X.K t c = some b) (h : ∀ tk,Q (.bool b) { s with toks := tk }) :
 wpAny (model X.prog X.w) A (call (.builtin "isinstance") [u,c]) Q E s := by
 cases ty with
 | non => cases (show u = Value.none from rx); exact PySem.W.kia_one PySem.W.kitx_none I.wF True.intro e (fun z => nomatch z) h
 | bl y => cases (show u = Value.bool y from rx); exact PySem.W.kia_one PySem.W.kitx_bool I.wF True.intro e (fun z => nomatch z) h
 | int i => obtain ⟨t,q⟩ := (show ∃ t,u = Value.int i t from rx); cases q; exact PySem.W.kia_one PySem.W.kitx_int I.wF True.intro e (fun z => nomatch z) h
 | str y => obtain ⟨t,q⟩ := (show ∃ t,u = Value.str y t from rx); cases q; exact PySem.W.kia_one PySem.W.kitx_str I.wF True.intro e (fun z => nomatch z) h
 | flt y => obtain ⟨t,q⟩ := (show ∃ t,u = Value.float y t from rx); cases q; exact PySem.W.kia_one PySem.W.kitx_float I.wF True.intro e (fun z => nomatch z) h
 | @lst a xs ea =>
   cases (show u = Value.ref a from rx)
   obtain ⟨_,_,n,_,h1⟩ := (show fH X.prog X.w H s.heap a (.lst xs) from I.hok a _ ea)
   exact PySem.W.kia_one PySem.W.kitx_list I.wF ⟨_,h1,rfl⟩ e (fun z => nomatch z) h
 | @frz a ob xs ea =>
   cases (show u = Value.ref a from rx)
   obtain ⟨_,_,_,n,_,h1⟩ := (show fH X.prog X.w H s.heap a (.frz ob (.lst xs)) from I.hok a _ ea)
   exact PySem.W.kia_one PySem.W.kitx_list I.wF ⟨_,h1,rfl⟩ e (fun z => nomatch z) h
 | @tup a xs ea =>
   cases (show u = Value.ref a from rx)
   obtain ⟨_,_,_,p⟩ := (show fH X.prog X.w H s.heap a (.tup xs) from I.hok a _ ea)
   obtain ⟨o,h1,h2,_⟩ := p
   exact PySem.W.kia_one PySem.W.kitx_tuple I.wF ⟨o,h1,h2⟩ e (fun z => nomatch z) h
 | @dK a kvs ea =>
   cases (show u = Value.ref a from rx)
   obtain ⟨_,_,vs,_,p⟩ := (show fH X.prog X.w H s.heap a (.dK kvs) from I.hok a _ ea)
   obtain ⟨o,es,ep,h1,h2,_⟩ := p
   exact PySem.W.kia_one PySem.W.kitx_dict I.wF ⟨o,h1,h2.1⟩ e (fun z => nomatch z) h
 | @dT a kvs ea =>
   cases (show u = Value.ref a from rx)
   obtain ⟨_,_,xs,_,o,es,ep,h1,h2,_⟩ := (show fH X.prog X.w H s.heap a (.dT kvs) from I.hok a _ ea)
   exact PySem.W.kia_one PySem.W.kitx_dict I.wF ⟨o,h1,h2.1⟩ e (fun z => nomatch z) h
 | @ins a C dx fs ea cl ha hn htk hm =>
   cases (show u = Value.ref a from rx)
   obtain ⟨mA,O,_⟩ := J3 I.hok ea
   obtain ⟨od,J,_⟩ := O.look
   exact PySem.W.kia_one (PySem.W.kitx_own (cl.get _) cl.hd ha hn htk hm) I.wF J e (fun z => nomatch z) h
end
end L2
namespace L2
open PySem PySem.Spec PyProof.Rows
structure bR (k : Nat) (A : Around) : Prop where
 hd : A.handled = none
 dp : A.depth + 3 * k + 5 < recursionLimit
 un : A.units + 16 * k + 200 < cLine
theorem bR.mono {j k : Nat} {A : Around} (r : bR k A) (h : j≤k) : bR j A := ⟨r.hd,by have := r.dp; lia,by have := r.un; lia⟩
theorem bR.deeper {k : Nat} {A : Around} (r : bR (k + 1) A) (env : Env) : bR k (A.deeper env) :=
 ⟨r.hd,by have := r.dp; show A.depth + 1 + 3 * k + 5 < _; lia,by have := r.un; show A.units + 3 + 16 * k + 200 < _; lia⟩
theorem agC {A : Around} {C : Addr} {us : List Value} {kw : List (Str×Value)} : (A.under (.builtin "type.__call__" ⟨.ref C :: us,kw⟩)).depth = A.depth + 1 := by
 first | rfl | simp [Around.under,Code.weight,Code.isCreation,Code.isGuard,Code.isCaller,Code.frames,Code.isFrame,guardIds]
theorem agD {A : Around} {C : Addr} {us : List Value} {kw : List (Str×Value)} : (A.under (.builtin "type.__call__" ⟨.ref C :: us,kw⟩)).units = A.units + 1 := by
 first | rfl | simp [Around.under,Code.cUnits,Code.frames,Code.isFrame]
theorem bR.make {k : Nat} {A : Around} (r : bR (k + 1) A) (C : Addr) (us : List Value) (kw : List (Str×Value)) : bR k (A.under (.builtin "type.__call__" ⟨.ref C :: us,kw⟩)) :=
 ⟨r.hd,by have := r.dp; rw [agC]; lia,by have := r.un; rw [agD]; lia⟩
theorem bR.depth {k : Nat} {A : Around} (r : bR k A) : A.depth < recursionLimit := by have := r.dp; lia
theorem bR.units {k : Nat} {A : Around} (r : bR k A) : A.units + 64 < cLine := by have := r.un; lia
theorem bR.agE {k : Nat} {A : Around} (r : bR k A) : A.units < cLine := by have := r.un; lia
def Gv : TA := fun _ H Q => Q [] H
def lF (ta : TE) (tr : TA) : TA := fun σ H Q => ta σ H fun x H1 => tr σ H1 fun xs H2 => Q (x :: xs) H2
section
variable {X : Cx} {e : Expr} {es : List Expr} {te : TE} {t : TA} {pos : Pos}
theorem ao : PA X [] Gv := fun _ _ _ _ H Q I h => Calls.spliced_nil ⟨[],H,I,.nil,h⟩
theorem aa (ha : PE X e te) (hr : PA X es t) (hs : starEach (e :: es) X.env = (false,eval e X.env) :: starEach es X.env := by rfl) : PA X (e :: es) (lF te t) := by
 intro pos pins s σ H Q I h
 rw [hs]
 show wpAny _ _ (spliced ((false,eval e X.env) :: backTo pos (starEach es X.env))) _ _ s
 refine Calls.spliced_cons (fY (ha pins s σ H _ I h) fun u s1 hz => jW hz fun x H1 I1 r1 q1 => ?_)
 exact fY (hr pos pins s1 σ H1 _ I1 q1) fun us s2 hz => jW hz fun xs H2 I2 r2 q2 => ⟨x :: xs,H2,I2,.cons r1 r2,q2⟩
def akn (t : TA) : TE := fun σ H Q => t σ H fun xs H1 => xs.length≤sizeLine∧∀ p,H1 p = none→Q (.ref p) (upd H1 p (.tup xs))
def aw0 (t : TA) : TE := fun σ H Q => t σ H fun xs H1 => xs.length≤sizeLine∧∀ p,H1 p = none→Q (.ref p) (upd H1 p (.lst xs))
theorem b8 {x1} (h : PA X es t) : PE X (.Tuple es x1 pos) (akn t) := by
 intro pins s σ H Q I hq
 refine wpAny_Tuple_spliced (fY (h pos pins s σ H _ I hq) fun us s1 hz => jW hz fun xs H1 I1 r ⟨z,q⟩ => ⟨by rw [← r.length]; exact z,?_⟩)
 have hf : H1 s1.heap.objs.size = none := I1.hok.fresh (Nat.le_refl _)
 refine ⟨.ref s1.heap.objs.size,upd H1 s1.heap.objs.size (.tup xs),I1.laid (t' := s1.toks) (fun b u e => Heap.get?_push_of_some _ e) (Nat.le_refl _) ?_,rfl,q _ hf⟩
 exact ⟨z,us,r,⟨_,Heap.get?_push_size _ rfl,rfl,_,rfl⟩⟩
theorem bL (h : PA X es t) : PE X (.List es pos) (aw0 t) := by
 intro pins s σ H Q I hq
 refine wpAny_List_spliced (fY (h pos pins s σ H _ I hq) fun us s1 hz => jW hz fun xs H1 I1 r ⟨z,q⟩ => ⟨by rw [← r.length]; exact z,?_⟩)
 have hf : H1 s1.heap.objs.size = none := I1.hok.fresh (Nat.le_refl _)
 refine ⟨.ref s1.heap.objs.size,upd H1 s1.heap.objs.size (.lst xs),I1.laid (t' := s1.toks) (fun b u e => Heap.get?_push_of_some _ e) (Nat.le_refl _) ?_,rfl,q _ hf⟩
 exact ⟨z,us,0,r,Heap.get?_push_size _ rfl⟩
end
abbrev Sp := List V→Hp→VK→XK→Prop
abbrev CXT := List Env→Hp→Shared→XK→Value→Shared→Prop
structure agF (P : Program) (w : World) (K : PySem.W.Frag) (mg : Str→Option Value) (base : Heap) (A : Around) (outer : List Env) (s : Shared) (H : Hp) : Prop where
 frames : A.frames = some outer
 mod : Mod K mg base
 bs : ∀ b o,base.get? b = some o→s.heap.get? b = some o∧H b = none
 bsz : base.objs.size≤s.heap.objs.size
 HN : s.heap.FunFrames base outer
 frf : ∀ b∈frs outer,H b = none
 hok : Gu P w H s.heap
 bare : AllBare s.gens
def CE (outer : List Env) (P : Program) (w : World) (H : Hp) (s : Shared) (Q : VK) (u : Value) (s' : Shared) : Prop :=
 ∃ v H',s'.os = s.os∧AllBare s'.gens∧Un (frs outer) [] H H' s.heap s'.heap∧Gu P w H' s'.heap∧RelV v u∧Q v H'
def CR (CX : CXT) (outer : List Env) (P : Program) (w : World) (H : Hp) (s : Shared) (Q : VK) (E : XK) (r : Result) (s' : Shared) : Prop :=
 match r with
 | .ok (.ret u) => CE outer P w H s Q u s'
 | .ok _ => False
 | .error e => CX outer H s E e s'
structure cZ (P : Program) (w : World) (K : PySem.W.Frag) (mg : Str→Option Value) (base : Heap) (CX : CXT) (k : Nat) (f : Addr) (fd : FuncData) (ps : List Str) (sp : Sp) : Prop where
 len : ∀ vs H Q E,sp vs H Q E→vs.length = ps.length
 run : ∀ (A : Around) (outer : List Env) (s : Shared) (H : Hp) (args : Args) (us : List Value) (vs : List V) (Q : VK) (E : XK),bR k A→agF P w K mg base A outer s H→BindsTo s fd args (ps.zip us)→Vals vs us→sp vs H Q E→
  codeAny (model P w) A (.call (.ref f) args) (CR CX outer P w H s Q E) s
theorem agF.make {P : Program} {w : World} {K : PySem.W.Frag} {mg : Str→Option Value} {base : Heap} {A : Around} {outer : List Env} {s : Shared} {H : Hp} (e : agF P w K mg base A outer s H) (C : Addr) (us : List Value) (kw : List (Str×Value)) :
 agF P w K mg base (A.under (.builtin "type.__call__" ⟨.ref C :: us,kw⟩)) outer s H := ⟨by first | exact e.frames | (simpa [Around.under,Code.envs,Code.isFrame,pushEnvs] using e.frames),e.mod,e.bs,e.bsz,e.HN,e.frf,e.hok,e.bare⟩
section
variable {X : Cx} {pins : List (Addr×Obj)} {σ : St} {H : Hp} {s s' : Shared}
theorem Inv.env0 (I : Inv X pins σ H s) : agF X.prog X.w X.K X.mg X.base X.A X.stack s H :=
 ⟨I.ok.frames,I.ok.mod,I.bs,Nat.le_trans I.ok.bsz I.sz,I.stack,I.abf,I.hok,I.bare⟩
theorem Inv.after {Q : VK} {u : Value} (I : Inv X pins σ H s) (h : CE X.stack X.prog X.w H s Q u s') : EP X pins σ Q u s' := by
 obtain ⟨v,H',os,bare,un,hok,r,q⟩ := h
 obtain ⟨hh,g,d,t,os'⟩ := s'
 obtain rfl : os' = s.os := os
 exact ⟨v,H',I.call (h' := hh) (g' := g) (d' := d) (t' := t) (ch := []) un hok bare (fun b z => absurd z (by simp)),r,q⟩
end
def ako (sp : Sp) (Vq : List V) (E : XK) (t : TA) : TE := fun σ H Q => t σ H fun vs H1 => sp (vs ++ Vq) H1 Q E
def apl (C : Addr) (m : Str) (sp : Sp) (Vq : List V) (E : XK) (ta : TE) (t : TA) : TE := fun σ H Q => ta σ H fun x H1 => ∃ a dx fs,x = .ref a∧H1 a = some (.ins C dx fs)∧fs.lookup m = none∧
 t σ H1 fun vs H2 => sp (x :: (vs ++ Vq)) H2 Q E
def apm (C : Addr) (sp : Sp) (Vq : List V) (E : XK) (t : TA) : TE := fun σ H Q => t σ H fun vs H1 => ∀ x dx,H1 x = none→H1 dx = none→dx≠x→
 sp (.ref x :: (vs ++ Vq)) (upd (upd H1 dx (.own x)) x (.ins C dx [])) (fun v H2 => v = .non∧Q (.ref x) H2) E
def Binds (K : PySem.W.Frag) (fd : FuncData) (ps : List Str) (ds : List Value) : Prop :=
 ∀ (s : Shared) (us : List Value),K.In s.heap→(us ++ ds).length = ps.length→BindsTo s fd ⟨us,[]⟩ (ps.zip (us ++ ds))
theorem Binds.all {K : PySem.W.Frag} {fd : FuncData} {ps : List Str} (h : ∀ us : List Value,us.length = ps.length→bindArgs fd ⟨us,[]⟩ = pure (ps.zip us)) : Binds K fd ps [] := fun s us _ hl => by
 rw [List.append_nil] at hl ⊢
 exact .of_eq (h us hl)
def Passes (CX : CXT) (X : Cx) (E : XK) : Prop := ∀ (pins : List (Addr×Obj)) (σ : St) (H : Hp) (s : Shared) (e : Value) (s' : Shared),Inv X pins σ H s→CX X.stack H s E e s'→X.xe e s'
section
variable {X : Cx} {CX : CXT} {k : Nat} {f C : Addr} {fd : FuncData} {ps : List Str} {sp : Sp} {Vq : List V} {ds : List Value} {E : XK} {x m : Str} {p pos apos : Pos} {e o : Expr} {es : List Expr} {ta : TE} {t : TA}
theorem agG {pins : List (Addr×Obj)} {σ : St} {H : Hp} {s : Shared} {Q : VK} {us : List Value} {vs : List V} (F : cZ X.prog X.w X.K X.mg X.base CX k f fd ps sp) (hr : bR k X.A) (hb : Binds X.K fd ps ds) (hd : Vals Vq ds) (hx : Passes CX X E)
 (I : Inv X pins σ H s) (r : Vals vs us) (h : sp (vs ++ Vq) H Q E) : wpAny (model X.prog X.w) X.A (call (.ref f) us) (EP X pins σ Q) X.xe s := by
 have r2 : Vals (vs ++ Vq) (us ++ ds) := r.append hd
 have hl : (us ++ ds).length = ps.length := by rw [← r2.length]; exact F.len _ _ _ _ h
 refine wpAny_call (codeAny_mono (F.run X.A X.stack s H ⟨us,[]⟩ (us ++ ds) (vs ++ Vq) Q E hr I.env0 (hb s us I.wF hl) r2 h) fun r s' hq => ?_)
 cases r with
 | error e => exact hx pins σ H s e s' I hq
 | ok fl =>
   cases fl with
   | ret u => exact I.after hq
   | next => exact False.elim hq
   | brk => exact False.elim hq
   | cont => exact False.elim hq
theorem cG (F : cZ X.prog X.w X.K X.mg X.base CX k f fd ps sp) (hr : bR k X.A) (hg : Gl X x) (hm : X.mg x = some (.ref f)) (hk : PySem.W.keepIn X.K (.ref f) = true) (hb : Binds X.K fd ps ds) (hd : Vals Vq ds) (hx : Passes CX X E)
 (ha : PA X (e :: es) t) (hdb : (x == ("__debug__" : Str)) = false := by decide) (he : starEach (e :: es) X.env = (false,eval e X.env) :: starEach es X.env := by rfl) (hpl : (backTo pos (starEach es X.env)).any (·.1) = false := by rfl) :
 PE X (.Call (.Name x p) (e :: es) [] pos) (ako sp Vq E t) := by
 intro pins s σ H Q I h
 refine wpAny_Call_Name_kw (yq I hg hm ?_ hdb)
 refine PySem.W.callWith_K (h₀ := X.base) I.ok.mod.kin hk (fY (ha pos pins s σ H _ I h) fun us s1 hz => jW hz fun vs H1 I1 r q => ⟨I1.wF,?_⟩) he hpl
 exact agG F hr hb hd hx I1 r q
theorem cC {pl : Sem Bool} (he : PE X o ta) (c : Cls X.K C) (hm : Meth X.K C m f) (F : cZ X.prog X.w X.K X.mg X.base CX k f fd ps sp) (hr : bR k X.A) (hb : Binds X.K fd ps ds) (hd : Vals Vq ds) (hx : Passes CX X E) (ha : PA X (e :: es) t)
 (hst : starEach (e :: es) X.env = (false,eval e X.env) :: starEach es X.env := by rfl) (hpl : (backTo pos (starEach es X.env)).any (·.1) = false := by rfl)
 (ht : eval (.Call (.Attribute o m apos) (e :: es) [] pos) X.env = (do
   let ov ← eval o X.env
   standAt apos.atName
   let (f,first) ← holding [ov] (getMethod ov m pl)
   callWith pos f first (backTo pos (starEach (e :: es) X.env)) (backToKw pos (keywordEach [] X.env))) := by rfl) :
 PE X (.Call (.Attribute o m apos) (e :: es) [] pos) (apl C m sp Vq E ta t) := by
 intro pins s σ H Q I h
 refine PySem.W.methodCall_KW (pl := pl) (fY (he pins s σ H _ I h) fun u s1 hz => jW hz fun x H1 I1 rx ⟨a,dx,fs,ex,ea,l,q⟩ => ?_) ht
 subst ex
 obtain rfl : u = Value.ref a := rx
 refine HX I1 ea c hm l ?_
 refine PySem.W.callWith_K (first := [.ref a]) (h₀ := X.base) I.ok.mod.kin hm.kp (fY (ha pos pins s1 σ H1 _ I1 q) fun us s2 hz => jW hz fun vs H2 I2 r q2 => ⟨I2.wF,?_⟩) hst hpl
 exact agG (us := .ref a :: us) (vs := .ref a :: vs) F hr hb hd hx I2 (.cons rfl r) q2
theorem wH {pl : Sem Bool} (he : PE X o ta) (c : Cls X.K C) (hm : Meth X.K C m f) (F : cZ X.prog X.w X.K X.mg X.base CX k f fd ps sp) (hr : bR k X.A) (hb : Binds X.K fd ps ds) (hd : Vals Vq ds) (hx : Passes CX X E)
 (ht : eval (.Call (.Attribute o m apos) [] [] pos) X.env = (do
   let ov ← eval o X.env
   standAt apos.atName
   let (f,first) ← holding [ov] (getMethod ov m pl)
   callWith pos f first (backTo pos (starEach [] X.env)) (backToKw pos (keywordEach [] X.env))) := by rfl) :
 PE X (.Call (.Attribute o m apos) [] [] pos) (apl C m sp Vq E ta Gv) := by
 intro pins s σ H Q I h
 refine PySem.W.methodCall_KW (pl := pl) (fY (he pins s σ H _ I h) fun u s1 hz => jW hz fun x H1 I1 rx ⟨a,dx,fs,ex,ea,l,q⟩ => ?_) ht
 subst ex
 obtain rfl : u = Value.ref a := rx
 refine HX I1 ea c hm l ?_
 exact PySem.W.callWith_K0 (first := [.ref a]) I1.wF hm.kp (agG (us := [.ref a]) (vs := [.ref a]) F hr hb hd hx I1 (.cons rfl .nil) q)
structure Mk (K : PySem.W.Frag) (C f : Addr) : Prop where
 makes : PySem.W.makesIn K C = true
 init : PySem.W.findIn K (.ref C) "__init__" = some (some (.ref f))
 fn : PySem.W.isFn K (.ref f) = true
 kp : PySem.W.keepIn K (.ref C) = true
theorem aen {pins : List (Addr×Obj)} {σ : St} {H : Hp} {s : Shared} {Q : VK} {us : List Value} {vs : List V} (M : Mk X.K C f) (F : cZ X.prog X.w X.K X.mg X.base CX k f fd ps sp) (hr : bR (k + 1) X.A) (hb : Binds X.K fd ps ds) (hd : Vals Vq ds)
 (hx : Passes CX X E) (I : Inv X pins σ H s) (r : Vals vs us)
 (h : ∀ x dx,H x = none→H dx = none→dx≠x→sp (.ref x :: (vs ++ Vq)) (upd (upd H dx (.own x)) x (.ins C dx [])) (fun v H2 => v = .non∧Q (.ref x) H2) E) :
 wpAny (model X.prog X.w) X.A (call (.ref C) us) (EP X pins σ Q) X.xe s := by
 have hq := h (s.heap.objs.size + 1) s.heap.objs.size (I.hok.fresh (Nat.le_succ _)) (I.hok.fresh (Nat.le_refl _)) (Nat.ne_of_lt (Nat.lt_succ_self _))
 have I2 := Inv.made (C := C) I
 have r2 : Vals (V.ref (s.heap.objs.size + 1) :: (vs ++ Vq)) (Value.ref (s.heap.objs.size + 1) :: (us ++ ds)) := .cons rfl (r.append hd)
 have hl : (Value.ref (s.heap.objs.size + 1) :: us ++ ds).length = ps.length := by
  have e := r2.length
  rw [F.len _ _ _ _ hq] at e
  exact e.symm
 refine wpAny_call (akm (f := f) I.wF M.makes M.init (beq_iff_eq.mp M.fn) (codeAny_mono (F.run _ X.stack _ _ ⟨Value.ref (s.heap.objs.size + 1) :: us,[]⟩ (Value.ref (s.heap.objs.size + 1) :: (us ++ ds)) _ _ E (hr.make C us [])
  (I2.env0.make C us []) (hb _ (Value.ref (s.heap.objs.size + 1) :: us) I2.wF hl) r2 hq) fun r s' hq' => ?_))
 cases r with
 | error e => exact hx pins σ _ _ e s' I2 hq'
 | ok fl =>
   cases fl with
   | ret u =>
     obtain ⟨v,H',I3,rv,ev,q3⟩ := I2.after hq'
     subst ev
     exact ⟨rv,⟨V.ref (s.heap.objs.size + 1),H',I3,rfl,q3⟩⟩
   | next => exact False.elim hq'
   | brk => exact False.elim hq'
   | cont => exact False.elim hq'
theorem abk (M : Mk X.K C f) (F : cZ X.prog X.w X.K X.mg X.base CX k f fd ps sp) (hr : bR (k + 1) X.A) (hg : Gl X x) (hm : X.mg x = some (.ref C)) (hb : Binds X.K fd ps ds) (hd : Vals Vq ds) (hx : Passes CX X E)
 (ha : PA X (e :: es) t) (hdb : (x == ("__debug__" : Str)) = false := by decide) (he : starEach (e :: es) X.env = (false,eval e X.env) :: starEach es X.env := by rfl) (hpl : (backTo pos (starEach es X.env)).any (·.1) = false := by rfl) :
 PE X (.Call (.Name x p) (e :: es) [] pos) (apm C sp Vq E t) := by
 intro pins s σ H Q I h
 refine wpAny_Call_Name_kw (yq I hg hm ?_ hdb)
 refine PySem.W.callWith_K (h₀ := X.base) I.ok.mod.kin M.kp (fY (ha pos pins s σ H _ I h) fun us s1 hz => jW hz fun vs H1 I1 r q => ⟨I1.wF,?_⟩) he hpl
 exact aen M F hr hb hd hx I1 r q
theorem akp (M : Mk X.K C f) (F : cZ X.prog X.w X.K X.mg X.base CX k f fd ps sp) (hr : bR (k + 1) X.A) (hg : Gl X x) (hm : X.mg x = some (.ref C)) (hb : Binds X.K fd ps ds) (hd : Vals Vq ds) (hx : Passes CX X E)
 (hdb : (x == ("__debug__" : Str)) = false := by decide) : PE X (.Call (.Name x p) [] [] pos) (apm C sp Vq E Gv) := by
 intro pins s σ H Q I h
 refine wpAny_Call_Name_kw (yq I hg hm ?_ hdb)
 exact PySem.W.callWith_K0 I.wF M.kp (aen (us := []) M F hr hb hd hx I .nil h)
end
section
variable {X : Cx} {CX : CXT} {k : Nat} {f C : Addr} {fd : FuncData} {ps ks : List Str} {sp : Sp} {E : XK} {x m : Str} {p pos apos az5 : Pos} {e o : Expr} {es : List Expr} {kws : List Keyword} {te ta : TE} {t tk : TA} {nm : Option Str}
variable {g : List Value→List Value→List Value} {gV : List V→List V→List V}
end
structure bz (N P : List Str) (sc : Scope) : Prop where
 kind : sc.kind = .function
 co : sc.isCoroutine = false
 gen : sc.isGenerator = false
 nd : N.Nodup
 pre : N.take P.length = P
 par : ∀ x∈P,sc.names.lookup x = some .local∨sc.names.lookup x = some .cell
 aqf : ∀ y∈sc.names,y.2≠.free
theorem aax {kindOf : Str→Option NameKind} {x : Str} : ∀ {binds : List (Str×Value)} {m : Str→Option Value},(∀ v,(x,v)∉binds)→bindL kindOf binds m x = m x
 | [],_,_ => rfl
 | (n,v) :: r,m,h => by
   unfold bindL
   rw [aax fun w hw => h w (List.mem_cons_of_mem _ hw)]
   split
   ·have : x≠n := by rintro rfl; exact h v List.mem_cons_self
    simp [this]
   ·rfl
theorem aay {kindOf : Str→Option NameKind} {x : Str} : ∀ {binds : List (Str×Value)} {m : Str→Option Value},(∀ v,(x,v)∉binds)→bindC kindOf binds m x = m x
 | [],_,_ => rfl
 | (n,v) :: r,m,h => by
   unfold bindC
   rw [aay fun w hw => h w (List.mem_cons_of_mem _ hw)]
   split
   ·rfl
   ·have : x≠n := by rintro rfl; exact h v List.mem_cons_self
    simp [this]
theorem aaz {kindOf : Str→Option NameKind} {x : Str} {v : Value} : ∀ {P : List Str} {vs : List Value} {i : Nat} {m : Str→Option Value},P.Nodup→P[i]? = some x→vs[i]? = some v→kindOf x = some .local→
 bindL kindOf (P.zip vs) m x = some v
 | [],_,_,_,_,h,_,_ => by simp at h
 | _ :: _,[],_,_,_,_,h,_ => by simp at h
 | p :: P,w :: vs,0,m,nd,h1,h2,hk => by
   simp at h1 h2; subst h1; subst h2
   show bindL kindOf ((p,w) :: P.zip vs) m p = _
   unfold bindL
   rw [aax fun v hv => (List.nodup_cons.mp nd).1 (List.of_mem_zip hv).1,if_pos hk]
   simp
 | p :: P,w :: vs,i + 1,m,nd,h1,h2,hk => by
   show bindL kindOf ((p,w) :: P.zip vs) m x = _
   unfold bindL
   exact aaz (i := i) (List.nodup_cons.mp nd).2 (by simpa using h1) (by simpa using h2) hk
theorem aaA {kindOf : Str→Option NameKind} {x : Str} {v : Value} : ∀ {P : List Str} {vs : List Value} {i : Nat} {m : Str→Option Value},P.Nodup→P[i]? = some x→vs[i]? = some v→kindOf x≠some .local→
 bindC kindOf (P.zip vs) m x = some v
 | [],_,_,_,_,h,_,_ => by simp at h
 | _ :: _,[],_,_,_,_,h,_ => by simp at h
 | p :: P,w :: vs,0,m,nd,h1,h2,hk => by
   simp at h1 h2; subst h1; subst h2
   show bindC kindOf ((p,w) :: P.zip vs) m p = _
   unfold bindC
   rw [aay fun v hv => (List.nodup_cons.mp nd).1 (List.of_mem_zip hv).1,if_neg hk]
   simp
 | p :: P,w :: vs,i + 1,m,nd,h1,h2,hk => by
   show bindC kindOf ((p,w) :: P.zip vs) m x = _
   unfold bindC
   exact aaA (i := i) (List.nodup_cons.mp nd).2 (by simpa using h1) (by simpa using h2) hk
def start (N : List Str) (vs : List V) : St := vs.map some ++ List.replicate (N.length - vs.length) none
def du (CX : CXT) (P : Program) (w : World) (K : PySem.W.Frag) (mg : Str→Option Value) (base : Heap) (N : List Str) (qual : Str) (scope : Scope) (f : Addr) (cd : Value) (A : Around) (outer : List Env) (s : Shared) (H : Hp) (E : XK) : Cx where
 prog := P
 w := w
 K := K
 mg := mg
 base := base
 A := A.deeper (envOfC qual scope s.heap.objs.size f cd)
 N := N
 s₀ := s
 H₀ := H
 env := envOfC qual scope s.heap.objs.size f cd
 outer := outer
 stack := envOfC qual scope s.heap.objs.size f cd :: outer
 ex := []
 calm := true
 fn := fun _ => true
 pn := []
 xe := fun e s' => wpAny (model P w) (A.deeper (envOfC qual scope s.heap.objs.size f cd)) (leaving (envOfC qual scope s.heap.objs.size f cd) e) (fun _ s'' => CX outer H s E e s'') (fun e' s'' => CX outer H s E e' s'') s'
theorem aeo {sc : Scope} {n : Nat} {x : Str} (h : sc.names.lookup x = some .cell) : ∃ c,(cellsFrom n sc.names []).lookup x = some c := by
 have q := PySem.W.cellsFrom_some sc.names n [] (.inl h)
 exact Option.isSome_iff_exists.mp q
theorem ajb {CX : CXT} {P : Program} {w : World} {K : PySem.W.Frag} {mg : Str→Option Value} {base : Heap} {N ps : List Str} {qual : Str} {scope : Scope} {f : Addr} {cd : Value} {A : Around} {outer : List Env} {s s1 : Shared} {H : Hp} {E : XK} {us : List Value} {vs : List V}
 (S : bz N ps scope) (hd : A.handled = none) (e0 : agF P w K mg base A outer s H) (hl : vs.length = ps.length) (r : Vals vs us)
 (x : InCallC s s.heap.objs.size (bindL (envOfC qual scope s.heap.objs.size f cd).kindOf (ps.zip us) fun _ => none) (cellsFrom (s.heap.objs.size + 1) scope.names []) (bindC (envOfC qual scope s.heap.objs.size f cd).kindOf (ps.zip us) fun _ => none) s1) :
 Inv (du CX P w K mg base N qual scope f cd A outer s H E) [] (start N vs) H s1 := by
 have hpl : ps.length≤N.length := by have := congrArg List.length S.pre; rw [List.length_take] at this; lia
 obtain ⟨h1,tk,rfl,hk⟩ := x.done
 have noA : ∀ b : Addr,b∉(du CX P w K mg base N qual scope f cd A outer s H E).ex := fun b z => absurd (show b∈([] : List Addr) from z) (by simp)
 refine ⟨⟨e0.mod,S.kind,rfl,rfl,Nat.le_refl _,fun y z c h1 h2 => ?_,fun y hy => ?_,fun y c _ h => ?_,fun _ => hd,Around.frames_deeper e0.frames,.inr ⟨rfl,rfl⟩,fun b z => absurd z (noA b),e0.bs,e0.bsz,fun b _ _ => noA b,fun b z => absurd z (noA b),e0.HN,e0.frf⟩,
  rfl,e0.bare,Un.kept hk,⟨_,x.toInCall.ns,fun i y v h1 h2 h3 => ?_⟩,fun y c h => ⟨_,x.cell y c h⟩,e0.hok.fresh (Nat.le_refl _),fun y c h => ?_,fun p hp => absurd (show p∈([] : List (Addr×Obj)) from hp) (by simp),e0.hok.kept hk,?_⟩
 ·exact name_of_addr x.apart (PySem.mem_of_lookup h1) (PySem.mem_of_lookup h2)
 ·have hy : scope.names.lookup y = some .cell∨scope.names.lookup y = some .free := hy
  rcases hy with hy | hy
  ·exact aeo hy
  ·exact absurd rfl (S.aqf _ (PySem.mem_of_lookup hy))
 ·exact Nat.le_of_lt (x.above y c (PySem.mem_of_lookup h))
 ·have hi : i < vs.length := by
   unfold start at h2
   by_cases hi : i < vs.length
   ·exact hi
   ·rw [List.getElem?_append_right (by simpa using hi)] at h2
    rw [List.getElem?_replicate] at h2
    split at h2 <;> cases h2
  have ha : vs[i]? = some v := by
   unfold start at h2
   rw [List.getElem?_append_left (by simpa using hi),List.getElem?_map] at h2
   cases e : vs[i]? with
   | none => rw [e] at h2; cases h2
   | some a => rw [e] at h2; cases h2; rfl
  obtain ⟨u,hu,rv⟩ := r.get ha
  have hp : ps[i]? = some y := by
   rw [← S.pre,List.getElem?_take_of_lt (by lia)]; exact h1
  have ndP : ps.Nodup := by rw [← S.pre]; exact S.nd.sublist (List.take_sublist _ _)
  refine ⟨u,rv,?_⟩
  rcases S.par y (List.mem_of_getElem? hp) with k | k
  ·exact .inl ⟨k,aaz ndP hp hu k⟩
  ·obtain ⟨c,e⟩ := aeo (n := s.heap.objs.size + 1) k
   refine .inr ⟨.inl k,c,e,?_⟩
   have q := x.cell y c e
   rw [aaA ndP hp hu (by show scope.names.lookup y≠_; rw [k]; decide)] at q
   exact q
 ·exact e0.hok.fresh (Nat.le_of_lt (x.above y c (PySem.mem_of_lookup h)))
 ·unfold start
  show _ = N.length
  rw [List.length_append,List.length_map,List.length_replicate]
  lia
theorem apn {CX : CXT} {P : Program} {w : World} {K : PySem.W.Frag} {mg : Str→Option Value} {base : Heap} {k : Nat} {f : Addr} {name qual : Str} {params : Arguments} {body : List Stmt} {scope : Scope} {dV kV doc pm cdv ct oc : Value} {an od : Option Addr}
 {osl : Array (Option Value)} {N ps : List Str} {sp : Sp} (lk : K.lookup f = some ⟨oc,od,.func (PySem.W.fnOf name qual params body scope dV kV doc pm an cdv ct),osl⟩) (hcd : PySem.W.codeIn K cdv qual = true) (S : bz N ps scope)
 (len : ∀ vs H Q E,sp vs H Q E→vs.length = ps.length)
 (hbody : ∀ (A : Around) (outer : List Env) (s : Shared) (H : Hp) (vs : List V) (Q : VK) (E : XK),bR k (A.deeper (envOfC qual scope s.heap.objs.size f cdv))→sp vs H Q E→
   ∃ t,PSs (du CX P w K mg base N qual scope f cdv A outer s H E) body t∧t { nx := fun _ H' => Q .non H',rt := Q } (start N vs) H) :
 cZ P w K mg base CX (k + 1) f (PySem.W.fnOf name qual params body scope dV kV doc pm an cdv ct) ps sp := by
 refine ⟨len,fun A outer s H args us vs Q E hr e0 hb r hsp => ?_⟩
 have hl := len _ _ _ _ hsp
 have KX : K.In s.heap := e0.mod.kin.keeps fun b o e => (e0.bs b o e).1
 have lim : s.heap.NoLimit := e0.mod.nolimit.keeps fun b o e => (e0.bs b o e).1
 have hkind : ∀ y∈ps.zip us,scope.names.lookup y.1 = some .local∨(scope.names.lookup y.1 = some .cell∧((cellsFrom (s.heap.objs.size + 1) scope.names []).lookup y.1).isSome = true) := fun ⟨n,v⟩ hy => by
  rcases S.par n (List.of_mem_zip hy).1 with q | q
  ·exact .inl q
  ·exact .inr ⟨q,PySem.W.cellsFrom_some _ _ _ (.inl q)⟩
 refine codeAny_call_function hr.depth (KX _ _ lk) rfl S.co S.gen rfl (PySem.W.codeRec_of KX hcd) (hb _ _ _ _ ?_)
 refine wpAny_newFunctionEnv_cells S.kind hkind fun env he s1 x => ?_
 subst he
 refine ⟨lim.keeps x.toInCall.keep,codeAny_func ?_⟩
 obtain ⟨t,ht,hq⟩ := hbody A outer s H vs Q E (hr.deeper _) hsp
 have I : Inv (du CX P w K mg base N qual scope f cdv A outer s H E) [] (start N vs) H s1 := ajb S hr.hd e0 hl r x
 refine wpAny_mono (ht [] s1 (start N vs) H _ I hq) (fun fl s' hs => ?_) fun e s' hs => hs
 have fin : ∀ {σ' : St} {H' : Hp} {v : V} {u : Value},Inv (du CX P w K mg base N qual scope f cdv A outer s H E) [] σ' H' s'→RelV v u→Q v H'→CE outer P w H s Q u s' :=
  fun {σ' H' v u} J rv q => ⟨v,H',J.os,J.bare,J.base,J.hok,rv,q⟩
 cases fl with
 | ret u =>
   obtain ⟨v,σ',H',J,rv,q⟩ := hs
   exact fin J rv q
 | next =>
   obtain ⟨σ',H',J,q⟩ := hs
   exact fin (v := V.non) (u := Value.none) J rfl q
 | brk =>
   obtain ⟨_,_,_,q⟩ := hs
   exact False.elim q
 | cont =>
   obtain ⟨_,_,_,q⟩ := hs
   exact False.elim q
end L2
namespace L2
open PySem PySem.Spec PyProof.Rows
section
variable {X : Cx} {x : Str} {p pos : Pos} {e : Expr} {es : List Expr} {t : TA} {id T : String} {r : List V→Hp→VK→Prop}
def tCB (r : List V→Hp→VK→Prop) (t : TA) : TE := fun σ H Q => t σ H fun vs H1 => r vs H1 Q
theorem dG (hc : QH X (.builtin id) r) (hg : Gl X x) (hm : X.mg x = none) (hv : bootBuiltins x = some (.builtin id)) (ha : PA X (e :: es) t) (hn : x≠"__name__" := by decide) (hdb : (x == ("__debug__" : Str)) = false := by decide)
 (he : starEach (e :: es) X.env = (false,eval e X.env) :: starEach es X.env := by rfl) (hpl : (backTo pos (starEach es X.env)).any (·.1) = false := by rfl) : PE X (.Call (.Name x p) (e :: es) [] pos) (tCB r t) := by
 intro pins s σ H Q I h
 refine wpAny_Call_Name_kw (Vh I hg hm hv ?_ hn hdb)
 exact PyProof.Rows.callWith_builtin1 (fY (ha pos pins s σ H _ I h) fun us s1 hz => jW hz fun vs H1 I1 r1 q1 => hc pins s1 σ H1 vs us Q I1 r1 q1) he hpl
theorem iI (hc : QH X (.type T) r) (hg : Gl X x) (hm : X.mg x = none) (hv : bootBuiltins x = some (.type T)) (ha : PA X (e :: es) t) (hn : x≠"__name__" := by decide) (hdb : (x == ("__debug__" : Str)) = false := by decide)
 (he : starEach (e :: es) X.env = (false,eval e X.env) :: starEach es X.env := by rfl) (hpl : (backTo pos (starEach es X.env)).any (·.1) = false := by rfl) : PE X (.Call (.Name x p) (e :: es) [] pos) (tCB r t) := by
 intro pins s σ H Q I h
 refine wpAny_Call_Name_kw (Vh I hg hm hv ?_ hn hdb)
 exact PyProof.Rows.callWith_type1 (fY (ha pos pins s σ H _ I h) fun us s1 hz => jW hz fun vs H1 I1 r1 q1 => hc pins s1 σ H1 vs us Q I1 r1 q1) he hpl
end
end L2
namespace HT
open PySem PyProof.Rows
section
open PySem.SeqAt
open PySem.AutoSeq1 (wpAny_loadPart')
open PySem.MeetsSeq PySem.MeetsSeq2 PySem.MeetsSeq3
end
section
variable {prog : Program} {w : World} {A : Around} {E : Value→Shared→Prop} {s : Shared}
theorem amR {t b : Addr} {vs ws : List Value} {Q : Value→Shared→Prop} (ht : IsTup s.heap t vs.toArray) (hb : IsTup s.heap b ws.toArray) (hv : vs≠[])
 (h1 : ws = []→Q (.ref t) s) (h2 : ws≠[]→Q (.ref s.heap.objs.size) { s with heap := s.heap.push { cls := .type "tuple",data := .seq (vs ++ ws).toArray } })
 (hsz : vs.length + ws.length≤sizeLine) : wpAny (model prog w) A (binaryOp .Add (.ref t) (.ref b)) Q E s := by
 obtain ⟨⟨cls,dd,data,sl⟩,ho,hc,n,hd⟩ := id ht
 obtain ⟨⟨cls2,dd2,data2,sl2⟩,ho2,hc2,n2,hd2⟩ := id hb
 simp only at hc hd hc2 hd2
 subst hc hd hc2 hd2
 have e : vs.toArray ++ ws.toArray = (vs ++ ws).toArray := by simp
 by_cases hw : ws = []
 ·exact concat_meets ⟨_,ho,rfl⟩ ⟨_,ho2,rfl⟩ noFill_tuple_add seq_tuple_add PySem.F.slot_tuple_add PySem.F.entry_tuple_add (PySem.F.args_tuple_add_2 _ _)
   (tuple_addW1 t b vs.toArray ws.toArray n n2 dd dd2 sl sl2 (by simpa using hv) (by simp [hw])) ⟨ho,ho2,h1 hw⟩
 ·refine concat_meets ⟨_,ho,rfl⟩ ⟨_,ho2,rfl⟩ noFill_tuple_add seq_tuple_add PySem.F.slot_tuple_add PySem.F.entry_tuple_add (PySem.F.args_tuple_add_2 _ _)
   (tuple_addW2 t b vs.toArray ws.toArray n n2 dd dd2 sl sl2 (by simpa using hv) (by simpa using hw) (by rw [List.size_toArray,List.size_toArray]; exact hsz)) ⟨ho,ho2,?_⟩
  rw [e]
  exact h2 hw
def nA (n d : Nat) : Option Int→Nat
 | none => d
 | some v => if v < 0 then (v + (n : Int)).toNat else min v.toNat n
theorem aqg (n d : Nat) (hd : d≤n) (o : Option Int) : nA n d o≤n := by
 cases o with
 | none => exact hd
 | some v =>
   show (if v < 0 then (v + (n : Int)).toNat else min v.toNat n)≤n
   by_cases hv : v < 0
   ·rw [if_pos hv]; lia
   ·rw [if_neg hv]; exact Nat.min_le_right _ _
theorem ah2 (v : Int) (n d : Nat) : (if v < 0 then max (v + (n : Int)) 0 else min v (n : Int)) = ((nA n d (some v) : Nat) : Int) := by
 show (if v < 0 then max (v + (n : Int)) 0 else min v (n : Int)) = (((if v < 0 then (v + (n : Int)).toNat else min v.toNat n) : Nat) : Int)
 by_cases hv : v < 0
 ·simp only [if_pos hv]; lia
 ·simp only [if_neg hv]; lia
theorem agH (lo hi : Option Int) (n : Nat) : Builtin.Slice.sliceAdjust lo hi 1 (n : Int) = (((nA n 0 lo : Nat) : Int),((nA n n hi : Nat) : Int)) := by
 have h1 : ¬ ((1 : Int) < 0) := by lia
 unfold Builtin.Slice.sliceAdjust
 simp only [h1,if_false]
 refine Prod.ext ?_ ?_
 ·cases lo with
  | none => rfl
  | some v => exact ah2 v n 0
 ·cases hi with
  | none => rfl
  | some v => exact ah2 v n n
theorem agI (i j : Nat) : Builtin.Slice.slicePlaces (i : Int) (j : Int) 1 = j - i := by
 unfold Builtin.Slice.slicePlaces
 have h1 : (1 : Int) > 0 := by lia
 simp only [h1,if_true,Int.ediv_one]
 split <;> lia
theorem Vr {v : Value} {o : Option Int} {Q : Option Int→Shared→Prop} (p : IsPart v o) (h : Q o s) : wpAny (model prog w) A (Builtin.Slice.slicePartIndex v) Q E s := by
 cases p with
 | none => exact slicePart_none h
 | int i t => exact slicePart_int h
theorem Oj {sl : Addr} {vl vu : Value} {lo hi : Option Int} {n : Nat} {Q : Int×Int×Nat→Shared→Prop} (hs : s.heap.IsSliceOf sl vl vu .none) (pl : IsPart vl lo) (pu : IsPart vu hi)
 (h : Q (((nA n 0 lo : Nat) : Int),1,nA n n hi - nA n 0 lo) s) : wpAny (model prog w) A (Builtin.Slice.sliceApplied (.ref sl) (pure (n : Int))) Q E s := by
 obtain ⟨os,hos,hcs,hds⟩ := id hs
 unfold Builtin.Slice.sliceApplied Builtin.Slice.sliceFields
 refine wpAny_bind (wpAny_bind (wpAny_field hos hds (x := vl) rfl (wpAny_bind (wpAny_field hos hds (x := vu) rfl (wpAny_bind (wpAny_field hos hds (x := .none) rfl (wpAny_pure ?_)))))))
 refine wpAny_bind (slicePart_none ?_)
 show wpAny _ _ (if ((1 : Int) == 0) = true then _ else _) _ _ s
 rw [if_neg (by decide)]
 refine wpAny_bind (Vr pl (wpAny_bind (Vr pu (wpAny_bind (wpAny_pure ?_)))))
 show wpAny _ _ (match Builtin.Slice.sliceAdjust lo hi 1 (n : Int) with | (lo,hi) => pure (lo,(1 : Int),Builtin.Slice.slicePlaces lo hi 1)) _ _ s
 rw [agH lo hi n]
 show wpAny _ _ (pure (((nA n 0 lo : Nat) : Int),(1 : Int),Builtin.Slice.slicePlaces ((nA n 0 lo : Nat) : Int) ((nA n n hi : Nat) : Int) 1)) _ _ s
 rw [agI]
 exact wpAny_pure h
theorem akq (xs : Array Value) (i k : Nat) : ((List.range k).filterMap fun (m : Nat) => xs[((i : Int) + (m : Int) * 1).toNat]?).toArray = ((xs.toList.drop i).take k).toArray := by
 have e : (fun (m : Nat) => xs[((i : Int) + (m : Int) * 1).toNat]?) = fun m => xs[i + m]? := by
  funext m
  have : ((i : Int) + (m : Int) * 1).toNat = i + m := by lia
  rw [this]
 rw [e]
 have := pick_run xs i k
 rw [List.filterMap_map] at this
 have e2 : ((fun x => xs[x]?) ∘ fun x => i + x) = fun m => xs[i + m]? := rfl
 rw [e2] at this
 rw [this]
theorem J5 {t sl : Addr} {items : Array Value} {vl vu : Value} {lo hi : Option Int} {Q : Value→Shared→Prop} (ht : IsTup s.heap t items) (hs : s.heap.IsSliceOf sl vl vu .none) (pl : IsPart vl lo) (pu : IsPart vu hi)
 (hw : ¬ (nA items.size 0 lo = 0∧nA items.size items.size hi = items.size))
 (h : Q (.ref s.heap.objs.size) { s with heap := s.heap.push { cls := .type "tuple",data := .seq ((items.toList.drop (nA items.size 0 lo)).take (nA items.size items.size hi - nA items.size 0 lo)).toArray } })
 (hsz : items.size≤sizeLine) : wpAny (model prog w) A (getItem (.ref t) (.ref sl)) Q E s := by
 have ah3 : sizeOk (.seq ((items.toList.drop (nA items.size 0 lo)).take (nA items.size items.size hi - nA items.size 0 lo)).toArray) := by
  show ((items.toList.drop (nA items.size 0 lo)).take (nA items.size items.size hi - nA items.size 0 lo)).toArray.size≤sizeLine
  rw [List.size_toArray,List.length_take,List.length_drop,Array.length_toList]
  lia
 have hj : nA items.size items.size hi≤items.size := aqg _ _ (Nat.le_refl _) hi
 obtain ⟨os,hos,hcs,hds⟩ := id hs
 have hTs : s.TypeIs (.ref sl) "slice" := ⟨os,hos,hcs⟩
 unfold getItem
 try with_reducible refine wpAny_holding ?_
 first | refine wpAny_bind (wpAny_pure ?_) | skip
 refine wpAny_bind (wpAny_sequenceKey ht.typeIs (by decide) ?_)
 refine wpAny_bind (wpAny_callSpecial?_slot (name := Str.ofString "__getitem__") ht.typeIs PyProof.Rows.slot_tuple_getitem
  (wpAny_call_entry PyProof.Rows.slot_tuple_getitem ht.typeIs entry_tuple_getitem ?_ (args_tuple_getitem _ _)))
 show wpAny _ _ (Builtin.Tuple.tupleItemsOf (.ref t) >>= _) _ _ s
 refine wpAny_bind (tupleItemsOf_ ht ?_)
 refine wpAny_bind (wpAny_typeOf hTs ?_)
 rw [if_pos (by decide)]
 refine wpAny_bind (Oj hs pl pu ?_)
 have hno : ¬ ((((nA items.size 0 lo : Nat) : Int) == 0 && (1 : Int) == 1 && (nA items.size items.size hi - nA items.size 0 lo) == items.size) = true) := by
  intro q
  rw [Bool.and_eq_true,Bool.and_eq_true] at q
  have q1 : ((nA items.size 0 lo : Nat) : Int) = 0 := eq_of_beq q.1.1
  have q2 : nA items.size items.size hi - nA items.size 0 lo = items.size := eq_of_beq q.2
  exact hw ⟨by lia,by lia⟩
 show wpAny _ _ (if (((nA items.size 0 lo : Nat) : Int) == 0 && (1 : Int) == 1 && (nA items.size items.size hi - nA items.size 0 lo) == items.size) = true then _ else _) _ _ s
 rw [if_neg hno,akq]
 first
  | exact wpAny_bind (m := Builtin.Tuple.tupleExact _) (wpAny_newObj_type (wpAny_pure ⟨_,rfl,wpAny_pure h⟩) ah3)
  | exact wpAny_bind (m := Builtin.Tuple.tupleExact _) (wpAny_newObj_type (wpAny_bind (wpAny_pure (wpAny_pure ⟨_,rfl,wpAny_pure h⟩))) ah3)
  | exact wpAny_bind (wpAny_bind (m := Builtin.Tuple.tupleExact _) (wpAny_newObj_type (wpAny_pure (wpAny_pure ⟨_,rfl,wpAny_pure h⟩)) ah3))
  | exact wpAny_bind (wpAny_bind (m := Builtin.Tuple.tupleExact _) (wpAny_newObj_type (wpAny_pure ⟨_,rfl,wpAny_pure h⟩) ah3))
end
end HT
namespace L2
open PySem PySem.Spec PyProof.Rows
abbrev TO := St→Hp→(Option Int→Hp→Prop)→Prop
def PO (X : Cx) (e : Option Expr) (t : TO) : Prop :=
 ∀ (pins : List (Addr×Obj)) (s : Shared) (σ : St) (H : Hp) (Q : Option Int→Hp→Prop),Inv X pins σ H s→t σ H Q→
  wpAny (model X.prog X.w) X.A (evalPart e X.env) (fun u s' => ∃ o H',Inv X pins σ H' s'∧IsPart u o∧Q o H') X.xe s
def amS : TO := fun _ H Q => Q none H
def atM (t : TE) : TO := fun σ H Q => t σ H fun x H1 => ∃ i,x = .int i∧Q (some i) H1
section
variable {X : Cx} {e : Expr} {te : TE} {lo hi : Option Expr} {tl th : TO} {pos p2 : Pos}
theorem ah4 : PO X none amS := by
 intro pins s σ H Q I h
 rw [evalPart_none]
 exact wpAny_pure ⟨none,H,I,.none,h⟩
theorem ah5 (h : PE X e te) : PO X (some e) (atM te) := by
 intro pins s σ H Q I hw
 rw [evalPart_some]
 refine fY (h pins s σ H _ I hw) fun u s1 hz => jW hz fun x H1 I1 r1 q1 => ?_
 obtain ⟨i,rfl,q⟩ := q1
 obtain ⟨t,rfl⟩ := r1
 exact ⟨some i,H1,I1,.int i t,q⟩
def SlR (X : Cx) (r : V→Option Int→Option Int→Hp→VK→Prop) : Prop :=
 ∀ (pins : List (Addr×Obj)) (s : Shared) (σ : St) (H : Hp) (x : V) (v vl vu : Value) (lo hi : Option Int) (sl : Addr) (Q : VK),Inv X pins σ H s→RelV x v→s.heap.IsSliceOf sl vl vu .none→IsPart vl lo→IsPart vu hi→r x lo hi H Q→
  ∃ T id,typeLookup (.type T) "__getitem__" = pure (some (.builtin id))∧s.TypeIs v T∧wpAny (model X.prog X.w) X.A (getItem v (.ref sl)) (EP X pins σ Q) X.xe s
def tSl (r : V→Option Int→Option Int→Hp→VK→Prop) (te : TE) (tl th : TO) : TE := fun σ H Q => te σ H fun x H1 => tl σ H1 fun l H2 => th σ H2 fun u H3 => r x l u H3 Q
theorem aep {r : V→Option Int→Option Int→Hp→VK→Prop} (hr : SlR X r) (he : PE X e te) (hl : PO X lo tl) (hu : PO X hi th) : PE X (.Subscript e (.Slice lo hi none p2) pos) (tSl r te tl th) := by
 intro pins s σ H Q I h
 refine Subscript_ (fY (he pins s σ H _ I h) fun v s1 hz => jW hz fun x H1 I1 r1 q1 => ?_)
 refine wpAny_Slice (fY (hl pins s1 σ H1 _ I1 q1) fun vl s2 hz => jW hz fun l H2 I2 pl q2 => fY (hu pins s2 σ H2 _ I2 q2) fun vu s3 hz => jW hz fun u H3 I3 pu q3 => ?_)
 rw [evalPart_none]
 refine wpAny_pure ?_
 have I4 : Inv X pins σ H3 { s3 with heap := s3.heap.push { cls := .type "slice",data := .fields #[vl,vu,.none] } } := I3.kept (t' := s3.toks) fun b ob q => Heap.get?_push_of_some _ q
 obtain ⟨T,id,hT,ht,hg⟩ := hr pins { s3 with heap := s3.heap.push { cls := .type "slice",data := .fields #[vl,vu,.none] } } σ H3 x v vl vu l u s3.heap.objs.size Q I4 r1 (Heap.IsSliceOf.new ..) pl pu q3
 show wpAny (model X.prog X.w) X.A (subscriptTail e (.Slice lo hi none p2) v (.ref s3.heap.objs.size)) (EP X pins σ Q) X.xe { s3 with heap := s3.heap.push { cls := .type "slice",data := .fields #[vl,vu,.none] } }
 exact tail_any (ops := [.ref s3.heap.objs.size,v]) ht hT hg (by with_unfolding_all rfl)
def YH (xs : List V) (lo hi : Option Int) : List V := (xs.drop (HT.nA xs.length 0 lo)).take (HT.nA xs.length xs.length hi - HT.nA xs.length 0 lo)
theorem QL (xs : List V) (lo hi : Option Int) : (YH xs lo hi).length≤xs.length := by
 unfold YH
 rw [List.length_take,List.length_drop]
 lia
def aw2 (K : PySem.W.Frag) : V→Option Int→Option Int→Hp→VK→Prop := fun x lo hi H Q => ∃ a xs,x = .ref a∧dq K H a xs∧
 ¬ (HT.nA xs.length 0 lo = 0∧HT.nA xs.length xs.length hi = xs.length)∧∀ p,H p = none→Q (.ref p) (upd H p (.tup (YH xs lo hi)))
theorem aqh : SlR X (aw2 X.K) := by
 intro pins s σ H x v vl vu lo hi sl Q I rx hs pl pu h
 obtain ⟨a,xs,rfl,hx,hw,q⟩ := h
 cases rx
 obtain ⟨its,r,ht,hz⟩ := I.tuple hx
 have hlen : its.toArray.size = xs.length := by rw [List.size_toArray]; exact r.length.symm
 refine ⟨"tuple",_,PyProof.Rows.slot_tuple_getitem.lookup,ht.typeIs,?_⟩
 refine HT.J5 ht hs pl pu (by rw [hlen]; exact hw) ?_ (by rw [hlen]; exact hz)
 rw [hlen]
 refine ⟨.ref s.heap.objs.size,_,I.laid (t' := s.toks) (o := .tup (YH xs lo hi)) (fun b ob q => Heap.get?_push_of_some _ q) (Nat.le_refl _) ?_,rfl,q _ (I.hok.fresh (Nat.le_refl _))⟩
 exact ⟨Nat.le_trans (QL xs lo hi) hz,_,(r.drop (HT.nA xs.length 0 lo)).take (HT.nA xs.length xs.length hi - HT.nA xs.length 0 lo),IsTup.new _ _⟩
def atN (K : PySem.W.Frag) : R2 := fun x y H Q => ∃ a b xs ys,x = .ref a∧y = .ref b∧dq K H a xs∧dq K H b ys∧xs≠[]∧xs.length + ys.length≤sizeLine∧
 (ys = []→Q (.ref a) H)∧(ys≠[]→∀ p,H p = none→Q (.ref p) (upd H p (.tup (xs ++ ys))))
theorem Vals.abl {xs : List V} {us : List Value} (r : Vals xs us) : us = []↔xs = [] := by
 cases r with
 | nil => simp
 | cons _ _ => simp
theorem amT : Va X (binaryOp .Add) (atN X.K) := by
 intro pins s σ H x y v u Q I rx ry h
 obtain ⟨a,b,xs,ys,rfl,rfl,ha,hb,hx,hz,q1,q2⟩ := h
 cases rx
 cases ry
 obtain ⟨its,r1,p1,_⟩ := I.tuple ha
 obtain ⟨its2,r2,p2,_⟩ := I.tuple hb
 refine HT.amR p1 p2 (fun z => hx (r1.abl.mp z)) (fun z => ⟨.ref a,H,I,rfl,q1 (r2.abl.mp z)⟩) (fun z => ?_) (by rw [← r1.length,← r2.length]; exact hz)
 refine ⟨.ref s.heap.objs.size,_,I.laid (t' := s.toks) (o := .tup (xs ++ ys)) (fun b ob q => Heap.get?_push_of_some _ q) (Nat.le_refl _) ?_,rfl,q2 (fun w => z (r2.abl.mpr w)) _ (I.hok.fresh (Nat.le_refl _))⟩
 exact ⟨by rw [List.length_append]; exact hz,_,r1.append r2,IsTup.new _ _⟩
end
end L2
namespace L2
open PySem PySem.Spec PyProof.Rows
def ixN (n : Nat) (i : Int) : Option Nat := if 0≤i then (if i < n then some i.toNat else none) else if -(n : Int)≤i then some (i + n).toNat else none
def Ol {α : Type} (xs : List α) (i : Int) : Option α := (ixN xs.length i).bind fun j => xs[j]?
theorem ah6 {n : Nat} {i : Int} {j : Nat} (h : ixN n i = some j) : seqIndex? i n = some j∧j < n∧-(n : Int)≤i∧i < n := by
 unfold ixN at h
 by_cases h0 : 0≤i
 ·rw [if_pos h0] at h
  by_cases h1 : i < n
  ·rw [if_pos h1] at h
   have e : i.toNat = j := Option.some.inj h
   exact ⟨by rw [seqIndex_of h0 h1,e],by lia,by lia,h1⟩
  ·rw [if_neg h1] at h; cases h
 ·rw [if_neg h0] at h
  by_cases h1 : -(n : Int)≤i
  ·rw [if_pos h1] at h
   have e : (i + n).toNat = j := Option.some.inj h
   exact ⟨by rw [seqIndex_neg (by lia) h1,e],by lia,h1,by lia⟩
  ·rw [if_neg h1] at h; cases h
theorem ah7 {α : Type} {xs : List α} {i : Int} {v : α} (h : Ol xs i = some v) : ∃ j,seqIndex? i xs.length = some j∧xs[j]? = some v∧j < xs.length∧-(xs.length : Int)≤i∧i < xs.length := by
 unfold Ol at h
 cases e : ixN xs.length i with
 | none => rw [e] at h; cases h
 | some j =>
   rw [e] at h
   obtain ⟨h1,h2,h3,h4⟩ := ah6 e
   exact ⟨j,h1,h,h2,h3,h4⟩
theorem Gj {α : Type} {xs : List α} {j : Nat} {v : α} (h : xs[j]? = some v) : Ol xs (j : Int) = some v := by
 have hj : j < xs.length := (List.getElem?_eq_some_iff.mp h).1
 have e : ixN xs.length (j : Int) = some j := by
  unfold ixN
  rw [if_pos (by lia),if_pos (by lia)]; simp
 unfold Ol; rw [e]; exact h
def amV (b : Expr) : Prop := ∀ o i,subscripted b false o i = operate [o,i] (getItem o i)
def IxR (X : Cx) (r : R2) : Prop :=
 ∀ (value slice : Expr) (pins : List (Addr×Obj)) (s : Shared) (σ : St) (H : Hp) (x y : V) (v u : Value) (Q : VK),Inv X pins σ H s→RelV x v→RelV y u→r x y H Q→
  subscripted slice false v u = operate [v,u] (getItem v u)→wpAny (model X.prog X.w) X.A (subscriptTail value slice v u) (EP X pins σ Q) X.xe s
def MtR (X : Cx) (id : String) (r : V→List V→Hp→VK→Prop) : Prop :=
 ∀ (pins : List (Addr×Obj)) (s : Shared) (σ : St) (H : Hp) (x : V) (xs : List V) (v : Value) (us : List Value) (Q : VK),Inv X pins σ H s→RelV x v→Vals xs us→r x xs H Q→
  wpAny (model X.prog X.w) X.A (call (.builtin id) (v :: us)) (EP X pins σ Q) X.xe s
section
variable {X : Cx} {a b : Expr} {ta tb : TE} {pos : Pos}
theorem aL {r : R2} (hr : IxR X r) (ha : PE X a ta) (hb : PE X b tb) (hs : amV b) : PE X (.Subscript a b pos) (Vk r ta tb) := by
 intro pins s σ H Q I h
 exact Subscript_ (aqa ha hb I h fun v u s2 x y H2 I2 rx ry q => hr a b pins s2 σ H2 x y v u Q I2 rx ry q (hs _ _))
def ajc (K : PySem.W.Frag) : R2 := fun x y H Q => ∃ p xs i v,x = .ref p∧y = .int i∧cz K H p xs∧Ol xs i = some v∧Q v H
def agJ (K : PySem.W.Frag) : R2 := fun x y H Q => ∃ p xs i v,x = .ref p∧y = .int i∧dq K H p xs∧Ol xs i = some v∧Q v H
theorem bA : IxR X (ajc X.K) := by
 intro value slice pins s σ H x y v u Q I rx ry h hs
 obtain ⟨p,xs,i,z,rfl,rfl,hq,he,q⟩ := h
 cases rx
 obtain ⟨t,rfl⟩ := ry
 obtain ⟨its,r,pl,hz⟩ := I.list hq
 obtain ⟨j,h1,h2,h3,h4,h5⟩ := ah7 he
 obtain ⟨w,ew,rw'⟩ := r.get h2
 have hl := r.length
 have hn := Vn
 have fin : EP X pins σ Q w s := ⟨z,H,I,rw',q⟩
 by_cases h0 : 0≤i
 ·have hj : i.toNat = j := by
   rw [seqIndex_of h0 h5] at h1
   exact Option.some.inj h1
  exact item_listR pl.isList h0 (by lia) (by rw [hj]; simpa using ew) fin hs
 ·have hj : (i + (its.toArray.size : Int)).toNat = j := by
   rw [seqIndex_neg (by lia) h4] at h1
   rw [List.size_toArray,← hl]
   exact Option.some.inj h1
  exact subscriptTail_builtinR (x := w) pl.isList.typeIs slot_list_getitem.lookup
   (wpAny_getItem_list_neg (Q := fun r s' => r = w∧EP X pins σ Q r s') pl.isList (by lia) (by rw [List.size_toArray] <;> lia) (by lia) (by rw [hj]; simpa using ew) ⟨rfl,fin⟩) hs
theorem bw : IxR X (agJ X.K) := by
 intro value slice pins s σ H x y v u Q I rx ry h hs
 obtain ⟨p,xs,i,z,rfl,rfl,hq,he,q⟩ := h
 cases rx
 obtain ⟨t,rfl⟩ := ry
 obtain ⟨its,r,pl,hz⟩ := I.tuple hq
 obtain ⟨j,h1,h2,h3,h4,h5⟩ := ah7 he
 obtain ⟨w,ew,rw'⟩ := r.get h2
 have hl := r.length
 have hn := Vn
 have fin : EP X pins σ Q w s := ⟨z,H,I,rw',q⟩
 exact subscriptTail_builtinR (x := w) pl.typeIs slot_tuple_getitem.lookup
  (getItem_tuple (j := j) (Q := fun r s' => r = w∧EP X pins σ Q r s') pl (by lia) (by lia) (by rw [List.size_toArray,← hl]; exact h1) (by simpa using ew) ⟨rfl,fin⟩) hs
theorem agK (its : List Value) (n j : Nat) (u : Value) : Obj.mapSeq (·.setIfInBounds j u) { cls := .type "list",data := .seq its.toArray n } = { cls := .type "list",data := .seq (its.set j u).toArray n } := by
 simp [Obj.mapSeq]
theorem Inv.lst {pins : List (Addr×Obj)} {σ : St} {H : Hp} {s : Shared} {p : Addr} {xs : List V} (I : Inv X pins σ H s) (h : H p = some (.lst xs)) :
 ∃ (its : List Value) (n : Nat),Vals xs its∧s.heap.get? p = some { cls := .type "list",data := .seq its.toArray n }∧xs.length≤sizeLine := by
 obtain ⟨z,its,n,r,e⟩ := I.hok p _ h
 exact ⟨its,n,r,e,z⟩
theorem Inv.aqi {pins : List (Addr×Obj)} {σ : St} {H : Hp} {s : Shared} {p : Addr} {xs ys : List V} {its its' : List Value} {n n' : Nat} {f : Obj→Obj} (I : Inv X pins σ H s) (h : H p = some (.lst xs))
 (ho : s.heap.get? p = some { cls := .type "list",data := .seq its.toArray n }) (hf : f { cls := .type "list",data := .seq its.toArray n } = { cls := .type "list",data := .seq its'.toArray n' }) (r : Vals ys its') (hz : ys.length≤sizeLine) (t : Nat) :
 Inv X pins σ (upd H p (.lst ys)) { s with heap := s.heap.update p f,toks := t } := by
 have e : (s.heap.update p f).get? p = some { cls := .type "list",data := .seq its'.toArray n' } := by
  rw [Heap.get?_update_self f ho (by rw [hf] <;> rfl),hf]
 refine I.write (x := p) (e := p) (by rw [h]; trivial) (.inl rfl) (fun b u hb q => (Heap.get?_update_other _ _ (Ne.symm hb)).trans q) ⟨_,e⟩ ?_
 exact ⟨hz,its',n',r,e⟩
def apo : V→V→V→Hp→(Hp→Prop)→Prop := fun o i v H Q => ∃ p xs k j,o = .ref p∧i = .int k∧H p = some (.lst xs)∧ixN xs.length k = some j∧Q (upd H p (.lst (xs.set j v)))
theorem set_list : atx X apo := by
 intro pins s σ H o i v ov iv u Q I ro ri rv h
 obtain ⟨p,xs,k,j,rfl,rfl,hp,hj,q⟩ := h
 cases ro
 obtain ⟨t,rfl⟩ := ri
 obtain ⟨its,n,r,ho,hz⟩ := I.lst hp
 obtain ⟨h1,h2,h3,h4⟩ := ah6 hj
 have hl := r.length
 have hn := Vn
 have I' : Inv X pins σ (upd H p (.lst (xs.set j v))) { s with heap := s.heap.update p (Obj.mapSeq (·.setIfInBounds j u)) } :=
  I.aqi hp ho (agK its n j u) (r.set rv j) (by rw [List.length_set]; exact hz) s.toks
 by_cases h0 : 0≤k
 ·have hk : k.toNat = j := by
   rw [seqIndex_of h0 h4] at h1
   exact Option.some.inj h1
  exact PySem.W.ki_setAt ho h0 (by lia) (by rw [List.size_toArray,← hl]; exact h4) (by rw [hk]; exact ⟨_,I',q⟩)
 ·have hk : (k + (its.toArray.size : Int)).toNat = j := by
   rw [seqIndex_neg (by lia) h3] at h1
   rw [List.size_toArray,← hl]
   exact Option.some.inj h1
  exact PySem.W.ki_setBack ho (by lia) (by rw [List.size_toArray,← hl]; exact h3) (by lia) (by rw [hk]; exact ⟨_,I',q⟩)
theorem abm (lo hi : Option Int) (n : Nat) : (sliceBounds lo hi none n).1 = ((HT.nA n 0 lo : Nat) : Int)∧(sliceBounds lo hi none n).2.1 = ((HT.nA n n hi : Nat) : Int)∧(sliceBounds lo hi none n).2.2 = 1 := by
 refine ⟨?_,?_,rfl⟩
 ·cases lo with
  | none => simp [sliceBounds,HT.nA]
  | some i =>
    simp only [sliceBounds,HT.nA,Option.getD_none,show (1 : Int) > 0 by decide,if_true]
    by_cases h : i < 0
    ·simp only [h,if_true] <;> lia
    ·simp only [h,if_false] <;> lia
 ·cases hi with
  | none => simp [sliceBounds,HT.nA]
  | some i =>
    simp only [sliceBounds,HT.nA,Option.getD_none,show (1 : Int) > 0 by decide,if_true]
    by_cases h : i < 0
    ·simp only [h,if_true] <;> lia
    ·simp only [h,if_false] <;> lia
theorem YJ (its : List Value) (lo hi : Option Int) : slicePick its.toArray lo hi none = ((its.drop (HT.nA its.length 0 lo)).take (HT.nA its.length its.length hi - HT.nA its.length 0 lo)).toArray := by
 obtain ⟨h1,h2,h3⟩ := abm lo hi its.toArray.size
 unfold slicePick
 rw [h1,h2,h3]
 simp only [sliceRange_one,pick_run,List.size_toArray] <;> rfl
def aw3 (K : PySem.W.Frag) : V→Option Int→Option Int→Hp→VK→Prop := fun x lo hi H Q => ∃ a xs,x = .ref a∧cz K H a xs∧∀ p,H p = none→Q (.ref p) (upd H p (.lst (YH xs lo hi)))
theorem amW : SlR X (aw3 X.K) := by
 intro pins s σ H x v vl vu lo hi sl Q I rx hs pl pu h
 obtain ⟨a,xs,rfl,hx,q⟩ := h
 cases rx
 obtain ⟨its,r,ht,hz⟩ := I.list hx
 have hlen := r.length
 refine ⟨"list",_,slot_list_getitem.lookup,ht.isList.typeIs,?_⟩
 refine wpAny_getItem_list_slice ht.isList hs pl pu .none (by simp) ?_ (by rw [List.size_toArray] <;> lia)
 rw [YJ,← hlen]
 refine ⟨.ref s.heap.objs.size,_,I.laid (t' := s.toks) (o := .lst (YH xs lo hi)) (fun b ob q => Heap.get?_push_of_some _ q) (Nat.le_refl _) ?_,rfl,q _ (I.hok.fresh (Nat.le_refl _))⟩
 exact ⟨Nat.le_trans (QL xs lo hi) hz,_,0,(r.drop (HT.nA xs.length 0 lo)).take (HT.nA xs.length xs.length hi - HT.nA xs.length 0 lo),Heap.get?_push_size _ rfl⟩
def GC : V→Bool
 | .non => true
 | .bl _ => true
 | .int _ => true
 | .str _ => true
 | _ => false
def eqV : V→V→Bool
 | .non,.non => true
 | .bl a,.bl b => a == b
 | .bl a,.int b => (if a then 1 else 0) == b
 | .int a,.bl b => a == (if b then 1 else 0)
 | .int a,.int b => a == b
 | .str a,.str b => a == b
 | _,_ => false
theorem aqj {A : Around} {s : Shared} {y x : V} {u v : Value} (ry : RelV y u) (rx : RelV x v) (fy : GC y = true) (fx : GC x = true) : SeqAt.EqAt A s u v (eqV y x) := by
 cases y with
 | non =>
   cases ry
   cases x with
   | non => cases rx; exact SeqAt.EqAt.same _
   | bl b => cases rx; exact SeqAt.EqAt.none_bool b
   | int b => obtain ⟨t,rfl⟩ := rx; exact SeqAt.EqAt.none_int b t
   | str b => obtain ⟨t,rfl⟩ := rx; exact SeqAt.EqAt.none_str b t
   | _ => exact absurd (show false = true from fx) Bool.false_ne_true
 | bl a =>
   cases ry
   cases x with
   | non => cases rx; exact SeqAt.EqAt.bool_none a
   | bl b => cases rx; exact SeqAt.EqAt.bool_bool a b
   | int b => obtain ⟨t,rfl⟩ := rx; exact SeqAt.EqAt.bool_int a b t
   | str b => obtain ⟨t,rfl⟩ := rx; exact SeqAt.EqAt.bool_str a b t
   | _ => exact absurd (show false = true from fx) Bool.false_ne_true
 | int a =>
   obtain ⟨t',rfl⟩ := ry
   cases x with
   | non => cases rx; exact SeqAt.EqAt.int_none a t'
   | bl b => cases rx; exact SeqAt.EqAt.int_bool a t' b
   | int b => obtain ⟨t,rfl⟩ := rx; exact SeqAt.EqAt.int_int a t' b t
   | str b => obtain ⟨t,rfl⟩ := rx; exact SeqAt.EqAt.int_str a t' b t
   | _ => exact absurd (show false = true from fx) Bool.false_ne_true
 | str a =>
   obtain ⟨t',rfl⟩ := ry
   cases x with
   | non => cases rx; exact SeqAt.EqAt.str_none a t'
   | bl b => cases rx; exact SeqAt.EqAt.str_bool a t' b
   | int b => obtain ⟨t,rfl⟩ := rx; exact SeqAt.EqAt.str_int a t' b t
   | str b => obtain ⟨t,rfl⟩ := rx; exact SeqAt.EqAt.str_str a t' b t
   | _ => exact absurd (show false = true from fx) Bool.false_ne_true
 | _ => exact absurd (show false = true from fy) Bool.false_ne_true
def eqU (x : V) (u : Value) : Bool := match u with
 | .none => eqV .non x
 | .bool b => eqV (.bl b) x
 | .int i _ => eqV (.int i) x
 | .str z _ => eqV (.str z) x
 | _ => false
theorem akr {x y : V} {u : Value} (r : RelV y u) (f : GC y = true) : eqU x u = eqV y x := by
 cases y with
 | non => cases r; rfl
 | bl b => cases r; rfl
 | int i => obtain ⟨t,rfl⟩ := r; rfl
 | str z => obtain ⟨t,rfl⟩ := r; rfl
 | _ => exact absurd (show false = true from f) Bool.false_ne_true
theorem abn {x : V} : ∀ {xs : List V} {us : List Value},Vals xs us→xs.all GC = true→us.any (eqU x) = xs.any fun y => eqV y x
 | _,_,.nil,_ => rfl
 | y :: xs,u :: us,.cons r t,f => by
   rw [List.all_cons,Bool.and_eq_true] at f
   rw [List.any_cons,List.any_cons,akr r f.1,abn t f.2]
theorem Vs {A : Around} {s : Shared} {x : V} {v : Value} (rx : RelV x v) (fx : GC x = true) : ∀ {xs : List V} {us : List Value},Vals xs us→xs.all GC = true→∀ u∈us,SeqAt.EqAt A s u v (eqU x u)
 | _,_,.nil,_ => fun u hu => by cases hu
 | y :: xs,u :: us,.cons r t,f => fun u' hu => by
   rw [List.all_cons,Bool.and_eq_true] at f
   rcases List.mem_cons.mp hu with rfl | hu
   ·rw [akr r f.1]; exact aqj r rx f.1 fx
   ·exact Vs rx fx t f.2 u' hu
def inV (x : V) (xs : List V) : Bool := xs.any fun y => eqV y x
def rIn (K : PySem.W.Frag) (neg : Bool) : R2 := fun x y H Q => ∃ p xs,y = .ref p∧(cz K H p xs∨dq K H p xs)∧GC x = true∧xs.all GC = true∧Q (.bl (if neg then !inV x xs else inV x xs)) H
theorem J6 : Va X (compareOp .NotIn) (rIn X.K true) := by
 intro pins s σ H x y v u Q I rx ry h
 obtain ⟨p,xs,rfl,hq,fx,fs,q⟩ := h
 cases ry
 rcases hq with hq | hq
 ·obtain ⟨its,r,pl,hz⟩ := I.list hq
  refine SeqAt.notIn_listAt (eqU x) pl.isList (fun w hw => Vs rx fx r fs w (by simpa using hw)) ⟨.bl _,H,I,rfl,?_⟩
  rw [show its.toArray.any (eqU x) = its.any (eqU x) by simp,abn r fs]
  exact q
 ·obtain ⟨its,r,pl,hz⟩ := I.tuple hq
  refine SeqAt.notIn_tupleAt (eqU x) pl (fun w hw => Vs rx fx r fs w (by simpa using hw)) ⟨.bl _,H,I,rfl,?_⟩
  rw [show its.toArray.any (eqU x) = its.any (eqU x) by simp,abn r fs]
  exact q
theorem dO : QH X (.builtin "len") (fun xs H Q => ∃ p ys,xs = [.ref p]∧(cz X.K H p ys∨dq X.K H p ys)∧Q (.int ys.length) H) := by
 intro pins s σ H xs us Q I r h
 obtain ⟨p,ys,rfl,hq,q⟩ := h
 obtain ⟨u,rfl,rx⟩ := vals1 r
 cases rx
 have hn := Vn
 rcases hq with hq | hq
 ·obtain ⟨its,r',pl,hz⟩ := I.list hq
  have hlen := r'.length
  exact Calls.call_len_list pl.isList (by simp only [List.size_toArray] <;> lia) ⟨.int ys.length,H,I.tok _,⟨s.toks + 1,by rw [List.size_toArray,hlen]⟩,q⟩
 ·obtain ⟨its,r',pl,hz⟩ := I.tuple hq
  have hlen := r'.length
  exact len_tuple pl (by simp only [List.size_toArray] <;> lia) ⟨.int ys.length,H,I.tok _,⟨s.toks + 1,by rw [List.size_toArray,hlen]⟩,q⟩
theorem yw : QH X (.type "list") (fun xs H Q => ∃ p ys,xs = [.ref p]∧(cz X.K H p ys∨dq X.K H p ys)∧∀ l,H l = none→Q (.ref l) (upd H l (.lst ys))) := by
 intro pins s σ H xs us Q I r h
 obtain ⟨p,ys,rfl,hq,q⟩ := h
 obtain ⟨u,rfl,rx⟩ := vals1 r
 cases rx
 have fin : ∀ (its : List Value),Vals ys its→ys.length≤sizeLine→∀ (h' : Heap) (c' : Nat),(∀ b o',s.heap.get? b = some o'→h'.get? b = some o')→
  h'.get? s.heap.objs.size = some { cls := .type "list",dict := none,data := .seq its.toArray c',slots := #[] }→EP X pins σ Q (.ref s.heap.objs.size) { s with heap := h' } := fun its r' hz h' c' kp e =>
  ⟨.ref s.heap.objs.size,_,I.laid (t' := s.toks) kp (Nat.le_refl _) (show fH X.prog X.w _ h' _ (.lst ys) from ⟨hz,its,c',r',e⟩),rfl,q _ (I.hok.fresh (Nat.le_refl _))⟩
 rcases hq with hq | hq
 ·obtain ⟨its,r',pl,hz⟩ := I.list hq
  have hlen := r'.length
  obtain ⟨o,ho,hc,n,hd⟩ := pl.isList
  exact call_list_seq p (.inl rfl) ho hc hd (fun h' c' kp e => fin its r' hz h' c' kp e) (by simp only [List.size_toArray] <;> lia)
 ·obtain ⟨its,r',pl,hz⟩ := I.tuple hq
  have hlen := r'.length
  obtain ⟨o,ho,hc,n,hd⟩ := pl
  exact call_list_seq p (.inr rfl) ho hc hd (fun h' c' kp e => fin its r' hz h' c' kp e) (by simp only [List.size_toArray] <;> lia)
def tyV (K : PySem.W.Frag) (T : String) (x : V) (H : Hp) : Prop := match x with
 | .str _ => T = "str"
 | .int _ => T = "int"
 | .ref p => (T = "list"∧∃ xs,cz K H p xs)∨(T = "tuple"∧∃ o,K.lookup p = some o∧o.cls = .type "tuple"∧o.dict = none)∨
    (T = "dict"∧((∃ kvs,H p = some (.dK kvs))∨∃ kvs,H p = some (.dT kvs)))∨(T = "set"∧∃ S n,H p = some (.set S n))
 | _ => False
theorem aks {pins : List (Addr×Obj)} {σ : St} {H : Hp} {s : Shared} {T : String} {x : V} {v : Value} (I : Inv X pins σ H s) (r : RelV x v) (ty : tyV X.K T x H) :
 s.TypeIs v T∧∀ a,v = .ref a→∃ ob,s.heap.get? a = some ob∧ob.dict = none := by
 cases x with
 | str z =>
   obtain ⟨t,rfl⟩ := r
   cases (show T = "str" from ty)
   exact ⟨typeIs_str s z t,fun _ e => nomatch e⟩
 | int i =>
   obtain ⟨t,rfl⟩ := r
   cases (show T = "int" from ty)
   exact ⟨typeIs_int s i t,fun _ e => nomatch e⟩
 | ref p =>
   cases r
   rcases ty with ⟨rfl,xs,hq⟩ | ⟨rfl,o,hk,hc,hd⟩ | ⟨rfl,hk⟩ | ⟨rfl,S,n,hk⟩
   ·obtain ⟨its,_,pl,_⟩ := I.list hq
    refine ⟨pl.isList.typeIs,fun a e => ?_⟩
    cases e
    obtain ⟨o,n,e,c,hd,_⟩ := pl
    exact ⟨o,e,hd⟩
   ·refine ⟨⟨o,I.wF p o hk,hc⟩,fun a e => ?_⟩
    cases e
    exact ⟨o,I.wF _ o hk,hd⟩
   ·have z : ∃ o,s.heap.get? p = some o∧o.ExactDict := by
     rcases hk with ⟨kvs,hk⟩ | ⟨kvs,hk⟩
     ·obtain ⟨_,_,_,_,o,_,_,e,ex,_⟩ := I.hok p _ hk
      exact ⟨o,e,ex⟩
     ·obtain ⟨_,_,_,_,o,_,_,e,ex,_⟩ := I.hok p _ hk
      exact ⟨o,e,ex⟩
    obtain ⟨o,e,ex⟩ := z
    refine ⟨⟨o,e,ex.1⟩,fun a e2 => ?_⟩
    cases e2
    exact ⟨o,e,ex.2.1⟩
   ·obtain ⟨o,_,_,_,e,ex,_⟩ := I.hok p _ hk
    refine ⟨⟨o,e,ex.1⟩,fun a e2 => ?_⟩
    cases e2
    exact ⟨o,e,ex.2.1⟩
 | _ => exact False.elim ty
def aw6 (K : PySem.W.Frag) (T : String) (r : V→List V→Hp→VK→Prop) (to : TE) : TE := fun σ H Q => to σ H fun x H1 => tyV K T x H1∧r x [] H1 Q
def tBM (K : PySem.W.Frag) (T : String) (r : V→List V→Hp→VK→Prop) (to : TE) (t : TA) : TE := fun σ H Q => to σ H fun x H1 => tyV K T x H1∧t σ H1 fun xs H2 => r x xs H2 Q
variable {o e : Expr} {es : List Expr} {to : TE} {t : TA} {name : Str} {apos cpos : Pos} {T id : String} {r : V→List V→Hp→VK→Prop}
theorem akt (pa : PlainAttrs T) (slot : Slot T name id) (hty : typeOf (.builtin id) = pure (.type "method_descriptor")) (hm : MtR X id r) (ho : PE X o to)
 (hbase : attributeBase o name X.env (eval o X.env) = eval o X.env := by rfl) (hline : (apos.endLine == cpos.line) = true := by rfl) : PE X (.Call (.Attribute o name apos) [] [] cpos) (aw6 X.K T r to) := by
 intro pins s σ H Q I h
 refine wpAny_Call_method0_late hbase hline (fY (ho pins s σ H _ I h) fun v s1 hz => jW hz fun x H1 I1 r1 ⟨ty,q1⟩ => ?_)
 obtain ⟨h1,h2⟩ := aks I1 r1 ty
 exact ⟨T,id,pa,slot,hty,h1,h2,Calls.callWith_builtin rfl (PySem.evalArgs_none (hm pins s1 σ H1 x [] v [] Q I1 r1 .nil q1))⟩
theorem eX (pa : PlainAttrs T) (slot : Slot T name id) (hty : typeOf (.builtin id) = pure (.type "method_descriptor")) (hm : MtR X id r) (ho : PE X o to) (ha : PA X (e :: es) t)
 (hbase : attributeBase o name X.env (eval o X.env) = eval o X.env := by rfl)
 (hfew : ((backTo cpos (starEach (e :: es) X.env)).all (fun x => !x.1) && (backToKw cpos (keywordEach [] X.env)).all (fun x => x.1.isSome)
   && decide ((e :: es).length + ([] : List Keyword).length + (if ([] : List Keyword).isEmpty then 0 else 1) < 30)) = true := by rfl)
 (hline : (apos.endLine == cpos.line) = true := by rfl) (hs : starEach (e :: es) X.env = (false,eval e X.env) :: starEach es X.env := by rfl) (hplain : (backTo cpos (starEach es X.env)).any (·.1) = false := by rfl) :
 PE X (.Call (.Attribute o name apos) (e :: es) [] cpos) (tBM X.K T r to t) := by
 intro pins s σ H Q I h
 refine wpAny_Call_method_late hbase hfew hline rfl (fY (ho pins s σ H _ I h) fun v s1 hz => jW hz fun x H1 I1 r1 ⟨ty,q1⟩ => ?_)
 obtain ⟨h1,h2⟩ := aks I1 r1 ty
 refine ⟨T,id,pa,slot,hty,h1,h2,?_⟩
 have hA := ha cpos pins s1 σ H1 _ I1 q1
 rw [hs] at hA ⊢
 refine Calls.callWith_builtin (by show (false || (backTo cpos (starEach es X.env)).any (·.1)) = false; rw [hplain] <;> rfl) (Calls.evalArgs_plain ?_)
 exact fY hA fun us s2 hz => jW hz fun vs H2 I2 r2 q2 => hm pins s2 σ H2 x vs v us Q I2 r1 r2 q2
end
end L2
namespace L2
open PySem PySem.Spec PyProof.Rows
def MtM (X : Cx) (id : String) (r : V→List V→Hp→VK→Prop) : Prop :=
 ∀ (pins : List (Addr×Obj)) (s : Shared) (σ : St) (H : Hp) (x : V) (xs : List V) (v : Value) (us : List Value) (Q : VK),Inv X pins σ H s→RelV x v→Vals xs us→r x xs H Q→
  wpAny (model X.prog X.w) X.A (call (.builtin id) (v :: us)) (EP X pins σ Q) X.xe s
theorem Vals.one : ∀ {x : V} {us : List Value},Vals [x] us→∃ u,us = [u]∧RelV x u := by
 intro x us h
 cases h with
 | cons r t => cases t; exact ⟨_,rfl,r⟩
theorem Vals.two : ∀ {x y : V} {us : List Value},Vals [x,y] us→∃ u v,us = [u,v]∧RelV x u∧RelV y v := by
 intro x y us h
 cases h with
 | cons r t =>
   cases t with
   | cons q t => cases t; exact ⟨_,_,rfl,r,q⟩
theorem Vals.zero : ∀ {us : List Value},Vals [] us→us = []
 | _,.nil => rfl
theorem Vals.dropLast {xs : List V} {us : List Value} (h : Vals xs us) : Vals xs.dropLast us.dropLast := by
 induction h with
 | nil => exact .nil
 | cons r t ih =>
   cases t with
   | nil => exact .nil
   | cons q t' => exact .cons r ih
theorem Vals.eraseIdx : ∀ {xs : List V} {us : List Value} (i : Nat),Vals xs us→Vals (xs.eraseIdx i) (us.eraseIdx i)
 | _,_,_,.nil => .nil
 | _,_,0,.cons _ t => t
 | _,_,i + 1,.cons r t => .cons r (Vals.eraseIdx i t)
theorem Vals.rep {xs : List V} {us : List Value} (h : Vals xs us) : ∀ k : Nat,Vals (List.replicate k xs).flatten (List.replicate k us).flatten
 | 0 => .nil
 | k + 1 => by
   rw [List.replicate_succ,List.replicate_succ,List.flatten_cons,List.flatten_cons]
   exact Vals.append h (Vals.rep h k)
theorem agL {α : Type} (l : List α) : l.eraseIdx (l.length - 1) = l.dropLast := by
 induction l with
 | nil => rfl
 | cons a r ih =>
   cases r with
   | nil => rfl
   | cons b r =>
     have e : (a :: b :: r).length - 1 = ((b :: r).length - 1) + 1 := by
      have h1 : (a :: b :: r).length = r.length + 2 := rfl
      have h2 : (b :: r).length = r.length + 1 := rfl
      lia
     rw [e,List.eraseIdx_cons_succ,ih]
     all_goals rfl
theorem aaB {α : Type} : ∀ (l : List α) (i : Nat),(l.eraseIdx i).length≤l.length
 | [],_ => Nat.le_refl _
 | _ :: _,0 => Nat.le_succ _
 | _ :: r,i + 1 => Nat.succ_le_succ (aaB r i)
theorem foldl_rep (its : List Value) : ∀ (k : Nat) (acc : List Value),
 List.foldl (fun x1 x2 => x1 ++ x2) acc.toArray (List.replicate k its.toArray) = (acc ++ (List.replicate k its).flatten).toArray
 | 0,acc => by simp
 | k + 1,acc => by
   have e : acc.toArray ++ its.toArray = (acc ++ its).toArray := by simp
   have e2 : (acc ++ its) ++ (List.replicate k its).flatten = acc ++ (List.replicate (k + 1) its).flatten := by
    rw [List.replicate_succ,List.flatten_cons,List.append_assoc]
   rw [← e2,← foldl_rep its k (acc ++ its),← e,List.replicate_succ,List.foldl_cons]
section
variable {X : Cx} {pins : List (Addr×Obj)} {σ : St} {H : Hp} {s : Shared} {l b : Addr} {xs ys zs : List V}
theorem Inv.aku {its its' : List Value} {n : Nat} {f : Array Value→Array Value} {t' : Nat} (I : Inv X pins σ H s) (hH : H l = some (.lst xs))
 (e : s.heap.get? l = some { cls := .type "list",data := .seq its.toArray n }) (hf : f its.toArray = its'.toArray) (hv : Vals ys its') (hz : ys.length≤sizeLine) :
 Inv X pins σ (upd H l (.lst ys)) { s with heap := s.heap.update l (Obj.mapSeq f),toks := t' } := by
 have q := PySem.IsL.update e f
 rw [hf] at q
 refine I.write (x := l) (e := l) (by rw [hH]; exact trivial) (.inl rfl) (fun b' u hb hu => (Heap.get?_update_other s.heap (Obj.mapSeq f) (Ne.symm hb)).trans hu) ⟨_,q⟩ ?_
 exact ⟨hz,its',_,hv,q⟩
theorem Inv.aqk {its : List Value} {t' : Nat} (I : Inv X pins σ H s) (hv : Vals ys its) (hz : ys.length≤sizeLine) :
 Inv X pins σ (upd H s.heap.objs.size (.lst ys)) { s with heap := s.heap.push { cls := .type "list",data := .seq its.toArray },toks := t' } :=
 I.laid (fun _ _ q => Heap.get?_push_of_some _ q) (Nat.le_refl _) ⟨hz,its,0,hv,Heap.get?_push_size _ rfl⟩
theorem Inv.fresh (I : Inv X pins σ H s) : H s.heap.objs.size = none := I.hok.fresh (Nat.le_refl _)
theorem Inv.agM (I : Inv X pins σ H s) (hH : H l = some (.lst xs)) : xs.length≤sizeLine∧∃ (its : List Value) (n : Nat),Vals xs its∧xs.length = its.length∧s.heap.get? l = some { cls := .type "list",data := .seq its.toArray n } := by
 obtain ⟨z,its,n,r,e⟩ := I.hok l _ hH
 exact ⟨z,its,n,r,r.length,e⟩
theorem aer {n : Nat} (h : n≤sizeLine) : Builtin.List.listTooLong n = false := by
 unfold Builtin.List.listTooLong
 exact decide_eq_false (by lia)
end
section
variable {X : Cx}
def J7 : V→List V→Hp→VK→Prop := fun x vs H Q => ∃ l xs y,x = .ref l∧vs = [y]∧H l = some (.lst xs)∧xs.length < sizeLine∧Q .non (upd H l (.lst (xs ++ [y])))
theorem cD : MtM X "list.append" J7 := by
 intro pins s σ H x vs v us Q I rx rv h
 obtain ⟨l,xs,y,rfl,rfl,hH,hz,q⟩ := h
 cases rx
 obtain ⟨u,rfl,ru⟩ := rv.one
 obtain ⟨z,its,n,r,hl,e⟩ := I.agM hH
 refine call_meets F.slot_list_append ⟨_,e,rfl⟩ F.entry_list_append (F.args_list_append_2 _ _) (PySem.list_append l its.toArray n u (by rw [List.size_toArray]; lia)) ⟨e,?_⟩
 refine ⟨.non,_,I.aku (its' := its ++ [u]) hH e (by simp) (r.append (.cons ru .nil)) ?_,rfl,q⟩
 rw [List.length_append,List.length_singleton]
 lia
def aw7 : V→List V→Hp→VK→Prop := fun x vs H Q => ∃ l xs y,x = .ref l∧vs = []∧H l = some (.lst xs)∧xs[xs.length - 1]? = some y∧Q y (upd H l (.lst xs.dropLast))
theorem akv : MtM X "list.pop" aw7 := by
 intro pins s σ H x vs v us Q I rx rv h
 obtain ⟨l,xs,y,rfl,rfl,hH,hy,q⟩ := h
 cases rx
 have hus := rv.zero
 subst hus
 obtain ⟨z,its,n,r,hl,e⟩ := I.agM hH
 obtain ⟨u,hu,ru⟩ := r.get hy
 have hy' : its.toArray[its.toArray.size - 1]? = some u := by
  show its.toArray[its.length - 1]? = some u
  rw [← Array.getElem?_toList,← hl]
  exact hu
 refine call_meets F.slot_list_pop ⟨_,e,rfl⟩ F.entry_list_pop (F.args_list_pop_1 _) (MeetsSeq.list_pop_last l its.toArray n u hy' (by rw [List.size_toArray]; lia)) ⟨e,?_⟩
 refine ⟨y,_,I.aku (its' := its.dropLast) hH e ?_ r.dropLast ?_,ru,q⟩
 ·show its.toArray.eraseIdxIfInBounds (its.toArray.size - 1) = its.dropLast.toArray
  rw [List.size_toArray,List.eraseIdxIfInBounds_toArray,agL]
 ·rw [List.length_dropLast]
  lia
def aql : V→List V→Hp→VK→Prop := fun x vs H Q => ∃ l xs i k y,x = .ref l∧vs = [.int i]∧H l = some (.lst xs)∧-(2 ^ 63)≤i∧i < 2 ^ 63∧seqIndex? i xs.length = some k∧xs[k]? = some y∧Q y (upd H l (.lst (xs.eraseIdx k)))
theorem De : MtM X "list.pop" aql := by
 intro pins s σ H x vs v us Q I rx rv h
 obtain ⟨l,xs,i,k,y,rfl,rfl,hH,h1,h2,hk,hy,q⟩ := h
 cases rx
 obtain ⟨u,rfl,ru⟩ := rv.one
 obtain ⟨t,rfl⟩ := ru
 obtain ⟨z,its,n,r,hl,e⟩ := I.agM hH
 obtain ⟨w,hw,rw'⟩ := r.get hy
 refine call_meets F.slot_list_pop ⟨_,e,rfl⟩ F.entry_list_pop (F.args_list_pop_2 _ _)
  (MeetsSeq.list_pop_at l its.toArray n i t k w (fitsIndex_both h1 h2) (by rw [List.size_toArray,← hl]; exact hk) (by rw [← Array.getElem?_toList]; exact hw) (by rw [List.size_toArray]; lia)) ⟨e,?_⟩
 refine ⟨y,_,I.aku (its' := its.eraseIdx k) hH e ?_ (r.eraseIdx k) ?_,rw',q⟩
 ·show its.toArray.eraseIdxIfInBounds k = (its.eraseIdx k).toArray
  rw [List.eraseIdxIfInBounds_toArray]
 ·have := aaB xs k
  lia
def aqm : R2 := fun x y H Q => ∃ l b xs zs,x = .ref l∧y = .ref b∧H l = some (.lst xs)∧H b = some (.lst zs)∧xs.length + zs.length≤sizeLine∧∀ p,H p = none→Q (.ref p) (upd H p (.lst (xs ++ zs)))
theorem lU : Va X (binaryOp .Add) aqm := by
 intro pins s σ H x y v u Q I rx ry h
 obtain ⟨l,b,xs,zs,rfl,rfl,hH,hB,hz,q⟩ := h
 cases rx
 cases ry
 obtain ⟨z,its,n,r,hl,e⟩ := I.agM hH
 obtain ⟨z2,its2,n2,r2,hl2,e2⟩ := I.agM hB
 refine PySem.P.add_list e e2 ?_ (by rw [List.size_toArray,List.size_toArray]; lia)
 have ea : its.toArray ++ its2.toArray = (its ++ its2).toArray := by simp
 rw [ea]
 exact ⟨.ref _,_,I.aqk (t' := s.toks) (r.append r2) (by rw [List.length_append]; lia),rfl,q _ I.fresh⟩
def aw8 : R2 := fun x y H Q => ∃ l k xs,x = .ref l∧y = .int k∧H l = some (.lst xs)∧-(2 ^ 63)≤k∧k < 2 ^ 63∧xs.length * k.toNat≤sizeLine∧
 ∀ p,H p = none→Q (.ref p) (upd H p (.lst (List.replicate k.toNat xs).flatten))
theorem len_rep {α : Type} (xs : List α) (k : Nat) : (List.replicate k xs).flatten.length = k * xs.length := by
 induction k with
 | zero => simp
 | succ k ih => rw [List.replicate_succ,List.flatten_cons,List.length_append,ih,Nat.succ_mul,Nat.add_comm]
theorem akx : Va X (binaryOp .Mult) aw8 := by
 intro pins s σ H x y v u Q I rx ry h
 obtain ⟨l,k,xs,rfl,rfl,hH,h1,h2,hz,q⟩ := h
 cases rx
 obtain ⟨t,rfl⟩ := ry
 obtain ⟨z,its,n,r,hl,e⟩ := I.agM hH
 have hlen : its.toArray.size * k.toNat≤sizeLine := by rw [List.size_toArray,← hl]; exact hz
 have aw9 : ¬ its.toArray.size * k.toNat > (2 ^ 63 - 1) / 8 := by
  have : (sizeLine : Nat)≤(2 ^ 63 - 1) / 8 := by decide
  lia
 have hfit : ¬ (!Builtin.List.listFitsIndex k) = true := by
  rw [fitsIndex_both h1 h2]
  exact Bool.false_ne_true
 have atR : ¬ Builtin.List.listTooLong (its.toArray.size * k.toNat) = true := by
  rw [aer hlen]
  exact Bool.false_ne_true
 have hnew : List.foldl (fun x1 x2 => x1 ++ x2) #[] (List.replicate (if its.toArray.isEmpty = true then 0 else k.toNat) its.toArray) = (List.replicate k.toNat its).flatten.toArray := by
  have f0 : ∀ m : Nat,List.foldl (fun x1 x2 => x1 ++ x2) #[] (List.replicate m its.toArray) = (List.replicate m its).flatten.toArray := fun m => by
   have := foldl_rep its m []
   rw [List.nil_append] at this
   exact this
  rw [f0]
  cases its with
  | nil => simp
  | cons a r' => rw [if_neg (by simp)]
 refine wpAny_binaryOp_repeat_ref (T := "list") (U := "int") (by decide) ⟨_,e,rfl⟩ (fun s' => typeIs_int s' k t) noFill_list_mul F.fills_int_mul F.slot_int_rmul repeat_list F.slot_int_index.lookup
  (call_meets F.slot_int_rmul (typeIs_int s k t) F.entry_int_rmul (F.args_int_rmul_2 _ _) (int___rmul___int_list k t l its.toArray n)
    ⟨e,rfl,⟨_,e,rfl⟩,call_meets F.slot_list_mul ⟨_,e,rfl⟩ F.entry_list_mul (F.args_list_mul_2 _ _) (AutoListH.list___mul___list_int_3 l its.toArray n k t hfit aw9 atR) ⟨e,?_⟩⟩)
 rw [hnew]
 exact ⟨.ref _,_,I.aqk (t' := s.toks) (r.rep k.toNat) (by rw [len_rep,Nat.mul_comm]; exact hz),rfl,q _ I.fresh⟩
end
section
variable {prog : Program} {w : World} {A : Around} {E : Value→Shared→Prop} {s : Shared}
end
section
variable {X : Cx}
end
end L2
namespace L2
open PySem PySem.Spec PyProof.Rows
section
variable {κ : Type} [DecidableEq κ]
def fJ (kvs : List (κ×V)) (k : κ) : Option V := (kvs.find? fun kv => decide (kv.1 = k)).map (·.2)
def putK (kvs : List (κ×V)) (k : κ) (v : V) : List (κ×V) :=
 if (kvs.any fun kv => decide (kv.1 = k)) = true then kvs.map (fun kv => if kv.1 = k then (kv.1,v) else kv) else kvs ++ [(k,v)]
def wI (kvs : List (κ×V)) (k : κ) : List (κ×V) := kvs.filter fun kv => decide (kv.1≠k)
theorem jD {p : κ×V} {r : List (κ×V)} {k : κ} (e : p.1 = k) : fJ (p :: r) k = some p.2 := by simp [fJ,List.find?_cons,e]
theorem jE {p : κ×V} {r : List (κ×V)} {k : κ} (e : ¬ p.1 = k) : fJ (p :: r) k = fJ r k := by simp [fJ,List.find?_cons,e]
theorem J8 (k : κ) : ∀ kvs : List (κ×V),(kvs.any fun kv => decide (kv.1 = k)) = (fJ kvs k).isSome
 | [] => rfl
 | p :: r => by
   rw [List.any_cons]
   by_cases e : p.1 = k
   ·simp only [jD e,decide_eq_true e,Bool.true_or,Option.isSome_some]
   ·rw [jE e,decide_eq_false e,Bool.false_or]; exact J8 k r
theorem aes (k j : κ) (y : V) : ∀ kvs : List (κ×V),fJ (kvs.map fun kv => if kv.1 = k then (kv.1,y) else kv) j = (fJ kvs j).map fun x => if j = k then y else x
 | [] => rfl
 | p :: r => by
   have ih := aes k j y r
   rw [List.map_cons]
   by_cases h : p.1 = k
   ·rw [if_pos h]
    by_cases e : p.1 = j
    ·rw [jD (p := (p.1,y)) e,jD e,Option.map_some,if_pos (e.symm.trans h)]
    ·rw [jE (p := (p.1,y)) e,jE e,ih]
   ·rw [if_neg h]
    by_cases e : p.1 = j
    ·rw [jD (p := p) e,jD e,Option.map_some,if_neg (fun z => h (e.trans z))]
    ·rw [jE (p := p) e,jE e,ih]
theorem aaC (k j : κ) (y : V) : ∀ kvs : List (κ×V),fJ kvs k = none→fJ (kvs ++ [(k,y)]) j = if j = k then some y else fJ kvs j
 | [],_ => by
   by_cases e : k = j
   ·rw [if_pos e.symm]; exact jD (p := (k,y)) e
   ·rw [if_neg (fun z => e z.symm)]; exact jE (p := (k,y)) e
 | p :: r,hn => by
   rw [List.cons_append]
   have hk : ¬ p.1 = k := fun z => by rw [jD z] at hn; cases hn
   rw [jE hk] at hn
   have ih := aaC k j y r hn
   by_cases e : p.1 = j
   ·rw [jD e,jD e,if_neg (fun z => hk (e.trans z))]
   ·rw [jE e,jE e,ih]
theorem aky (kvs : List (κ×V)) (k j : κ) (y : V) : fJ (putK kvs k y) j = if j = k then some y else fJ kvs j := by
 unfold putK
 by_cases a : (kvs.any fun kv => decide (kv.1 = k)) = true
 ·rw [if_pos a,aes]
  rw [J8] at a
  by_cases e : j = k
  ·obtain ⟨x,hx⟩ := Option.isSome_iff_exists.mp a
   rw [if_pos e,e,hx,Option.map_some,if_pos rfl]
  ·rw [if_neg e]
   cases fJ kvs j with
   | none => rfl
   | some x => rw [Option.map_some,if_neg e]
 ·rw [if_neg a]
  refine aaC k j y kvs ?_
  rw [J8] at a
  cases q : fJ kvs k with
  | none => rfl
  | some x => rw [q] at a; exact (a rfl).elim
theorem uy (kvs : List (κ×V)) (k : κ) (v : V) : (putK kvs k v).length≤kvs.length + 1 := by
 unfold putK
 split
 ·rw [List.length_map]; lia
 ·rw [List.length_append,List.length_cons,List.length_nil]; lia
theorem Bm.Om {o : Option V} {u : Option Value} (r : Bm o u) : o.isSome = u.isSome := by
 cases o with
 | none => cases u with
   | none => rfl
   | some _ => exact (show False from r).elim
 | some _ => cases u with
   | none => exact (show False from r).elim
   | some _ => rfl
theorem KV.val {kvs : List (κ×V)} {vs : List (κ×Value)} (r : KV kvs vs) (k : κ) : Bm (fJ kvs k) (valueAt vs k) := by
 unfold KV at r
 induction r with
 | nil => exact True.intro
 | @cons p q ps qs h t ih =>
   obtain ⟨h1,h2⟩ := h
   by_cases e : p.1 = k
   ·have e' : q.1 = k := h1.symm.trans e
    have b : valueAt (q :: qs) k = some q.2 := by simp [valueAt,List.find?_cons,e']
    rw [jD e,b]; exact h2
   ·have e' : ¬ q.1 = k := fun z => e (h1.trans z)
    have b : valueAt (q :: qs) k = valueAt qs k := by simp [valueAt,List.find?_cons,e']
    rw [jE e,b]; exact ih
theorem KV.any {kvs : List (κ×V)} {vs : List (κ×Value)} (r : KV kvs vs) (k : κ) : (kvs.any fun kv => decide (kv.1 = k)) = vs.any fun kv => decide (kv.1 = k) := by
 unfold KV at r
 induction r with
 | nil => rfl
 | cons h t ih => rw [List.any_cons,List.any_cons,ih,h.1]
theorem KV.repl {kvs : List (κ×V)} {vs : List (κ×Value)} (r : KV kvs vs) (k : κ) {y : V} {u : Value} (ry : RelV y u) :
 KV (kvs.map fun kv => if kv.1 = k then (kv.1,y) else kv) (vs.map fun kv => if kv.1 = k then (kv.1,u) else kv) := by
 unfold KV at r ⊢
 induction r with
 | nil => exact .nil
 | @cons p q ps qs h t ih =>
   rw [List.map_cons,List.map_cons]
   refine .cons ?_ ih
   obtain ⟨h1,h2⟩ := h
   by_cases e : p.1 = k
   ·rw [if_pos e,if_pos (h1.symm.trans e)]; exact ⟨h1,ry⟩
   ·rw [if_neg e,if_neg (fun z => e (h1.trans z))]; exact ⟨h1,h2⟩
theorem KV.put {kvs : List (κ×V)} {vs : List (κ×Value)} (r : KV kvs vs) (k : κ) {y : V} {u : Value} (ry : RelV y u) : KV (putK kvs k y) (stored vs k u) := by
 unfold putK stored
 rw [r.any k]
 by_cases e : (vs.any fun kv => decide (kv.1 = k)) = true
 ·rw [if_pos e,if_pos e]; exact r.repl k ry
 ·rw [if_neg e,if_neg e]; exact Paired.snoc r ⟨rfl,ry⟩
theorem KV.drop {kvs : List (κ×V)} {vs : List (κ×Value)} (r : KV kvs vs) (k : κ) : KV (wI kvs k) (without vs k) := by
 unfold KV at r ⊢
 unfold wI without
 induction r with
 | nil => exact .nil
 | @cons p q ps qs h t ih =>
   obtain ⟨h1,h2⟩ := h
   rw [List.filter_cons,List.filter_cons]
   by_cases e : p.1 = k
   ·have a : ¬ decide (p.1≠k) = true := by simp [e]
    have b : ¬ decide (q.1≠k) = true := by simp [h1.symm.trans e]
    rw [if_neg a,if_neg b]; exact ih
   ·have e' : ¬ q.1 = k := fun z => e (h1.trans z)
    have a : decide (p.1≠k) = true := by simp [e]
    have b : decide (q.1≠k) = true := by simp [e']
    rw [if_pos a,if_pos b]; exact .cons ⟨h1,h2⟩ ih
theorem KV.length {kvs : List (κ×V)} {vs : List (κ×Value)} (r : KV kvs vs) : kvs.length = vs.length := Paired.length r
theorem aet (kvs : List (κ×V)) (k : κ) : (wI kvs k).length≤kvs.length := List.length_filter_le _ _
end
theorem Vt {P : Program} {w : World} {k : Key} {u : Value} (r : RelV (kV k) u) : (gJ P w).is k u = true := by
 cases k with
 | inl i => obtain ⟨t,e⟩ := (show ∃ t,u = Value.int i t from r); subst e; exact aed P w i t
 | inr x => obtain ⟨t,e⟩ := (show ∃ t,u = Value.str x t from r); subst e; exact aee P w x t
theorem aaD {P : Program} {w : World} : ∀ {ks : List Key} {us : List Value},Vals (ks.map kV) us→ItemsAre (gJ P w) ks us
 | [],_,r => by rw [List.map_nil] at r; cases r; exact .nil
 | k :: ks,_,r => by
   rw [List.map_cons] at r
   cases r with
   | cons h t => exact .cons (Vt h) (aaD t)
abbrev KT (H : Hp) : List (List Key×V)→List (List Key×Addr×Value)→Prop := Paired fun p q => p.1 = q.1∧H q.2.1 = some (.tup (p.1.map kV))∧RelV p.2 q.2.2
theorem KT.val {H : Hp} {kvs : List (List Key×V)} {xs : List (List Key×Addr×Value)} (r : KT H kvs xs) (k : List Key) : Bm (fJ kvs k) ((atKey xs k).map (·.2)) := by
 induction r with
 | nil => exact True.intro
 | @cons p q ps qs h t ih =>
   obtain ⟨h1,_,h2⟩ := h
   by_cases e : p.1 = k
   ·have e' : q.1 = k := h1.symm.trans e
    have b : atKey (q :: qs) k = some q.2 := by simp [atKey,List.find?_cons,e']
    rw [jD e,b]; exact h2
   ·have e' : ¬ q.1 = k := fun z => e (h1.trans z)
    have b : atKey (q :: qs) k = atKey qs k := by simp [atKey,List.find?_cons,e']
    rw [jE e,b]; exact ih
theorem KT.repl {H : Hp} {kvs : List (List Key×V)} {xs : List (List Key×Addr×Value)} (r : KT H kvs xs) (k : List Key) {y : V} {u : Value} (ry : RelV y u) :
 KT H (kvs.map fun kv => if kv.1 = k then (kv.1,y) else kv) (xs.map (putAt k u)) := by
 induction r with
 | nil => exact .nil
 | @cons p q ps qs h t ih =>
   rw [List.map_cons,List.map_cons]
   refine .cons ?_ ih
   obtain ⟨h1,h2,h3⟩ := h
   unfold putAt
   by_cases e : p.1 = k
   ·rw [if_pos e,if_pos (h1.symm.trans e)]; exact ⟨h1,h2,ry⟩
   ·rw [if_neg e,if_neg (fun z => e (h1.trans z))]; exact ⟨h1,h2,h3⟩
theorem KT.put {H : Hp} {kvs : List (List Key×V)} {xs : List (List Key×Addr×Value)} (r : KT H kvs xs) (k : List Key) {b : Addr} {y : V} {u : Value} (hb : H b = some (.tup (k.map kV))) (ry : RelV y u) :
 KT H (putK kvs k y) (storedH xs k b u) := by
 have e : (kvs.any fun kv => decide (kv.1 = k)) = (atKey xs k).isSome := by
  rw [J8,(r.val k).Om,Option.isSome_map]
 unfold putK storedH
 rw [e]
 by_cases q : (atKey xs k).isSome = true
 ·rw [if_pos q,if_pos q]; exact r.repl k ry
 ·rw [if_neg q,if_neg q]; exact Paired.snoc r ⟨rfl,hb,ry⟩
theorem KT.keeps {H H' : Hp} {kvs : List (List Key×V)} {xs : List (List Key×Addr×Value)} (r : KT H kvs xs) (ht : ∀ b ys,H b = some (.tup ys)→H' b = some (.tup ys)) : KT H' kvs xs :=
 Paired.ap1 r fun _ _ z => ⟨z.1,ht _ _ z.2.1,z.2.2⟩
section
variable {P : Program} {w : World} {H : Hp} {h : Heap} {a : Addr}
theorem apr {u : HO} (ok : Gu P w H h) (e : Rd H a u) : fH P w H h a u := e.ok ok
theorem aeu {kvs : List (Key×V)} (ok : Gu P w H h) (e : Rd H a (.dK kvs)) : kvs.length≤sizeLine∧(a == sysModules) = false∧∃ vs,KV kvs vs∧h.DictOf (gJ P w) a vs :=
 show fH P w H h a (.dK kvs) from apr ok e
theorem ah8 {kvs : List (Key×V)} (ok : Gu P w H h) (e : H a = some (.dK kvs)) : kvs.length≤sizeLine∧(a == sysModules) = false∧∃ vs,KV kvs vs∧h.DictOf (gJ P w) a vs := aeu ok (.inl e)
theorem abo {ks : List Key} (ok : Gu P w H h) (e : H a = some (.tup (ks.map kV))) : (tupleKind (gJ P w)).is h ks a := by
 obtain ⟨_,its,r,o,h1,h2,n,h3⟩ := (show fH P w H h a (.tup (ks.map kV)) from ok a _ e)
 exact ⟨o,its.toArray,n,h1,h2,h3,by simpa using aaD r⟩
theorem aev {kvs : List (List Key×V)} (ok : Gu P w H h) (e : Rd H a (.dT kvs)) : kvs.length≤sizeLine∧(a == sysModules) = false∧
 ∃ xs,KT H kvs xs∧h.DictOfH (tupleKind (gJ P w)) a xs := by
 obtain ⟨z,y,xs,r,o,es,ep,h1,h2,h3,h4,h5⟩ := (show fH P w H h a (.dT kvs) from apr ok e)
 refine ⟨z,y,xs,r,o,es,ep,h1,h2,h3,h4,fun x hx => ?_,h5⟩
 have all : ∀ {l : List (List Key×V)} {m : List (List Key×Addr×Value)},KT H l m→∀ x∈m,(tupleKind (gJ P w)).is h x.1 x.2.1 := by
  intro l m q
  induction q with
  | nil => intro x hx; exact nomatch hx
  | @cons p q ps qs hq t ih =>
    intro x hx
    rcases List.mem_cons.mp hx with e | hx
    ·subst e
     exact abo ok (by rw [← hq.1]; exact hq.2.1)
    ·exact ih x hx
 exact all r x hx
theorem atU {kvs : List (List Key×V)} (ok : Gu P w H h) (e : H a = some (.dT kvs)) : kvs.length≤sizeLine∧(a == sysModules) = false∧
 ∃ xs,KT H kvs xs∧h.DictOfH (tupleKind (gJ P w)) a xs := aev ok (.inl e)
end
def Gw (H : Hp) (a : Addr) (y : V) (r : Option V) : Prop :=
 (∃ kvs k,Rd H a (.dK kvs)∧y = kV k∧r = fJ kvs k)∨∃ kvs k b,Rd H a (.dT kvs)∧y = .ref b∧H b = some (.tup (k.map kV))∧r = fJ kvs k
def agN (H : Hp) (a : Addr) (y v : V) (H' : Hp) : Prop :=
 (∃ kvs k,H a = some (.dK kvs)∧y = kV k∧kvs.length < sizeLine∧H' = upd H a (.dK (putK kvs k v)))∨
 ∃ kvs k b,H a = some (.dT kvs)∧y = .ref b∧H b = some (.tup (k.map kV))∧kvs.length < sizeLine∧H' = upd H a (.dT (putK kvs k v))
theorem Gw.k {H : Hp} {a : Addr} {kvs : List (Key×V)} {k : Key} (e : H a = some (.dK kvs)) : Gw H a (kV k) (fJ kvs k) := .inl ⟨kvs,k,.inl e,rfl,rfl⟩
theorem agN.k {H : Hp} {a : Addr} {kvs : List (Key×V)} {k : Key} {v : V} (e : H a = some (.dK kvs)) (hl : kvs.length < sizeLine) : agN H a (kV k) v (upd H a (.dK (putK kvs k v))) := .inl ⟨kvs,k,e,rfl,hl,rfl⟩
section
variable {X : Cx} {pins : List (Addr×Obj)} {σ : St} {H : Hp} {s : Shared} {a : Addr} {y v : V} {u r : Value} {o : Option V} {A : Around} {E : Value→Shared→Prop}
theorem Inv.big (I : Inv X pins σ H s) : sysModules < s.heap.objs.size := by
 have h : mainGlobals < s.heap.objs.size := (I.mod.glob.keeps I.bk).lt
 exact Nat.lt_trans (by decide) h
theorem ajd {Q : Value→Shared→Prop} (hu : A.units + 1 < cLine) (I : Inv X pins σ H s) (g : Gw H a y (some v)) (ry : RelV y u) (h : ∀ w' s',Inv X pins σ H s'→RelV v w'→Q w' s') :
 wpAny (model X.prog X.w) A (getItem (.ref a) u) Q E s := by
 rcases g with ⟨kvs,k,e,ey,l⟩ | ⟨kvs,k,b,e,ey,eb,l⟩
 ·subst ey
  obtain ⟨z,hd,vs,rel,dd⟩ := aeu I.hok e
  obtain ⟨w',hw,rw'⟩ := Bm.some_of (v := v) (o := valueAt vs k) (by rw [l]; exact rel.val k)
  exact wpAny_getItem_of (Vt ry) dd.mapOf hw (h w' _ (I.tok _) rw')
 ·subst ey
  cases (show u = Value.ref b from ry)
  obtain ⟨z,hd,xs,rel,dd⟩ := aev I.hok e
  obtain ⟨w',hw,rw'⟩ := Bm.some_of (v := v) (o := (atKey xs k).map (·.2)) (by rw [l]; exact rel.val k)
  obtain ⟨p,hp,hp2⟩ := Option.map_eq_some_iff.mp hw
  refine wpAny_getItem_heap (tupleKind_room_in1 hu) (abo I.hok eb) dd hp ?_
  rw [hp2]
  exact h w' _ (I.tok _) rw'
theorem axa {Q : Value→Shared→Prop} (hu : A.units + 1 < cLine) (I : Inv X pins σ H s) (g : Gw H a y o) (ry : RelV y u) (h : ∀ s',Inv X pins σ H s'→Q (.bool o.isSome) s') :
 wpAny (model X.prog X.w) A (compareOp .In u (.ref a)) Q E s := by
 rcases g with ⟨kvs,k,e,ey,l⟩ | ⟨kvs,k,b,e,ey,eb,l⟩
 ·subst ey
  obtain ⟨z,hd,vs,rel,dd⟩ := aeu I.hok e
  refine wpAny_in_of (Vt ry) hd dd.mapOf ?_
  rw [← (rel.val k).Om,← l]
  exact h _ (I.tok _)
 ·subst ey
  cases (show u = Value.ref b from ry)
  obtain ⟨z,hd,xs,rel,dd⟩ := aev I.hok e
  refine wpAny_in_heap (tupleKind_room_in1 hu) (abo I.hok eb) hd dd ?_
  have q := (rel.val k).Om
  rw [Option.isSome_map] at q
  rw [← q,← l]
  exact h _ (I.tok _)
theorem Vb {h' : Heap} {t' : Nat} {ob : HO} (I : Inv X pins σ H s) (mu : Mut (H a)) (hs : Heap.SameBut a s.heap h') (he : ∃ q,h'.get? a = some q) (new : fH X.prog X.w (upd H a ob) h' a ob) :
 Inv X pins σ (upd H a ob) { s with heap := h',toks := t' } :=
 I.write (x := a) (e := a) mu (.inl rfl) (fun b q hb z => (hs.2 b hb).trans z) he new
theorem agO {P : Program} {w : World} {H' : Hp} {h' : Heap} {kvs : List (Key×V)} {vs : List (Key×Value)} (z : kvs.length≤sizeLine) (hd : (a == sysModules) = false) (rel : KV kvs vs) (dd : h'.DictOf (gJ P w) a vs) :
 fH P w H' h' a (.dK kvs) := ⟨z,hd,vs,rel,dd⟩
theorem aje {H' : Hp} {Q : Unit→Shared→Prop} (hu : A.units + 1 < cLine) (I : Inv X pins σ H s) (g : agN H a y v H') (ry : RelV y u) (rv : RelV v r) (h : ∀ s',Inv X pins σ H' s'→Q () s') :
 wpAny (model X.prog X.w) A (setItem (.ref a) u r) Q E s := by
 rcases g with ⟨kvs,k,e,ey,l,eH⟩ | ⟨kvs,k,b,e,ey,eb,l,eH⟩
 ·subst ey eH
  obtain ⟨z,hd,vs,rel,dd⟩ := ah8 I.hok e
  have hz : vs.length≤sizeLine := by rw [← rel.length]; exact z
  have hl : (putK kvs k v).length≤sizeLine := by have := uy kvs k v; lia
  refine wpAny_setItem_pairs (hsz := hz) (Vt ry) dd fun h' dd' hs => h _ ?_
  have he : ∃ q,h'.get? a = some q := let ⟨q,_,_,hq,_⟩ := dd'; ⟨q,hq⟩
  exact Vb I (by rw [e]; exact True.intro) hs he (agO hl hd (rel.put k rv) dd')
 ·subst ey eH
  cases (show u = Value.ref b from ry)
  obtain ⟨z,hd,xs,rel,dd⟩ := atU I.hok e
  have hz : xs.length≤sizeLine := by rw [← Paired.length rel]; exact z
  have hl : (putK kvs k v).length≤sizeLine := by have := uy kvs k v; lia
  refine wpAny_setItem_heap (hsz := hz) (tupleKind_room_in1 hu) (abo I.hok eb) dd fun h' dd' hs => h _ ?_
  obtain ⟨q,es,ep,hq,h2,h3,h4,_,h5⟩ := dd'
  refine Vb I (by rw [e]; exact True.intro) hs ⟨q,hq⟩ ⟨hl,hd,_,(rel.put k eb rv).keeps fun c ys ec => ?_,q,es,ep,hq,h2,h3,h4,h5⟩
  rw [aq (jf ec e (fun z => nomatch z))]
  exact ec
end
section
variable {X : Cx} {pins : List (Addr×Obj)} {σ : St} {H : Hp} {s : Shared} {a : Addr} {kvs : List (Key×V)} {k : Key} {u : Value} {A : Around} {E : Value→Shared→Prop}
theorem atV {v : V} {more : List Value} {Q : Value→Shared→Prop} (I : Inv X pins σ H s) (e : H a = some (.dK kvs)) (ry : RelV (kV k) u) (l : fJ kvs k = some v) (hm : more = []∨∃ x,more = [x])
 (h : ∀ w' s',Inv X pins σ (upd H a (.dK (wI kvs k))) s'→RelV v w'→Q w' s') : wpAny (model X.prog X.w) A (call (.builtin "dict.pop") (.ref a :: u :: more)) Q E s := by
 obtain ⟨z,hd,vs,rel,dd⟩ := ah8 I.hok e
 obtain ⟨w',hw,rw'⟩ := Bm.some_of (v := v) (o := valueAt vs k) (by rw [← l]; exact rel.val k)
 have hp : (keyPart u).isSome = true := by
  cases k with
  | inl i => obtain ⟨t,q⟩ := (show ∃ t,u = Value.int i t from ry); subst q; rfl
  | inr x => obtain ⟨t,q⟩ := (show ∃ t,u = Value.str x t from ry); subst q; rfl
 have ha : argsOk "dict.pop" ⟨.ref a :: u :: more,[]⟩ := by
  rcases hm with q | ⟨x,q⟩
  ·subst q; exact PySem.F.args_dict_pop_2 _ _
  ·subst q; exact PySem.F.args_dict_pop_3 _ _ _
 refine call_meetsIn PySem.F.slot_dict_pop dd.typeIs PySem.F.entry_dict_pop ha (meets_dict_pop_there (gJ X.prog X.w) a (Vt ry) more hm hp)
  ⟨vs,w',dd,by rw [← rel.length]; exact z,hw,fun h' dd' hs => h w' _ ?_ rw'⟩
 have he : ∃ q,h'.get? a = some q := let ⟨q,_,_,hq,_⟩ := dd'; ⟨q,hq⟩
 exact Vb I (by rw [e]; exact True.intro) hs he (agO (Nat.le_trans (aet kvs k) z) hd (rel.drop k) dd')
theorem aqn {r : Value} {Q : Value→Shared→Prop} (I : Inv X pins σ H s) (e : H a = some (.dK kvs)) (ry : RelV (kV k) u) (l : fJ kvs k = none) (h : ∀ s',Inv X pins σ H s'→Q r s') :
 wpAny (model X.prog X.w) A (call (.builtin "dict.pop") [.ref a,u,r]) Q E s := by
 obtain ⟨z,hd,vs,rel,dd⟩ := ah8 I.hok e
 have hn : valueAt vs k = none := Bm.none_of (by rw [← l]; exact rel.val k)
 have hp : (keyPart u).isSome = true := by
  cases k with
  | inl i => obtain ⟨t,q⟩ := (show ∃ t,u = Value.int i t from ry); subst q; rfl
  | inr x => obtain ⟨t,q⟩ := (show ∃ t,u = Value.str x t from ry); subst q; rfl
 exact call_meetsIn PySem.F.slot_dict_pop dd.typeIs PySem.F.entry_dict_pop (PySem.F.args_dict_pop_3 _ _ _) (meets_dict_pop_default (gJ X.prog X.w) a (Vt ry) hd hp r) ⟨vs,dd,hn,h _ (I.tok _)⟩
end
def aqo (i : Expr) : Prop := ∀ ov iv,subscripted i false ov iv = operate [ov,iv] (getItem ov iv)
theorem ah9 {prog : Program} {w : World} {A : Around} {E : Value→Shared→Prop} {s : Shared} {env : Env} {value slice : Expr} {pos : Pos} {T id : String} {Q : Value→Shared→Prop}
 (hl : typeLookup (.type T) "__getitem__" = pure (some (.builtin id))) (hs : aqo slice)
 (h : wpAny (model prog w) A (eval value env) (fun o s₁ => wpAny (model prog w) A (eval slice env) (fun i s₂ => s₂.TypeIs o T∧wpAny (model prog w) A (getItem o i) Q E s₂) E s₁) E s) :
 wpAny (model prog w) A (eval (.Subscript value slice pos) env) Q E s := by
 refine Subscript_ (wpAny_mono h (fun o s₁ h₁ => wpAny_mono h₁ (fun i s₂ h₂ => ?_) fun _ _ x => x) fun _ _ x => x)
 obtain ⟨hT,h₂⟩ := h₂
 unfold subscriptTail
 refine wpAny_bind ?_
 rw [getitemInPython_of_ne hT.not_modules]
 refine wpAny_bind (wpAny_specialOf hT hl ?_)
 have fin : wpAny (model prog w) A (subscripted slice false o i) (fun r s₃ => wpAny (model prog w) A (letTemporaryGo value o r >>= fun _ => pure r) Q E s₃) E s₂ := by
  rw [hs o i]
  exact wpAny_operating (wpAny_mono h₂ (fun r s₃ h₃ => wpAny_bind (wpAny_letTemporaryGo (wpAny_pure h₃))) fun _ _ x => x)
 first
  | exact wpAny_pure (wpAny_bind fin)
  | exact wpAny_bind (wpAny_pure (wpAny_bind fin))
  | exact wpAny_bind fin
theorem aew {X : Cx} {pins : List (Addr×Obj)} {σ : St} {H : Hp} {s : Shared} {a : Addr} {y : V} {o : Option V} (I : Inv X pins σ H s) (g : Gw H a y o) : s.TypeIs (.ref a) "dict" := by
 rcases g with ⟨kvs,k,e,_,_⟩ | ⟨kvs,k,b,e,_,_,_⟩
 ·obtain ⟨_,_,vs,_,dd⟩ := aeu I.hok e
  exact dd.typeIs
 ·obtain ⟨_,_,xs,_,dd⟩ := aev I.hok e
  exact dd.typeIs
def Vu (td ty : TE) : TE := fun σ H Q => td σ H fun x H1 => ty σ H1 fun y H2 => ∃ a v,x = .ref a∧Gw H2 a y (some v)∧Q v H2
def axb (ty td : TE) : TE := fun σ H Q => ty σ H fun y H1 => td σ H1 fun x H2 => ∃ a o,x = .ref a∧Gw H2 a y o∧Q (.bl o.isSome) H2
def atX (td ty tv : TE) : TS := fun D σ H => tv σ H fun v H1 => td σ H1 fun x H2 => ty σ H2 fun y H3 => ∃ a H4,x = .ref a∧agN H3 a y v H4∧D.nx σ H4
section
variable {X : Cx} {o i e value : Expr} {pos pos' tpos : Pos} {td ty tv : TE}
theorem bG (hu : X.A.units + 1 < cLine) (ho : PE X o td) (hi : PE X i ty) (hs : aqo i) : PE X (.Subscript o i pos) (Vu td ty) := by
 intro pins s σ H Q I h
 refine ah9 PySem.F.slot_dict_getitem.lookup hs (fY (ho pins s σ H _ I h) fun u s1 hz => jW hz fun x H1 I1 rx q1 => fY (hi pins s1 σ H1 _ I1 q1) fun iv s2 hz => jW hz fun y H2 I2 ry ⟨a,v,ex,g,q2⟩ => ?_)
 subst ex
 obtain rfl : u = Value.ref a := rx
 exact ⟨aew I2 g,ajd hu I2 g ry fun w' s3 I3 rw' => ⟨v,H2,I3,rw',q2⟩⟩
theorem aqp (hu : X.A.units + 1 < cLine) (hi : PE X i ty) (ho : PE X o td) : PC X .In i o (axb ty td) := by
 intro pins s σ H Q I h
 refine fY (hi pins s σ H _ I h) fun iv s1 hz => jW hz fun y H1 I1 ry q1 => fY (ho pins s1 σ H1 _ I1 q1) fun u s2 hz => jW hz fun x H2 I2 rx ⟨a,ov,ex,g,q2⟩ => ?_
 subst ex
 obtain rfl : u = Value.ref a := rx
 exact axa hu I2 g ry fun s3 I3 => ⟨.bl ov.isSome,H2,I3,rfl,q2⟩
theorem km (hu : X.A.units + 1 < cLine) (ho : PE X o td) (hi : PE X i ty) (hv : PE X value tv) (hs : swapsWith value (some (.Subscript o i pos')) pos.line X.env = pure false) :
 PS X (.Assign [.Subscript o i pos'] value pos) (atX td ty tv) := by
 intro pins s σ H D I h
 refine wpAny_Assign_Subscript (fY (hv pins s σ H _ I h) fun r s1 hz => jW hz fun v H1 I1 rv q1 => fY (ho pins s1 σ H1 _ I1 q1) fun u s2 hz => jW hz fun x H2 I2 rx q2 => fY (hi pins s2 σ H2 _ I2 q2) fun iv s3 hz => jW hz fun y H3 I3 ry ⟨a,H4,ex,g,q3⟩ => ?_) hs
 subst ex
 obtain rfl : u = Value.ref a := rx
 exact aje hu I3 g ry rv fun s4 I4 => ⟨σ,H4,I4,q3⟩
end
theorem aex {P : Program} {w : World} {H : Hp} (h : Heap) (hb : sysModules < h.objs.size) : fH P w H (h.push { cls := .type "dict",data := .dict #[] }) h.objs.size (.dK []) :=
 ⟨Nat.zero_le _,beq_eq_false_iff_ne.mpr (Ne.symm (Nat.ne_of_lt hb)),[],.nil,Heap.DictOf.new h⟩
def aqq : TE := fun _ H Q => ∀ p,H p = none→Q (.ref p) (upd H p (.dK []))
section
variable {X : Cx} {pos : Pos}
theorem akA : PE X (.Dict [] [] pos) aqq := fun pins s σ H Q I h =>
 wpAny_Dict_empty ⟨.ref s.heap.objs.size,_,I.laid (a := s.heap.objs.size) (o := .dK []) (t' := s.toks) (fun _ _ q => Heap.get?_push_of_some _ q) (Nat.le_refl _) (aex s.heap I.big),rfl,h _ (I.hok.fresh (Nat.le_refl _))⟩
end
def agP : List (TE×TE)→St→Hp→(List (V×V)→Hp→Prop)→Prop
 | [],_,H,Q => Q [] H
 | (tk,tv) :: r,σ,H,Q => tk σ H fun x H1 => tv σ H1 fun y H2 => agP r σ H2 fun ps H3 => Q ((x,y) :: ps) H3
abbrev VV : List (V×V)→List (Value×Value)→Prop := Paired fun p q => RelV p.1 q.1∧RelV p.2 q.2
def PPs (X : Cx) (pos : Pos) (keys : List (Option Expr)) (values : List Expr) (trs : List (TE×TE)) : Prop :=
 ∀ (pins : List (Addr×Obj)) (s : Shared) (σ : St) (H : Hp) (Q : List (V×V)→Hp→Prop),Inv X pins σ H s→agP trs σ H Q→
  wpAny (model X.prog X.w) X.A (evalPairs (pairTrees keys values X.env pos)) (fun vs s' => ∃ ps H',Inv X pins σ H' s'∧VV ps vs∧Q ps H') X.xe s
theorem aia {X : Cx} {pos : Pos} : PPs X pos [] [] [] := fun pins s σ H Q I h => pairTrees_nil_walk ⟨[],H,I,.nil,h⟩
theorem lV {X : Cx} {pos : Pos} {k v : Expr} {ks : List (Option Expr)} {vs : List Expr} {tk tv : TE} {trs : List (TE×TE)} (hk : PE X k tk) (hv : PE X v tv) (hr : PPs X pos ks vs trs) :
 PPs X pos (some k :: ks) (v :: vs) ((tk,tv) :: trs) := fun pins s σ H Q I h =>
 pairTrees_cons_walk (fY (hk pins s σ H _ I h) fun u s1 hz => jW hz fun x H1 I1 rx q1 => fY (hv pins s1 σ H1 _ I1 q1) fun w2 s2 hz => jW hz fun y H2 I2 ry q2 =>
  fY (hr pins s2 σ H2 _ I2 q2) fun ws s3 hz => jW hz fun ps H3 I3 rel q3 => ⟨(x,y) :: ps,H3,I3,.cons ⟨rx,ry⟩ rel,q3⟩)
def HY (kvs more : List (Key×V)) : List (Key×V) := more.foldl (fun acc kv => putK acc kv.1 kv.2) kvs
theorem KV.merge : ∀ {more : List (Key×V)} {rs : List (Key×Value)} {kvs : List (Key×V)} {vs : List (Key×Value)},KV more rs→KV kvs vs→KV (HY kvs more) (merged vs rs) := by
 intro more rs kvs vs r
 unfold KV at r
 induction r generalizing kvs vs with
 | nil => intro q; exact q
 | @cons p q ps qs h t ih =>
   intro r0
   have e : KV (putK kvs p.1 p.2) (stored vs q.1 q.2) := by
    have := r0.put p.1 h.2
    rw [← h.1]; exact this
   exact ih e
theorem GD : ∀ (more kvs : List (Key×V)),(HY kvs more).length≤kvs.length + more.length
 | [],kvs => by show kvs.length≤kvs.length + 0; lia
 | p :: r,kvs => by
   have h1 := GD r (putK kvs p.1 p.2)
   have h2 := uy kvs p.1 p.2
   show (HY (putK kvs p.1 p.2) r).length≤_
   rw [List.length_cons]; lia
theorem Vv {P : Program} {w : World} : ∀ {kvs : List (Key×V)} {ws : List (Value×Value)},VV (kvs.map fun kv => (kV kv.1,kv.2)) ws→∃ rs,Carries (gJ P w) ws rs∧KV kvs rs
 | [],_,r => by rw [List.map_nil] at r; cases r; exact ⟨[],True.intro,.nil⟩
 | p :: kvs,_,r => by
   rw [List.map_cons] at r
   cases r with
   | @cons a b as bs h t =>
     obtain ⟨rs,c,q⟩ := Vv (P := P) (w := w) t
     obtain ⟨b1,b2⟩ := b
     exact ⟨(p.1,b2) :: rs,⟨Vt h.1,rfl,c⟩,.cons ⟨rfl,h.2⟩ q⟩
def atY (trs : List (TE×TE)) : TE := fun σ H Q => ∀ p,H p = none→agP trs σ (upd H p (.dK [])) fun ps H2 => H2 p = some (.dK [])∧∃ kvs : List (Key×V),ps = kvs.map (fun kv => (kV kv.1,kv.2))∧kvs.length≤15∧Q (.ref p) (upd H2 p (.dK (HY [] kvs)))
theorem aib {X : Cx} {pos : Pos} {keys : List (Option Expr)} {values : List Expr} {trs : List (TE×TE)} (h : PPs X pos keys values trs) (hall : keys.all (·.isSome) = true) (hl : keys.length = values.length) (h0 : keys≠[])
 (h15 : keys.length≤15) : PE X (.Dict keys values pos) (atY trs) := by
 intro pins s σ H Q I q
 have hn := I.hok.fresh (Nat.le_refl s.heap.objs.size)
 have I1 := I.laid (a := s.heap.objs.size) (o := .dK []) (h' := s.heap.push { cls := .type "dict",data := .dict #[] }) (t' := s.toks) (fun _ _ q => Heap.get?_push_of_some _ q) (Nat.le_refl _) (aex s.heap I.big)
 refine wpAny_Dict_walk (knd := gJ X.prog X.w) hall hl h0 h15 (fY (h pins _ σ _ _ I1 (q _ hn)) fun ws s2 hz => jW hz fun ps H2 I2 rel ⟨e,kvs,ep,lk,q2⟩ => ?_)
 subst ep
 obtain ⟨rs,c,rk⟩ := Vv (P := X.prog) (w := X.w) rel
 obtain ⟨z,hd,vs0,r0,dd⟩ := ah8 I2.hok e
 cases r0
 refine ⟨rs,c,dd,fun h' dd' hs => ⟨.ref s.heap.objs.size,_,?_,rfl,q2⟩⟩
 have hz : (HY [] kvs).length≤sizeLine := by
  have h1 := GD kvs []
  rw [List.length_nil] at h1
  rw [sizeLine_eq]; lia
 have he : ∃ q,h'.get? s.heap.objs.size = some q := let ⟨q,_,_,hq,_⟩ := dd'; ⟨q,hq⟩
 exact Vb I2 (by rw [e]; exact True.intro) hs he (agO hz hd (rk.merge .nil) dd')
structure M2 (X : Cx) (o : Expr) (m : Str) (apos : Pos) (e f : Expr) (cpos : Pos) : Prop where
 base : attributeBase o m X.env (eval o X.env) = eval o X.env
 few : ((backTo cpos (starEach [e,f] X.env)).all (fun x => !x.1) && (backToKw cpos (keywordEach [] X.env)).all (fun x => x.1.isSome)
  && decide (([e,f] : List Expr).length + ([] : List Keyword).length + (if ([] : List Keyword).isEmpty then 0 else 1) < 30)) = true
 line : (apos.endLine == cpos.line) = true
 trees : backTo cpos (starEach [e,f] X.env) = [(false,eval e X.env),(false,eval f X.env)]
def IsD (H : Hp) (a : Addr) : Prop := (∃ kvs,Rd H a (.dK kvs))∨∃ kvs,Rd H a (.dT kvs)
theorem aqr {X : Cx} {pins : List (Addr×Obj)} {σ : St} {H : Hp} {s : Shared} {a : Addr} (I : Inv X pins σ H s) (d : IsD H a) :
 s.TypeIs (.ref a) "dict"∧(∀ b,Value.ref a = .ref b→∃ ob,s.heap.get? b = some ob∧ob.dict = none)∧(a == sysModules) = false := by
 rcases d with ⟨kvs,e⟩ | ⟨kvs,e⟩
 ·obtain ⟨_,hd,vs,_,dd⟩ := aeu I.hok e
  refine ⟨dd.typeIs,fun b q => ?_,hd⟩
  cases q
  obtain ⟨ob,_,_,h1,h2,_⟩ := dd
  exact ⟨ob,h1,h2.2.1⟩
 ·obtain ⟨_,hd,xs,_,dd⟩ := aev I.hok e
  refine ⟨dd.typeIs,fun b q => ?_,hd⟩
  cases q
  obtain ⟨ob,_,_,h1,h2,_⟩ := dd
  exact ⟨ob,h1,h2.2.1⟩
section
variable {X : Cx} {pins : List (Addr×Obj)} {σ : St} {H : Hp} {s : Shared} {a : Addr} {y d : V} {u r : Value} {o : Option V} {A : Around} {E : Value→Shared→Prop}
end
def aqs (td ty tx : TE) : TE := fun σ H Q => td σ H fun x H1 => ∃ a,x = .ref a∧IsD H1 a∧ty σ H1 fun y H2 => tx σ H2 fun z H3 => ∃ kvs k,H3 a = some (.dK kvs)∧y = kV k∧
 (∀ v,fJ kvs k = some v→Q v (upd H3 a (.dK (wI kvs k))))∧(fJ kvs k = none→Q z H3)
section
variable {X : Cx} {o e f : Expr} {apos cpos : Pos} {td ty tx : TE}
theorem akB (ho : PE X o td) (he : PE X e ty) (hf : PE X f tx) (m : M2 X o "pop" apos e f cpos) : PE X (.Call (.Attribute o "pop" apos) [e,f] [] cpos) (aqs td ty tx) := by
 intro pins s σ H Q I h
 refine wpAny_Call_method m.base m.few m.line PySem.F.plainAttrs_dict PySem.F.slot_dict_pop PySem.F.type_dict_pop (fY (ho pins s σ H _ I h) fun u s1 hz => jW hz fun x H1 I1 rx ⟨a,ex,d,q1⟩ => ?_)
 subst ex
 obtain rfl : u = Value.ref a := rx
 obtain ⟨t1,t2,_⟩ := aqr I1 d
 refine ⟨t1,t2,?_⟩
 rw [m.trees]
 refine Calls.callWith_builtin rfl (Calls.evalArgs_plain (Calls.spliced_cons (fY (he pins s1 σ H1 _ I1 q1) fun iv s2 hz => jW hz fun y H2 I2 ry q2 =>
  Calls.spliced_cons (fY (hf pins s2 σ H2 _ I2 q2) fun fv s3 hz => jW hz fun z H3 I3 rz ⟨kvs,k,ea,ey,q3,q4⟩ => Calls.spliced_nil ?_))))
 subst ey
 cases l : fJ kvs k with
 | some v => exact atV I3 ea ry l (.inr ⟨fv,rfl⟩) fun w' s4 I4 rw' => ⟨v,_,I4,rw',q3 v l⟩
 | none => exact aqn I3 ea ry l fun s4 I4 => ⟨z,H3,I4,rz,q4 l⟩
end
section
variable {X : Cx} {pins : List (Addr×Obj)} {σ : St} {H : Hp} {s : Shared} {a : Addr} {kvs : List (Key×V)} {A : Around} {E : Value→Shared→Prop}
end
section
variable {X : Cx} {pins : List (Addr×Obj)} {σ : St} {H : Hp} {s : Shared} {a : Addr} {y : V} {u : Value} {A : Around} {E : Value→Shared→Prop}
end
end L2
namespace Att
open PySem PySem.W PySem.Calls PyProof.Rows
theorem RN {P : Params} {h : Heap} : ∀ (ns : List Int) (vs : List Value),WellAll P h vs (ns.map WData.int)→IntsAre vs ns := by
 intro ns
 induction ns with
 | nil =>
   intro vs w
   rw [List.map_nil] at w
   cases w
   exact .nil
 | cons n ns ih =>
   intro vs w
   rw [List.map_cons] at w
   cases w with
   | cons a b =>
     cases a
     exact .cons _ _ (ih _ b)
theorem ajf {l : OpenLaw} {n : Nat} (hn : l.most = some n) {P : Params} {h : Heap} {args : List WData} {vals : List Value}
 (hpre : l.row.toRowW.claim.pre args = true) (hwl : WellAll P h vals args) :
 ∃ a vs ns,vals = [Value.ref a]∧args = [WData.list (ns.map WData.int)]∧h.get? a = some { cls := .type "list",data := .seq vs.toArray }∧IntsAre vs ns∧ns.length≤n := by
 have hsh : WShape.hasAll [] args [.list .int] = true := (pre_splitW hpre).1
 have hc : l.pre.holds [] { args := args } = true := (pre_splitW hpre).2
 obtain ⟨d,r,rfl,h1,h2⟩ := hasAllW_cons hsh
 obtain rfl := hasAllW_nil h2
 obtain ⟨xs,rfl,h3⟩ := hasW_list h1
 obtain ⟨ns,rfl⟩ := items_int h3
 have hlen : ns.length≤n := by
  unfold OpenLaw.pre at hc
  have h4 : (WTm.not (.lt (.lit (.int (n : Int))) (.len (.arg 0)))).holds [] { args := [.list (ns.map .int)] } = true := by
   have h4 := (holds_andW hc).1
   rw [hn] at h4
   exact h4
  have h5 := condW_of h4 (w_not (w_lt w_lit (w_len_list (w_arg rfl))))
  rw [List.length_map] at h5
  refine Nat.le_of_not_lt fun q => ?_
  have q' : (n : Int) < ((ns.length : Nat) : Int) := by lia
  first
   | (rw [decide_eq_true q'] at h5; exact absurd h5 (by decide))
   | (simp at h5; lia)
 cases hwl with
 | cons w1 w2 =>
   cases w2
   cases w1 with
   | list ho hall => exact ⟨_,_,ns,rfl,rfl,ho,RN ns _ hall,hlen⟩
theorem ajg (l : OpenLaw) (args : List WData) : l.row.toRowW.claim.post args (.bool true) args = true :=
 postW_of (r := l.row.toRowW) (X := (true == true))
  (show WShape.has [] (.bool true) .bool = true by first | rfl | decide | simp [WShape.has,WShape.arms,WShape.armsAll])
  (show (WTm.eq .res (.lit (.bool true))).value [] { args := args,res := some (.bool true),after := args } = some (.bool (true == true)) from w_eq_bool (w_res rfl) w_lit) rfl
theorem aey {l : OpenLaw} {n : Nat} {q : Program} {loose : List Str} {XP : (Str→Option Value)→Heap→Prop} {YP : World→Heap→Prop} {d : DefRec}
 (hn : l.most = some n) (hdf : d.params.defaults = [])
 (call : ∀ (w : World) (s₀ s₁ : Shared) (mg mb : Str→Option Value) (fa : Addr) (o : Obj) (pm cd doc : Value) (a : Addr) (vs : List Value) (ns : List Int),
   Ground q loose [] XP w s₀ mg mb s₁.heap→YP w s₁.heap→
   s₁.heap.get? fa = some o→o.data = .func (docDef d.name d.params d.body d.scope pm cd doc)→s₁.heap.CodeRec cd d.name→mg d.name = some (.ref fa)→
   s₁.heap.get? a = some { cls := .type "list",data := .seq vs.toArray }→IntsAre vs ns→ns.length≤n→s₁.gens = #[]→
   codeAny (model l.prog w) callerA (.call (.ref fa) ⟨[.ref a],[]⟩) (fun r s' => r = .ok (.ret (.bool true))∧OldK s₁.heap s'.heap∧s'.os = s₁.os∧AllBare s'.gens) s₁) :
 WalkO q loose XP YP l.row.toRowW d [] (fun f vs => PySem.call f vs) := by
 intro w s₀ s₁ mg mb G Y fa o pm cd doc dV kV ho hd hcd hD hmg hg args vals as hpre hlay hrd hwl hlo
 obtain rfl : dV = .none := Dflts.none hD hdf
 obtain rfl : kV = .none := Dflts.noKw hD
 obtain ⟨a,vs,ns,rfl,rfl,hobj,hints,hlen⟩ := ajf hn hpre hwl
 refine enter_call (codeAny_mono (call w s₀ s₁ mg mb fa o pm cd doc a vs ns G Y ho (fd_plain hd) hcd hmg hobj hints hlen hg) fun r s' hq => ?_)
 obtain ⟨rfl,h2,h3,h4⟩ := hq
 exact ⟨.inl ⟨.bool true,.bool true,[],rfl,fun _ => rfl,.bool true,ajg l _,fun _ => ⟨List.Pairwise.nil,fun _ hm => (nomatch hm)⟩⟩,h2,h3,h4⟩
section
variable {prog : Program} {w : World} {A : Around} {E : Value→Shared→Prop} {s : Shared} {K : Frag}
end
end Att
namespace L2
open PySem PySem.Spec PyProof.Rows
theorem aaF : ∀ {vs : List Value} {ns : List Int},IntsAre vs ns→Vals (ns.map V.int) vs
 | _,_,.nil => .nil
 | _,_,.cons n t h => .cons ⟨t,rfl⟩ (aaF h)
def Only (H : Hp) : Prop := ∀ b,H b = none∨∃ o xs,H b = some (.frz o (.lst xs))
theorem akC {P : Program} {w : World} {K : PySem.W.Frag} {mg mb : Str→Option Value} {CX : CXT} {k : Nat} {fa a : Addr} {fd : FuncData} {x : Str} {sp : Sp} {s₁ : Shared} {vs : List Value} {ns : List Int}
 (KX : K.In s₁.heap) (hns : s₁.heap.Ns mainGlobals mg) (hb : s₁.heap.Ns builtinsNs mb) (hbb : ∀ x : Str,x≠"__name__"→mb x = bootBuiltins x) (hlim : s₁.heap.NoLimit) (hg : s₁.gens = #[])
 (ha : s₁.heap.get? a = some { cls := .type "list",data := .seq vs.toArray }) (hi : IntsAre vs ns) (hl : ns.length≤sizeLine) (hr : bR k callerA)
 (F : ∀ base : Heap,K.In base→base.Ns mainGlobals mg→cZ P w K mg base CX k fa fd [x] sp) (hbind : ∀ (s : Shared) (u : Value),BindsTo s fd ⟨[u],[]⟩ [(x,u)])
 (hsp : ∀ H : Hp,Only H→cz K H a (ns.map V.int)→sp [.ref a] H (fun v _ => v = .bl true) fun _ _ _ => False)
 (hCX : ∀ H e s',CX [] H s₁ (fun _ _ _ => False) e s'→False) :
 codeAny (model P w) callerA (.call (.ref fa) ⟨[.ref a],[]⟩) (fun r s' => r = .ok (.ret (.bool true))∧OldK s₁.heap s'.heap∧s'.os = s₁.os∧AllBare s'.gens) s₁ := by
 have rv := aaF hi
 have lenV := hi.length
 have core : ∀ H : Hp,Only H→cz K H a (ns.map V.int)→Gu P w H s₁.heap→(∀ b,H b≠none→b = a)→(H a≠none→K.lookup a = none)→
  codeAny (model P w) callerA (.call (.ref fa) ⟨[.ref a],[]⟩) (fun r s' => r = .ok (.ret (.bool true))∧OldK s₁.heap s'.heap∧s'.os = s₁.os∧AllBare s'.gens) s₁ := by
  intro H hO hS hok hA hK
  have aic : ∀ {b : Addr} {o : Obj},s₁.heap.get? b = some o→H b = none→(abe s₁.heap H).get? b = some o := fun e n => akd e n
  have noA : ∀ {b : Addr} {o : Obj} {es : Array DictEntry} {ep : Nat},s₁.heap.get? b = some o→o.data = .dict es ep→H b = none := fun {b o es ep} e d => by
   cases q : H b with
   | none => rfl
   | some u =>
     have e' : b = a := hA b (by rw [q]; simp)
     subst e'
     rw [ha] at e; cases e
     have d' : Data.seq vs.toArray _ = Data.dict es ep := d
     cases d'
  have nsK : ∀ {b : Addr} {m : Str→Option Value},s₁.heap.Ns b m→(abe s₁.heap H).Ns b m := fun {b m} ⟨o,es,ep,e,d,r⟩ => ⟨o,es,ep,aic e (noA e d),d,r⟩
  have hKb : K.In (abe s₁.heap H) := fun b o e => aic (KX b o e) (by
   cases q : H b with
   | none => rfl
   | some u =>
     have e' : b = a := hA b (by rw [q]; simp)
     subst e'
     rw [hK (by rw [q]; simp)] at e; cases e)
  have hM : Mod K mg (abe s₁.heap H) := ⟨hKb,nsK hns,⟨mb,nsK hb,hbb⟩,let ⟨mc,h1,h2⟩ := hlim; ⟨mc,nsK h1,h2⟩⟩
  have e0 : agF P w K mg (abe s₁.heap H) callerA [] s₁ H := ⟨rfl,hM,fun b o e => amJ e,Nat.le_of_eq (ai3 _ _),trivial,fun b hb => absurd (show b∈([] : List Addr) from hb) (by simp),hok,.of_eq hg⟩
  refine codeAny_mono ((F _ hKb (nsK hns)).run callerA [] s₁ H ⟨[.ref a],[]⟩ [.ref a] [.ref a] _ _ hr e0 (hbind s₁ (.ref a)) (.cons rfl .nil) (hsp H hO hS)) fun r s' h => ?_
  cases r with
  | error e => exact (hCX H e s' h).elim
  | ok fl =>
    cases fl with
    | next => exact False.elim h
    | brk => exact False.elim h
    | cont => exact False.elim h
    | ret u =>
      obtain ⟨v,H',os,bare,un,hok',r',q⟩ := h
      have q' : v = .bl true := q
      subst q'
      obtain rfl : u = Value.bool true := r'
      refine ⟨rfl,OldK.of_keep fun b o e => ?_,os,bare⟩
      cases q : H b with
      | none => exact un.keep b o e q (by intro z; exact absurd (show b∈([] : List Addr) from z) (by simp)) (by simp)
      | some u =>
        rcases hO b with z | ⟨ob,xs,z⟩
        ·rw [q] at z; cases z
        ·have z2 := un.HJ b ob _ z
         obtain ⟨e1,_⟩ := hok b _ z
         obtain ⟨e2,_⟩ := hok' b _ z2
         rw [e] at e1; cases e1
         exact e2
 cases hk : K.lookup a with
 | some o =>
   have e := KX a o hk
   rw [ha] at e
   cases e
   refine core (fun _ => none) (fun _ => .inl rfl) (.inr ⟨_,vs.toArray,_,hk,rfl,rfl,rfl,by rw [List.size_toArray,lenV]; exact hl,by simpa using rv⟩) (fun b u z => by have z' : (none : Option HO) = some u := z; cases z') (fun b z => absurd rfl z) fun z => absurd rfl z
 | none =>
   refine core (fun b => if b = a then some (.frz { cls := .type "list",data := .seq vs.toArray } (.lst (ns.map V.int))) else none) (fun b => ?_) (.inl (.inr ⟨{ cls := .type "list",data := .seq vs.toArray },if_pos rfl⟩)) (fun b u z => ?_) (fun b z => ?_) fun _ => hk
   ·by_cases hb : b = a
    ·exact .inr ⟨_,_,if_pos hb⟩
    ·exact .inl (if_neg hb)
   ·by_cases hb : b = a
    ·have z' := (if_pos hb).symm.trans z
     cases z'
     subst hb
     exact ⟨ha,by rw [List.length_map]; exact hl,vs,_,rv,ha⟩
    ·have z' := (if_neg hb).symm.trans z
     cases z'
   ·by_cases hb : b = a
    ·exact hb
    ·exact absurd (if_neg hb) z
end L2
namespace L2
open PySem PySem.Spec PyProof.Rows
theorem amY {l : PySem.W.OpenLaw} {n k : Nat} {q : Program} {loose : List Str} {XP : (Str→Option Value)→Heap→Prop} {YP : World→Heap→Prop} {d : DefRec} {K : Params→PySem.W.Frag} {CX : World→CXT} {sp : World→Sp} {x : Str}
 (hn : l.most = some n) (hn2 : n≤sizeLine) (hdf : d.params.defaults = []) (hr : bR k callerA)
 (hY : ∀ (w : World) (h : Heap),YP w h→(K w.params).In h)
 (F : ∀ (w : World) (mg : Str→Option Value) (fa : Addr) (h : Heap),(K w.params).In h→h.Ns mainGlobals mg→mg d.name = some (.ref fa)→
   ∃ fd : FuncData,(∀ (s : Shared) (u : Value),BindsTo s fd ⟨[u],[]⟩ [(x,u)])∧
    ∀ base : Heap,(K w.params).In base→base.Ns mainGlobals mg→cZ l.prog w (K w.params) mg base (CX w) k fa fd [x] (sp w))
 (hsp : ∀ (w : World) (H : Hp) (a : Addr) (ns : List Int),ns.length≤n→Only H→cz (K w.params) H a (ns.map V.int)→sp w [.ref a] H (fun v _ => v = .bl true) fun _ _ _ => False)
 (hCX : ∀ (w : World) (H : Hp) (s : Shared) (e : Value) (s' : Shared),CX w [] H s (fun _ _ _ => False) e s'→False) :
 PySem.W.WalkO q loose XP YP l.row.toRowW d [] (fun f vs => PySem.call f vs) := by
 refine Att.aey hn hdf fun w s₀ s₁ mg mb fa o pm cd doc a vs ns G Y ho hd hcd hmg hobj hints hlen hg => ?_
 have KX := hY w _ Y
 obtain ⟨fd,hb,hF⟩ := F w mg fa _ KX G.T.g hmg
 exact akC KX G.T.g G.T.b G.T.builtins G.T.nolimit hg hobj hints (Nat.le_trans hlen hn2) hr hF hb (fun H hO hS => hsp w H a ns hlen hO hS) fun H e s' => hCX w H s₁ e s'
end L2
namespace L2
open PySem PySem.Spec PyProof.Rows
def inClass (s : Stmt) (j : Nat) : Stmt := match s with
 | .ClassDef _ _ _ body _ _ _ _ _ _ _ => body.getD j (.Pass ⟨0,0,0,0⟩)
 | _ => .Pass ⟨0,0,0,0⟩
def J9 (s : Stmt) : Arguments := match s with
 | .FunctionDef _ a _ _ _ _ _ _ _ _ => a
 | _ => { posonlyargs := [],args := [],vararg := none,kwonlyargs := [],kw_defaults := [],kwarg := none,defaults := [] }
def yx (s : Stmt) : List Stmt := match s with
 | .FunctionDef _ _ b _ _ _ _ _ _ _ => b
 | _ => []
def aN (s : Stmt) : Scope := match s with
 | .FunctionDef _ _ _ _ _ _ sc _ _ _ => sc
 | _ => { kind := .function,names := [],isGenerator := false,isCoroutine := false }
abbrev n8 : CXT := fun _ _ _ _ _ _ => False
abbrev E0 : XK := fun _ _ _ => False
theorem bW {X : Cx} : Passes n8 X E0 := fun _ _ _ _ _ _ _ h => h.elim
structure jF (K : PySem.W.Frag) (x qual : Str) (st : Stmt) (f : Addr) (fd : FuncData) : Prop where
 ex : ∃ (oc : Value) (od : Option Addr) (kV doc pm : Value) (an : Option Addr) (cdv ct : Value) (osl : Array (Option Value)),
  fd = PySem.W.fnOf x qual (J9 st) (yx st) (aN st) .none kV doc pm an cdv ct∧K.lookup f = some ⟨oc,od,.func fd,osl⟩∧PySem.W.codeIn K cdv qual = true
 kp : PySem.W.keepIn K (.ref f) = true
section
variable {P : Program} {w : World} {K : PySem.W.Frag} {mg : Str→Option Value} {base : Heap}
theorem jF.ok {x qual : Str} {st : Stmt} {f : Addr} {fd : FuncData} {N ps : List Str} {k : Nat} {sp : Sp} (F : jF K x qual st f fd) (S : bz N ps (aN st)) (len : ∀ vs H Q E,sp vs H Q E→vs.length = ps.length)
 (hbody : ∀ (cdv : Value) (A : Around) (outer : List Env) (s : Shared) (H : Hp) (vs : List V) (Q : VK) (E : XK),bR k (A.deeper (envOfC qual (aN st) s.heap.objs.size f cdv))→sp vs H Q E→
   ∃ t,PSs (du n8 P w K mg base N qual (aN st) f cdv A outer s H E).j6 (yx st) t∧t { nx := fun _ H' => Q .non H',rt := Q } (start N vs) H) : cZ P w K mg base n8 (k + 1) f fd ps sp := by
 obtain ⟨oc,od,kV,doc,pm,an,cdv,ct,osl,rfl,lk,hcd⟩ := F.ex
 refine apn lk hcd S len fun A outer s H vs Q E hr hsp => ?_
 obtain ⟨t,h,q⟩ := hbody cdv A outer s H vs Q E hr hsp
 exact ⟨t,h.j6,q⟩
theorem jF.binds {x qual : Str} {st : Stmt} {f : Addr} {fd : FuncData} {ps : List Str} (F : jF K x qual st f fd)
 (h : ∀ (kV doc pm : Value) (an : Option Addr) (cdv ct : Value) (us : List Value),us.length = ps.length→bindArgs (PySem.W.fnOf x qual (J9 st) (yx st) (aN st) .none kV doc pm an cdv ct) ⟨us,[]⟩ = pure (ps.zip us)) : Binds K fd ps [] := by
 obtain ⟨oc,od,kV,doc,pm,an,cdv,ct,osl,rfl,lk,hcd⟩ := F.ex
 exact .all (h kV doc pm an cdv ct)
theorem aJ {x qual : Str} {st : Stmt} {f : Addr} {oc : Value} {od an : Option Addr} {osl : Array (Option Value)} {kV doc pm cdv ct : Value} (l : K.lookup f = some ⟨oc,od,.func (PySem.W.fnOf x qual (J9 st) (yx st) (aN st) .none kV doc pm an cdv ct),osl⟩)
 (c : PySem.W.codeIn K cdv qual = true) (k : PySem.W.keepIn K (.ref f) = true) : jF K x qual st f (PySem.W.fnOf x qual (J9 st) (yx st) (aN st) .none kV doc pm an cdv ct) := ⟨⟨oc,od,kV,doc,pm,an,cdv,ct,osl,rfl,l,c⟩,k⟩
end
theorem j7 {A : Around} {k : Nat} (hr : bR k A) : A.units + 1 < cLine := Nat.lt_of_le_of_lt (Nat.add_le_add_left (by decide : 1≤64) _) hr.units
section
variable {X : Cx}
theorem pv (i : Nat) {x : Str} {pos : Pos} (hN : X.N[i]? = some x := by rfl) (hv : Vis X.env.scope x := by first | exact Or.inl rfl | exact Or.inr (Or.inl rfl) | exact Or.inr (Or.inr rfl)) (hd : (x == ("__debug__" : Str)) = false := by decide)
 (hcd : (x == ("__classdict__" : Str)) = false := by decide) : PE X (.Name x pos) (iY i) := ap4 hN hv hd hcd
end
theorem wJ {A B : Prop} (h : B) : if false = true then A else B := by
 rw [if_neg Bool.false_ne_true]
 exact h
theorem oh {A B : Prop} (h : A) : if true = true then A else B := by
 rw [if_pos rfl]
 exact h
def bZ (H H' : Hp) : Prop := ∀ b o,H b = some o→H' b = some o
theorem bZ.refl (H : Hp) : bZ H H := fun _ _ h => h
theorem bZ.trans {H H1 H2 : Hp} (a : bZ H H1) (b : bZ H1 H2) : bZ H H2 := fun c o h => b c o (a c o h)
theorem bZ.free {H H' : Hp} (e : bZ H H') {l : Addr} (h : H' l = Option.none) : H l = Option.none := by
 cases q : H l with
 | none => rfl
 | some o =>
   rw [e l o q] at h
   cases h
section
variable {X : Cx}
end
section
variable {κ : Type} [DecidableEq κ]
theorem ajh {p : κ×V} {r : List (κ×V)} {k : κ} (e : p.1 = k) : wI (p :: r) k = wI r k := by
 unfold wI
 rw [List.filter_cons,if_neg (by simp [e])]
theorem aji {p : κ×V} {r : List (κ×V)} {k : κ} (e : ¬ p.1 = k) : wI (p :: r) k = p :: wI r k := by
 unfold wI
 rw [List.filter_cons,if_pos (by simp [e])]
end
end L2
namespace L2
open PySem PySem.Spec PyProof.Rows
inductive D where
 | n | i (k : Int) | s (x : Str) | t (ds : List D) | l (ds : List D)
mutual
def Rep (H : Hp) : V→D→Prop
 | v,.n => v = .non
 | v,.i k => v = .int k
 | v,.s x => v = .str x
 | v,.t ds => ∃ a xs,v = .ref a∧H a = some (.tup xs)∧aG H xs ds
 | v,.l ds => ∃ a xs,v = .ref a∧H a = some (.lst xs)∧aG H xs ds
def aG (H : Hp) : List V→List D→Prop
 | xs,[] => xs = []
 | xs,d :: ds => ∃ v r,xs = v :: r∧Rep H v d∧aG H r ds
end
mutual
def D.size : D→Nat
 | .n => 1
 | .i _ => 1
 | .s _ => 1
 | .t ds => 1 + D.sizes ds
 | .l ds => 1 + D.sizes ds
def D.sizes : List D→Nat
 | [] => 0
 | d :: ds => D.size d + D.sizes ds
end
mutual
def D.flat : D→Prop
 | .n => True
 | .i _ => True
 | .s _ => True
 | .t ds => D.flats ds
 | .l _ => False
def D.flats : List D→Prop
 | [] => True
 | d :: ds => D.flat d∧D.flats ds
end
def bY (H H' : Hp) : Prop := ∀ b xs,H b = some (.tup xs)→H' b = some (.tup xs)
def yz (H H' : Hp) : Prop := (∀ b xs,H b = some (.tup xs)→H' b = some (.tup xs))∧∀ b xs,H b = some (.lst xs)→H' b = some (.lst xs)
theorem bY.trans {H H1 H2 : Hp} (a : bY H H1) (b : bY H1 H2) : bY H H2 := fun c xs e => b c xs (a c xs e)
mutual
theorem Rep.mono {H H' : Hp} (h : yz H H') : ∀ {d : D} {v : V},Rep H v d→Rep H' v d
 | .n,_,r => by simpa only [Rep] using r
 | .i _,_,r => by simpa only [Rep] using r
 | .s _,_,r => by simpa only [Rep] using r
 | .t ds,_,r => by
   simp only [Rep] at r ⊢
   obtain ⟨a,xs,e,ha,rl⟩ := r
   exact ⟨a,xs,e,h.1 a xs ha,aG.mono h rl⟩
 | .l ds,_,r => by
   simp only [Rep] at r ⊢
   obtain ⟨a,xs,e,ha,rl⟩ := r
   exact ⟨a,xs,e,h.2 a xs ha,aG.mono h rl⟩
theorem aG.mono {H H' : Hp} (h : yz H H') : ∀ {ds : List D} {xs : List V},aG H xs ds→aG H' xs ds
 | [],_,r => by simpa only [aG] using r
 | d :: ds,_,r => by
   simp only [aG] at r ⊢
   obtain ⟨v,q,e,rv,rl⟩ := r
   exact ⟨v,q,e,Rep.mono h rv,aG.mono h rl⟩
end
mutual
theorem Rep.aU {H H' : Hp} (h : bY H H') : ∀ {d : D} {v : V},d.flat→Rep H v d→Rep H' v d
 | .n,_,_,r => by simpa only [Rep] using r
 | .i _,_,_,r => by simpa only [Rep] using r
 | .s _,_,_,r => by simpa only [Rep] using r
 | .t ds,_,f,r => by
   simp only [Rep] at r ⊢
   simp only [D.flat] at f
   obtain ⟨a,xs,e,ha,rl⟩ := r
   exact ⟨a,xs,e,h a xs ha,aG.aU h f rl⟩
 | .l ds,_,f,r => by simp only [D.flat] at f
theorem aG.aU {H H' : Hp} (h : bY H H') : ∀ {ds : List D} {xs : List V},D.flats ds→aG H xs ds→aG H' xs ds
 | [],_,_,r => by simpa only [aG] using r
 | d :: ds,_,f,r => by
   simp only [aG] at r ⊢
   simp only [D.flats] at f
   obtain ⟨v,q,e,rv,rl⟩ := r
   exact ⟨v,q,e,Rep.aU h f.1 rv,aG.aU h f.2 rl⟩
end
theorem aG.length {H : Hp} : ∀ {ds : List D} {xs : List V},aG H xs ds→xs.length = ds.length
 | [],_,r => by simp only [aG] at r; subst r; rfl
 | d :: ds,_,r => by
   simp only [aG] at r
   obtain ⟨v,q,rfl,_,rl⟩ := r
   rw [List.length_cons,List.length_cons,aG.length rl]
theorem aG.append {H : Hp} : ∀ {ds es : List D} {xs ys : List V},aG H xs ds→aG H ys es→aG H (xs ++ ys) (ds ++ es)
 | [],_,_,_,r,q => by simp only [aG] at r; subst r; exact q
 | d :: ds,es,_,ys,r,q => by
   simp only [aG] at r
   obtain ⟨v,x,rfl,rv,rl⟩ := r
   show aG H (v :: (x ++ ys)) (d :: (ds ++ es))
   simp only [aG]
   exact ⟨v,_,rfl,rv,aG.append rl q⟩
theorem aG.snoc {H : Hp} {ds : List D} {xs : List V} {v : V} {d : D} (r : aG H xs ds) (q : Rep H v d) : aG H (xs ++ [v]) (ds ++ [d]) :=
 r.append (by simp only [aG]; exact ⟨v,[],rfl,q,rfl⟩)
theorem aG.last {H : Hp} : ∀ {ds : List D} {xs : List V} {d : D},aG H xs (ds ++ [d])→∃ ys v,xs = ys ++ [v]∧aG H ys ds∧Rep H v d
 | [],_,d,r => by
   simp only [List.nil_append,aG] at r
   obtain ⟨v,q,rfl,rv,rfl⟩ := r
   exact ⟨[],v,rfl,by simp only [aG],rv⟩
 | e :: ds,_,d,r => by
   rw [List.cons_append,aG] at r
   obtain ⟨v,q,rfl,rv,rl⟩ := r
   obtain ⟨ys,w,rfl,r1,r2⟩ := aG.last rl
   exact ⟨v :: ys,w,rfl,by rw [aG]; exact ⟨v,ys,rfl,rv,r1⟩,r2⟩
theorem D.qQ : ∀ (a b : List D),D.sizes (a ++ b) = D.sizes a + D.sizes b
 | [],b => by simp [D.sizes]
 | d :: a,b => by rw [List.cons_append,D.sizes,D.sizes,D.qQ a b]; lia
theorem D.size_pos : ∀ d : D,0 < d.size
 | .n => by simp [D.size]
 | .i _ => by simp [D.size]
 | .s _ => by simp [D.size]
 | .t _ => by rw [D.size]; lia
 | .l _ => by rw [D.size]; lia
theorem D.dR : ∀ ds : List D,ds.length≤D.sizes ds
 | [] => Nat.zero_le _
 | d :: ds => by
   rw [D.sizes,List.length_cons]
   have := D.size_pos d
   have := D.dR ds
   lia
end L2
namespace L2
open PySem PySem.Spec PyProof.Rows
theorem fH.here {P : Program} {w : World} {H : Hp} {h : Heap} {a : Addr} {o : HO} (x : fH P w H h a o) : ∃ ob,h.get? a = some ob := by
 cases o with
 | lst xs => obtain ⟨_,_,_,_,e⟩ := x; exact ⟨_,e⟩
 | tup xs => obtain ⟨_,_,_,ob,e,_⟩ := x; exact ⟨_,e⟩
 | dK kvs => obtain ⟨_,_,_,_,o,_,_,e,_⟩ := x; exact ⟨_,e⟩
 | dT kvs => obtain ⟨_,_,_,_,o,_,_,e,_⟩ := x; exact ⟨_,e⟩
 | set S n => obtain ⟨o,_,_,_,e,_⟩ := x; exact ⟨_,e⟩
 | ins C dx fs => obtain ⟨_,_,_,e,_⟩ := x; exact ⟨_,e⟩
 | own y => exact x
 | xd fs => obtain ⟨_,⟨_,_,_,e,_⟩,_⟩ := x; exact ⟨_,e⟩
 | rng lo hi => obtain ⟨_,_,_,e⟩ := x; exact ⟨_,e⟩
 | frz ob u => obtain ⟨e,_⟩ := x; exact ⟨_,e⟩
 | tbl ps => exact ⟨_,(show h.get? a = some _ from x)⟩
 | met f y => exact ⟨_,(show h.get? a = some _ from x)⟩
 | ext φ => obtain ⟨_,e,_⟩ := x; exact e
structure Fly (P : Program) (w : World) (B : Heap) (a0 : Value) (l : List Env) (H : Hp) (s : Shared) (C : Value) (e : Addr) (H' : Hp) (s' : Shared) : Prop where
 os : s'.os = s.os
 bare : AllBare s'.gens
 fresh : H' e = none
 fly : Heap.FlyingW B l e C a0 s'.heap
 slots : ∀ b∈frs l,∀ o,s.heap.get? b = some o→∃ sl,s'.heap.get? b = some { o with slots := sl }
 kin : ∀ b o,s.heap.get? b = some o→H b = none→b∉frs l→B.get? b = some o
 trk : ∀ b u,H' b = some u→∃ o,s'.heap.get? b = some o∧B.get? b = some o
 all : ∀ b o,s.heap.get? b = some o→b∉frs l→∃ o',B.get? b = some o'
 free : ∀ b o,s.heap.get? b = some o→H b = none→H' b = none
 tups : ∀ b xs,H b = some (.tup xs)→H' b = some (.tup xs)
 HJ : ∀ b o u,H b = some (.frz o u)→H' b = some (.frz o u)
 JX : ∀ b ps,H b = some (.tbl ps)→∃ more,H' b = some (.tbl (ps ++ more))
 hok : Gu P w H' s'.heap
section
variable {P : Program} {w : World} {B : Heap} {a0 : Value} {l : List Env} {H H' : Hp} {s s' : Shared} {C : Value} {e : Addr} {h' : Heap}
theorem Fly.un (F : Fly P w B a0 l H s C e H' s') : Un (frs l) [] H H' s.heap s'.heap :=
 ⟨fun b o q n hb _ => F.fly.1 b o (F.kin b o q n hb),fun b o q _ hb _ => F.slots b hb o q,fun b o q n _ => F.free b o q n,
  fun b o q _ => by
   by_cases hb : b∈frs l
   ·obtain ⟨sl,z⟩ := F.slots b hb o q
    exact ⟨_,z⟩
   ·obtain ⟨o',z⟩ := F.all b o q hb
    exact ⟨o',F.fly.1 b o' z⟩,F.tups,F.HJ,F.JX⟩
theorem aez (hok : Gu P w H' s'.heap) (k : ∀ b u,H' b = some u→∀ o,s'.heap.get? b = some o→h'.get? b = some o) : Gu P w H' h' := fun a u q =>
 (hok a u q).stay (fun b v hb z => by
   rcases hb with rfl | hb
   ·exact k b u q v z
   ·exact k b _ hb v z) (fun _ z => z) fun _ _ z => z
theorem Fly.move (F : Fly P w B a0 l H s C e H' s') (fl : Heap.FlyingW B l e C a0 h') (up : s'.heap.UpToSlots h') : Fly P w B a0 l H s C e H' { s' with heap := h' } := by
 refine ⟨F.os,F.bare,F.fresh,fl,fun b hb o q => ?_,F.kin,fun b u q => ?_,F.all,F.free,F.tups,F.HJ,F.JX,aez F.hok fun b u q o z => ?_⟩
 ·obtain ⟨sl,z⟩ := F.slots b hb o q
  obtain ⟨_,o2,z2,nf⟩ := F.fly.2.2.1.mem hb
  rw [z] at z2
  cases z2
  obtain ⟨sl2,z3⟩ := up b _ z nf
  exact ⟨sl2,z3⟩
 ·obtain ⟨o,z1,z2⟩ := F.trk b u q
  exact ⟨o,fl.1 b o z2,z2⟩
 ·obtain ⟨o',z1,z2⟩ := F.trk b u q
  rw [z] at z1
  cases z1
  exact fl.1 b o z2
end
section
variable {X : Cx} {pins : List (Addr×Obj)} {σ : St} {H H' : Hp} {s s' : Shared} {B : Heap} {a0 C : Value} {e : Addr} {h' h1 : Heap}
theorem Inv.fly (I : Inv X pins σ H s) (F : Fly X.prog X.w B a0 X.stack H s C e H' s') : Inv X pins σ H' s' :=
 I.call' (ch := []) F.os F.un F.hok F.bare (fun b z => absurd z (by simp))
structure z8 (X : Cx) : Prop where
 st : X.stack = X.env :: X.outer
 fr : X.env.frame = some X.env.locals
 ex : X.ex = []
theorem z8.frs (O : z8 X) : L2.frs X.stack = X.env.locals :: X.fs := by
 rw [O.st]
 show List.filterMap _ (_ :: _) = _
 rw [List.filterMap_cons,O.fr]
 rfl
theorem z8.out (O : z8 X) (I : Inv X pins σ H s) {b : Addr} {o : Obj} (q : X.s₀.heap.get? b = some o) (hb : b∉L2.frs X.outer) : b∉L2.frs X.stack := fun z => by
 rw [O.frs] at z
 rcases List.mem_cons.mp z with z | z
 ·exact absurd (Nat.lt_of_lt_of_le (Heap.lt_size q) I.ok.above) (by rw [z]; exact Nat.lt_irrefl _)
 ·exact hb z
theorem z8.nex (O : z8 X) (b : Addr) : b∉X.ex := by rw [O.ex]; simp
theorem Fly.out (O : z8 X) (I : Inv X pins σ H s) (F : Fly X.prog X.w B a0 X.stack H s C e H' s') (fl : Heap.FlyingW B X.outer e C a0 h') (up : s'.heap.UpToSlots h') :
 Fly X.prog X.w B a0 X.outer X.H₀ X.s₀ C e H' { s' with heap := h' } := by
 have sub : ∀ b∈L2.frs X.outer,b∈L2.frs X.stack := fun b hb => by rw [O.frs]; exact List.mem_cons_of_mem _ hb
 refine ⟨F.os.trans I.os,F.bare,F.fresh,fl,fun b hb o q => ?_,fun b o q n hb => ?_,fun b u q => ?_,fun b o q hb => ?_,fun b o q n => ?_,fun b xs q => F.tups b xs (I.base.tups b xs q),fun b o u q => F.HJ b o u (I.base.HJ b o u q),fun b ps q => ?_,
  aez F.hok fun b u q o z => ?_⟩
 ·obtain ⟨sl,z⟩ := I.base.slot b o q (I.ok.frf b hb) hb (O.nex b)
  obtain ⟨sl1,z1⟩ := F.slots b (sub b hb) _ z
  obtain ⟨_,o2,z2,nf⟩ := F.fly.2.2.1.mem (sub b hb)
  rw [z1] at z2
  cases z2
  obtain ⟨sl2,z3⟩ := up b _ z1 nf
  exact ⟨sl2,z3⟩
 ·exact F.kin b o (I.base.keep b o q n hb (O.nex b)) (I.base.free b o q n (O.nex b)) (O.out I q hb)
 ·obtain ⟨o,z1,z2⟩ := F.trk b u q
  exact ⟨o,fl.1 b o z2,z2⟩
 ·obtain ⟨o',z⟩ := I.base.there b o q (O.nex b)
  exact F.all b o' z (O.out I q hb)
 ·obtain ⟨o',z⟩ := I.base.there b o q (O.nex b)
  exact F.free b o' z (I.base.free b o q n (O.nex b))
 ·obtain ⟨m1,z1⟩ := I.base.JX b ps q
  obtain ⟨m2,z2⟩ := F.JX b _ z1
  exact ⟨m1 ++ m2,by rw [z2,Array.append_assoc]⟩
 ·obtain ⟨o',z1,z2⟩ := F.trk b u q
  rw [z] at z1
  cases z1
  exact fl.1 b o z2
theorem Inv.raised {vs : List Value} {A : Around} {E' : Value→Shared→Prop} {M : Model} (I : Inv X pins σ H s) (O : z8 X) (hx : Heap.MadeExcOf s.heap h1 e C vs) (hfr : A.frames = some (X.env :: X.outer)) :
 wpAny M A (leaving X.env (.ref e)) (fun _ s'' => ∃ B a0,Fly X.prog X.w B a0 X.outer X.H₀ X.s₀ C e H s'') E' { s with heap := h1 } := by
 have frs' : s.heap.FunFrames (PySem.W.hideAll s.heap (L2.frs X.stack)) (X.env :: X.outer) := by
  have q := PySem.W.funFrames_hide (as := L2.frs X.stack) I.stack fun env he b hb => List.mem_filterMap.mpr ⟨env,he,hb⟩
  rw [O.st] at q ⊢
  exact q
 have sub : ∀ b∈L2.frs X.outer,b∈L2.frs X.stack := fun b hb => by rw [O.frs]; exact List.mem_cons_of_mem _ hb
 refine wpAny_leaves_madeW (s := { s with heap := h1 }) (base := PySem.W.hideAll s.heap (L2.frs X.stack)) (h := s.heap) hfr O.fr (fun b o q => PySem.W.of_hideAll _ q) frs' hx fun h' t fl _ _ up => ⟨PySem.W.hideAll s.heap (L2.frs X.stack),.ref t,?_⟩
 have inB : ∀ b u,H b = some u→∃ o,s.heap.get? b = some o∧(PySem.W.hideAll s.heap (L2.frs X.stack)).get? b = some o := fun b u q => by
  obtain ⟨o,z⟩ := (I.hok b u q).here
  exact ⟨o,z,PySem.W.hideAll_get _ z fun hb => by rw [I.abf b hb] at q; cases q⟩
 refine ⟨I.os,I.bare,?_,fl,fun b hb o q => ?_,fun b o q n hb => ?_,fun b u q => ?_,fun b o q hb => ?_,fun b o q n => ?_,fun b xs q => I.base.tups b xs q,fun b o u q => I.base.HJ b o u q,fun b ps q => I.base.JX b ps q,?_⟩
 ·cases q : H e with
  | none => rfl
  | some u =>
    obtain ⟨o,z⟩ := (I.hok e u q).here
    rw [hx.new] at z
    cases z
 ·obtain ⟨sl,z⟩ := I.base.slot b o q (I.ok.frf b hb) hb (O.nex b)
  obtain ⟨_,o2,z2,nf⟩ := I.stack.mem (sub b hb)
  rw [z] at z2
  cases z2
  obtain ⟨sl2,z3⟩ := up b _ (hx.keeps b _ z) nf
  exact ⟨sl2,z3⟩
 ·exact PySem.W.hideAll_get _ (I.base.keep b o q n hb (O.nex b)) (O.out I q hb)
 ·obtain ⟨o,z1,z2⟩ := inB b u q
  exact ⟨o,fl.1 b o z2,z2⟩
 ·obtain ⟨o',z⟩ := I.base.there b o q (O.nex b)
  exact ⟨o',PySem.W.hideAll_get _ z (O.out I q hb)⟩
 ·obtain ⟨o',z⟩ := I.base.there b o q (O.nex b)
  exact I.base.free b o q n (O.nex b)
 ·exact fun a u q => (I.hok a u q).stay (fun b v hb z => by
   have k : ∀ u',H b = some u'→h'.get? b = some v := fun u' q' => by
    obtain ⟨o,z1,z2⟩ := inB b u' q'
    rw [z] at z1
    cases z1
    exact fl.1 b v z2
   rcases hb with rfl | hb
   ·exact k u q
   ·exact k _ hb) (fun _ z => z) fun _ _ z => z
end
def CX1 (P : Program) (w : World) : CXT := fun l H s E e s' => ∃ B a0 C ea H',e = Value.ref ea∧Fly P w B a0 l H s C ea H' s'∧E C none H'
section
variable {P : Program} {w : World} {K : PySem.W.Frag} {mg : Str→Option Value} {base : Heap} {N : List Str} {qual : Str} {scope : Scope} {f : Addr} {cd : Value} {A : Around} {outer : List Env} {s : Shared} {H : Hp} {E : XK}
theorem aps : z8 (du (CX1 P w) P w K mg base N qual scope f cd A outer s H E) := ⟨rfl,rfl,rfl⟩
theorem z9 : Passes (CX1 P w) (du (CX1 P w) P w K mg base N qual scope f cd A outer s H E) E := by
 intro pins σ H1 s1 e s' I h
 obtain ⟨B,a0,C,ea,H',rfl,F,hE⟩ := h
 have fl : Heap.FlyingW B (envOfC qual scope s.heap.objs.size f cd :: outer) ea C a0 s'.heap := F.fly
 refine wpAny_leaves_onW (L := s.heap.objs.size) I.ok.frames rfl fl fun h' fl' up => ?_
 exact ⟨B,a0,C,ea,H',rfl,Fly.out aps I F fl' up,hE⟩
def Raises (X : Cx) (E : XK) : Prop := ∀ (pins : List (Addr×Obj)) (σ : St) (H : Hp) (s : Shared) (h' : Heap) (e C : Addr) (vs : List Value),Inv X pins σ H s→Heap.MadeExcOf s.heap h' e (.ref C) vs→E (.ref C) none H→X.xe (.ref e) { s with heap := h' }
theorem Ka : Raises (du (CX1 P w) P w K mg base N qual scope f cd A outer s H E) E := by
 intro pins σ H1 s1 h' e C vs I hx hE
 refine fY (I.raised aps hx I.ok.frames) fun _ s2 h2 => ?_
 obtain ⟨B,a0,F⟩ := h2
 exact ⟨B,a0,_,e,_,rfl,F,hE⟩
end
structure Exc (K : PySem.W.Frag) (C : Addr) (bm : List Value) : Prop where
 obj : ∀ h : Heap,K.In h→∃ N nm q bs hdct sn sub ab col dd k0 k1 k2 k3 k5 mN,h.get? C = some (excClassObj nm q C N bs bm hdct sn sub ab col dd k0 k1 k2 k3 k5 "ValueError.__new__")∧h.Ns N mN∧mN "__init__" = none∧
  OwnTail h [.type "ValueError",.type "Exception",.type "BaseException",.type "object"] bm
def mroIn (K : PySem.W.Frag) (C : Addr) : Option (List Value) := match K.lookup C with
 | some ⟨_,_,.cls cd,_⟩ => some cd.mro
 | _ => none
theorem Oo {K : PySem.W.Frag} {C : Addr} {bm : List Value} (q : PySem.W.excIn K C [.type "ValueError",.type "Exception",.type "BaseException",.type "object"] "ValueError.__new__" = true) (m : mroIn K C = some (.ref C :: bm)) : Exc K C bm := by
 refine ⟨fun h X => ?_⟩
 unfold PySem.W.excIn at q
 unfold mroIn at m
 split at q
 ·rename_i dd cd sl ho
  rw [ho] at m
  split at q
  ·rename_i C' bm' k0 k1 k2 k3 n k5 hm hs
   simp only [Bool.and_eq_true,beq_iff_eq,Bool.not_eq_true'] at q
   obtain ⟨⟨⟨⟨⟨rfl,rfl⟩,hdel⟩,ht⟩,hok⟩,hni⟩ := q
   obtain ⟨nm,bs,mro,ns,qn,hd,sn,sub,ab,col,del⟩ := cd
   dsimp only at hm hdel hok hni m
   subst hm hdel
   have e : bm' = bm := by
    injection m with m
    injection m with m1 m2
   subst e
   have hsl : sl = #[k0,k1,k2,k3,some (.builtin "ValueError.__new__"),k5] := by
    obtain ⟨l⟩ := sl
    simp only at hs
    rw [hs]
   subst hsl
   exact ⟨ns,nm,qn,bs,hd,sn,sub,ab,col,dd,k0,k1,k2,k3,k5,_,X _ _ ho,.of_isNs (PySem.W.isNs_of_in X hok),PySem.W.nsMap_none_of_in X hok hni,PySem.W.tail_of_in X ht⟩
  ·cases q
 ·cases q
theorem Exc.base {K : PySem.W.Frag} {C : Addr} {bm : List Value} (O : Exc K C bm) {h : Heap} (X : K.In h) : bm.contains (.type "BaseException") = true := by
 obtain ⟨_,_,_,_,_,_,_,_,_,_,_,_,_,_,_,_,_,_,_,T⟩ := O.obj h X
 exact T.hasType (by decide +kernel)
def aqt (C : Value) (E : XK) (t : TA) : TS := fun _ σ H => t σ H fun vs H1 => vs.length≤sizeLine∧E C none H1
section
variable {X : Cx} {C : Addr} {bm : List Value} {x : Str} {np cpos pos : Pos} {e₀ : Expr} {rest : List Expr} {t : TA} {E : XK}
theorem Df (O : Exc X.K C bm) (hg : Gl X x) (hm : X.mg x = some (.ref C)) (hc : X.calm = true) (hr : Raises X E) (ha : PA X (e₀ :: rest) t)
 (he : starEach (e₀ :: rest) X.env = (false,eval e₀ X.env) :: starEach rest X.env := by rfl) (hpl : (backTo cpos (starEach rest X.env)).any (·.1) = false := by rfl) (hdb : (x == ("__debug__" : Str)) = false := by decide) :
 PS X (.Raise (some (.Call (.Name x np) (e₀ :: rest) [] cpos)) none pos) (aqt (.ref C) E t) := by
 intro pins s σ H D I h
 obtain ⟨N,nm,q,bs,hdct,sn,sub,ab,col,dd,k0,k1,k2,k3,k5,mN,hC,hN,hni,T⟩ := O.obj _ I.ok.mod.kin
 have FB := PySem.F.excBase_ValueError
 refine wpAny_Raise_call_subU (C := C) (nm := nm) (q := q) (N := N) (bs := bs) (bm := bm) (hdct := hdct) (sn := sn) (sub := sub) (ab := ab) (col := col) (dd := dd) (k0 := k0) (k1 := k1) (k2 := k2) (k3 := k3) (k5 := k5)
  FB (by decide +kernel) FB (mN := mN) (T.hasType FB.hasBase) (I.ok.hd hc) (by rw [he]; show (false || (backTo cpos (starEach rest X.env)).any (·.1)) = false; rw [hpl]; rfl) hni (yq I hg hm ⟨rfl,?_⟩ hdb)
 have q1 := ha cpos pins s σ H _ I h
 rw [he] at q1 ⊢
 refine Calls.evalArgs_plain (fY q1 fun us s2 h2 => ?_)
 obtain ⟨vs,H2,I2,rv,hz,hE⟩ := h2
 exact ⟨rfl,by rw [← rv.length]; exact hz,I2.bk _ _ hC,hN.keeps I2.bk,T.keeps I2.bk,fun h' e hx => hr pins σ H2 s2 h' e C us I2 hx hE⟩
end
end L2
namespace L2
open PySem PySem.Spec PyProof.Rows
section
variable {M : Model} {A : Around} {E : Value→Shared→Prop}
theorem Vw {s : Shared} {C C' : Addr} {bm bm' : List Value} {K : PySem.W.Frag} (X : K.In s.heap) (O : Exc K C bm) (O' : Exc K C' bm') {e : Addr} {oe : Obj} {Q : Bool→Shared→Prop} (he : s.heap.get? e = some oe) (hcls : oe.cls = .ref C)
 (hq : Q ((Value.ref C :: bm).contains (.ref C')) s) : wpAny M A (excMatches (.ref e) (.ref C')) Q E s := by
 have hb := O'.base X
 obtain ⟨N,nm,q,bs,hdct,sn,sub,ab,col,dd,k0,k1,k2,k3,k5,mN,hC,_⟩ := O.obj _ X
 obtain ⟨N',nm',q',bs',ayR,sn',az8,ab',az9,dd',k0',k1',k2',k3',k5',mN',hC',_⟩ := O'.obj _ X
 obtain ⟨h,g,d,t,os⟩ := s
 dsimp only at he hC hC'
 have hcB : (Value.ref C' :: bm').contains (.type "BaseException") = true := by rw [List.contains_cons,hb,Bool.or_true]
 have f := tc_notTuple
 generalize hcc : (Value.ref C :: bm).contains (.ref C') = b at hq
 unfold excMatches
 repeat (first | (with_reducible refine wpAny_loadPart_at he ?_; rw [hcls]) | with_reducible refine wpAny_loadPart_at hC' ?_ | (with_reducible refine wpAny_isSubtype_exc hC' ?_; rw [hcB]) | (with_reducible refine wpAny_isSubtype_exc hC ?_; rw [hcc]) | wp_step)
 cases b <;> (wp_walk; exact hq)
end
def YK (X : Cx) (pl : List (Addr×Obj)) (R : St→Value→Hp→Prop) : Cx :=
 ({ X with pn := X.pn ++ pl } : Cx).wish fun e s' => ∃ pins σ H s,Inv ({ X with pn := X.pn ++ pl } : Cx) pins σ H s∧CX1 X.prog X.w X.stack H s (fun C _ H' => R σ C H') e s'
def aeA (X : Cx) (e : Addr) : Cx := { X with A := X.A.mark (some (.ref e)),calm := false,xe := fun _ _ => False }
section
variable {X : Cx} {pins pl : List (Addr×Obj)} {σ : St} {H H' : Hp} {s s' : Shared} {R : St→Value→Hp→Prop} {e : Addr} {D : Ends} {f : Flow}
theorem Inv.axd (I : Inv X pl σ H s) : Inv ({ X with pn := X.pn ++ pl } : Cx) [] σ H s :=
 ⟨⟨I.ok.mod,I.ok.kind,I.ok.glob,I.ok.blt,I.ok.above,I.ok.inj,I.ok.has,I.ok.cab,I.ok.hd,I.ok.frames,I.ok.stk,I.ok.exf,I.ok.bs,I.ok.bsz,I.ok.aef,I.ok.agv,I.ok.HN,I.ok.frf⟩,I.os,I.bare,I.base,I.loc,I.cell,I.free,I.uq,
  fun p hp => I.pin p (by rw [List.append_nil] at hp; exact hp),I.hok,I.len⟩
theorem Inv.atZ (I : Inv ({ X with pn := X.pn ++ pl } : Cx) pins σ H s) : Inv X pl σ H s :=
 ⟨⟨I.ok.mod,I.ok.kind,I.ok.glob,I.ok.blt,I.ok.above,I.ok.inj,I.ok.has,I.ok.cab,I.ok.hd,I.ok.frames,I.ok.stk,I.ok.exf,I.ok.bs,I.ok.bsz,I.ok.aef,I.ok.agv,I.ok.HN,I.ok.frf⟩,I.os,I.bare,I.base,I.loc,I.cell,I.free,I.uq,
  fun p hp => I.pin p (List.mem_append_left _ hp),I.hok,I.len⟩
theorem Inv.at3 (I : Inv X pl σ H s) : Inv (YK X pl R) [] σ H s := I.axd.wish _
theorem Inv.Kc (I : Inv (YK X pl R) pins σ H s) : Inv X pl σ H s := (Inv.vG I).atZ
theorem SP.Kc (h : SP (YK X pl R) pins D f s') : SP X pl D f s' := by
 cases f with
 | next => obtain ⟨σ',H',I,q⟩ := h; exact ⟨σ',H',I.Kc,q⟩
 | brk => obtain ⟨σ',H',I,q⟩ := h; exact ⟨σ',H',I.Kc,q⟩
 | cont => obtain ⟨σ',H',I,q⟩ := h; exact ⟨σ',H',I.Kc,q⟩
 | ret u => obtain ⟨v,σ',H',I,r,q⟩ := h; exact ⟨v,σ',H',I.Kc,r,q⟩
theorem Inv.aeA (I : Inv X pins σ H s) (e : Addr) : Inv (L2.aeA X e) pins σ H s :=
 ⟨⟨I.ok.mod,I.ok.kind,I.ok.glob,I.ok.blt,I.ok.above,I.ok.inj,I.ok.has,I.ok.cab,fun z => (nomatch (show false = true from z)),I.ok.frames,I.ok.stk,I.ok.exf,I.ok.bs,I.ok.bsz,I.ok.aef,I.ok.agv,I.ok.HN,I.ok.frf⟩,I.os,I.bare,I.base,I.loc,I.cell,I.free,I.uq,
  I.pin,I.hok,I.len⟩
theorem Inv.Oq {X : Cx} (ok : X.Ok) (I : Inv (L2.aeA X e) pins σ H s) : Inv X pins σ H s :=
 ⟨ok,I.os,I.bare,I.base,I.loc,I.cell,I.free,I.uq,I.pin,I.hok,I.len⟩
theorem SP.Oq (ok : X.Ok) (h : SP (aeA X e) pins D f s') : SP X pins D f s' := by
 cases f with
 | next => obtain ⟨σ',H',I,q⟩ := h; exact ⟨σ',H',I.Oq ok,q⟩
 | brk => obtain ⟨σ',H',I,q⟩ := h; exact ⟨σ',H',I.Oq ok,q⟩
 | cont => obtain ⟨σ',H',I,q⟩ := h; exact ⟨σ',H',I.Oq ok,q⟩
 | ret u => obtain ⟨v,σ',H',I,r,q⟩ := h; exact ⟨v,σ',H',I.Oq ok,r,q⟩
end
def PH (X : Cx) (hs : List ExceptHandler) (th : Value→TS) : Prop :=
 ∀ (pins : List (Addr×Obj)) (σ : St) (H : Hp) (s : Shared) (B : Heap) (a0 C : Value) (e : Addr) (H' : Hp) (s' : Shared) (D : Ends),Inv X pins σ H s→Fly X.prog X.w B a0 X.stack H s C e H' s'→th C D σ H'→
  wpAny (model X.prog X.w) X.A (handleBy (.ref e) X.env hs) (SP X pins D) X.xe s'
def axe (tb : (St→Value→Hp→Prop)→TS) (th : Value→TS) : TS := fun D σ H => tb (fun σ' C H' => th C D σ' H') D σ H
def at4 (K : PySem.W.Frag) (C' : Addr) (ts : TS) (tr : Value→TS) : Value→TS := fun C D σ H => ∃ c bm,C = Value.ref c∧Exc K c bm∧if (Value.ref c :: bm).contains (.ref C') = true then ts D σ H else tr C D σ H
section
variable {X : Cx} {body suite : List Stmt} {b₀ : Stmt} {h₀ : ExceptHandler} {hs rest : List ExceptHandler} {tb : (St→Value→Hp→Prop)→TS} {th tr : Value→TS} {ts : TS} {pos np : Pos} {x n : Str} {C' : Addr} {bm' : List Value}
theorem aqu : PH X [] (fun _ => ap7) := fun _ _ _ _ _ _ _ _ _ _ _ _ _ h => h.elim
theorem aqv (O : z8 X) (hb : ∀ pl R,PSs (YK X pl R) body (tb R)) (hh : PH X (h₀ :: hs) th) : PS X (.Try body (h₀ :: hs) [] [] pos) (axe tb th) := by
 intro pins s σ H D I h
 refine wpAny_Try_except (wpAny_mono (hb pins _ [] s σ H D I.at3 h) (fun f s1 h1 => ?_) fun e s1 h1 => ?_)
 ·cases f with
  | next => exact wpAny_execs_nil (SP.Kc h1)
  | brk => exact SP.Kc h1
  | cont => exact SP.Kc h1
  | ret u => exact SP.Kc h1
 ·obtain ⟨akg,σ',H1,s2,I2,B,a0,C,ea,H',rfl,F,q⟩ := h1
  have I2' : Inv X pins σ' H1 s2 := I2.atZ
  have fr : X.A.frames = some (X.env :: X.outer) := by rw [← O.st]; exact I2'.ok.frames
  have fl : Heap.FlyingW B (X.env :: X.outer) ea C a0 s1.heap := by rw [← O.st]; exact F.fly
  refine wpAny_looks_onW (L := X.env.locals) fr O.fr fl fun h2 held up2 => ?_
  refine wpAny_landsW held fun h3 fl3 up3 => ?_
  have F3 : Fly X.prog X.w B a0 X.stack H1 s2 C ea H' { s1 with heap := h3 } := F.move (by rw [O.st]; exact fl3) (up2.trans up3)
  exact hh pins σ' H1 s2 B a0 C ea H' _ D I2' F3 q
theorem Vx (O : z8 X) (hg : Gl X x) (hm : X.mg x = some (.ref C')) (O' : Exc X.K C' bm') (hsu : ∀ e,PSs (aeA X e) (b₀ :: suite) ts) (hr : PH X rest tr) (hdb : (x == ("__debug__" : Str)) = false := by decide) :
 PH X (.ExceptHandler (some (.Name x np)) none (b₀ :: suite) pos :: rest) (at4 X.K C' ts tr) := by
 intro pins σ H s B a0 C e H' s' D I F h
 obtain ⟨c,bm,rfl,Oc,q⟩ := h
 have I' := I.fly F
 obtain ⟨ob,hob,hcls⟩ := F.fly.there
 refine wpAny_handleBy_cons (codeAny_handlers_test (yq (X := aeA X e) (I'.aeA e) hg hm ?_ hdb)) (by intro z; cases z)
 refine Vw I'.wF Oc O' hob hcls ?_
 cases hb : (Value.ref c :: bm).contains (.ref C') with
 | false =>
   rw [hb,if_neg Bool.false_ne_true] at q
   exact hr pins σ H s B a0 _ e H' s' D I F q
 | true =>
   rw [hb,if_pos rfl] at q
   refine codeAny_handlers_suite ?_
   refine lands_againW F.fly fun h3 fl3 up3 => ?_
   have I3 := I.fly (F.move fl3 up3)
   refine wpAny_mono (hsu e pins _ σ H' D (I3.aeA e) q) (fun f s4 h4 => ?_) fun _ _ z => z.elim
   exact SP.Oq I.ok h4
end
def aqw (C : Addr) (m : Str) (sp : Sp) (R : St→Value→Hp→Prop) (ta : TE) (t : TA) : TE := fun σ H Q => ta σ H fun x H1 => ∃ a dx fs,x = .ref a∧H1 a = some (.ins C dx fs)∧fs.lookup m = none∧
 t σ H1 fun vs H2 => sp (x :: vs) H2 Q fun C _ H' => R σ C H'
section
variable {X : Cx} {pl : List (Addr×Obj)} {R : St→Value→Hp→Prop} {k : Nat} {f C : Addr} {fd : FuncData} {ps : List Str} {sp : Sp} {x m : Str} {p pos apos : Pos} {e o : Expr} {es : List Expr} {ta : TE} {t : TA}
theorem amZ {pins : List (Addr×Obj)} {σ : St} {H : Hp} {s : Shared} {Q : VK} {us : List Value} {vs : List V} (F : cZ X.prog X.w X.K X.mg X.base (CX1 X.prog X.w) k f fd ps sp) (hr : bR k X.A) (hb : Binds X.K fd ps [])
 (I : Inv (YK X pl R) pins σ H s) (r : Vals vs us) (h : sp vs H Q fun C _ H' => R σ C H') : wpAny (model X.prog X.w) X.A (call (.ref f) us) (EP (YK X pl R) pins σ Q) (YK X pl R).xe s := by
 have hl : us.length = ps.length := by rw [← r.length]; exact F.len _ _ _ _ h
 have hb' := hb s us I.wF (by rw [List.append_nil]; exact hl)
 rw [List.append_nil] at hb'
 refine wpAny_call (codeAny_mono (F.run X.A X.stack s H ⟨us,[]⟩ us vs Q _ hr I.env0 hb' r h) fun r s' hq => ?_)
 cases r with
 | error e => exact ⟨pins,σ,H,s,I.vG,hq⟩
 | ok fl =>
   cases fl with
   | ret u => exact I.after hq
   | next => exact False.elim hq
   | brk => exact False.elim hq
   | cont => exact False.elim hq
theorem akF {pl' : Sem Bool} (he : PE (YK X pl R) o ta) (c : Cls X.K C) (hm : Meth X.K C m f) (F : cZ X.prog X.w X.K X.mg X.base (CX1 X.prog X.w) k f fd ps sp) (hr : bR k X.A) (hb : Binds X.K fd ps []) (ha : PA (YK X pl R) (e :: es) t)
 (hst : starEach (e :: es) X.env = (false,eval e X.env) :: starEach es X.env := by rfl) (hpl : (backTo pos (starEach es X.env)).any (·.1) = false := by rfl)
 (ht : eval (.Call (.Attribute o m apos) (e :: es) [] pos) X.env = (do
   let ov ← eval o X.env
   standAt apos.atName
   let (f,first) ← holding [ov] (getMethod ov m pl')
   callWith pos f first (backTo pos (starEach (e :: es) X.env)) (backToKw pos (keywordEach [] X.env))) := by rfl) :
 PE (YK X pl R) (.Call (.Attribute o m apos) (e :: es) [] pos) (aqw C m sp R ta t) := by
 intro pins s σ H Q I h
 refine PySem.W.methodCall_KW (pl := pl') (fY (he pins s σ H _ I h) fun u s1 hz => jW hz fun x H1 I1 rx ⟨a,dx,fs,ex,ea,l,q⟩ => ?_) ht
 subst ex
 obtain rfl : u = Value.ref a := rx
 refine HX I1 ea c hm l ?_
 refine PySem.W.callWith_K (first := [.ref a]) (h₀ := X.base) I.ok.mod.kin hm.kp (fY (ha pos pins s1 σ H1 _ I1 q) fun us s2 hz => jW hz fun vs H2 I2 r q2 => ⟨I2.wF,?_⟩) hst hpl
 exact amZ (us := .ref a :: us) (vs := .ref a :: vs) F hr hb I2 (.cons rfl r) q2
end
section
variable {P : Program} {w : World} {K : PySem.W.Frag} {mg : Str→Option Value} {base : Heap}
theorem jF.okX {x qual : Str} {st : Stmt} {f : Addr} {fd : FuncData} {N ps : List Str} {k : Nat} {sp : Sp} (F : jF K x qual st f fd) (S : bz N ps (aN st)) (len : ∀ vs H Q E,sp vs H Q E→vs.length = ps.length)
 (hbody : ∀ (cdv : Value) (A : Around) (outer : List Env) (s : Shared) (H : Hp) (vs : List V) (Q : VK) (E : XK),bR k (A.deeper (envOfC qual (aN st) s.heap.objs.size f cdv))→sp vs H Q E→
   ∃ t,PSs (du (CX1 P w) P w K mg base N qual (aN st) f cdv A outer s H E) (yx st) t∧t { nx := fun _ H' => Q .non H',rt := Q } (start N vs) H) : cZ P w K mg base (CX1 P w) (k + 1) f fd ps sp := by
 obtain ⟨oc,od,kV,doc,pm,an,cdv,ct,osl,rfl,lk,hcd⟩ := F.ex
 exact apn lk hcd S len fun A outer s H vs Q E hr hsp => hbody cdv A outer s H vs Q E hr hsp
theorem Ot {CX : CXT} {N : List Str} {qual : Str} {scope : Scope} {f : Addr} {cd : Value} {A : Around} {outer : List Env} {s : Shared} {H : Hp} {E : XK} : z8 (du CX P w K mg base N qual scope f cd A outer s H E).j6 := ⟨rfl,rfl,rfl⟩
end
end L2
namespace L2
open PySem PySem.Spec PyProof.Rows
theorem aeB {prog : Program} {w : World} {A : Around} {R : Result→Shared→Prop} {s : Shared} {elt target iter : Expr} {ifs : List Expr} {scope : Scope} {pos : Pos} {it acc : Value} {env : Env} (I : Nat→Shared→Prop)
 (turn : ∀ n s,I n s→wpAny (model prog w) A (pyNext it) (fun r s₁ => match r with
   | none => R (.ok .next) s₁
   | some v => wpAny (model prog w) A (letOwnedTupleGo target it v) (fun _ s₁' => wpAny (model prog w) A (assign target env v) (fun _ s₂ =>
      wpAny (model prog w) A (forIn ifs true fun c r => if r = true then do let ok ← isTrue c env (eval c env); pure (ForInStep.yield ok) else pure (ForInStep.yield r)) (fun ok s₃ =>
       if ok = true then wpAny (model prog w) A (eval elt env) (fun x s₄ =>
        wpAny (model prog w) A (call (.builtin "list.append") [acc,x]) (fun _ s₅ => ∃ m,m < n∧I m s₅) (fun _ _ => False) s₄) (fun _ _ => False) s₃
       else ∃ m,m < n∧I m s₃) (fun _ _ => False) s₂) (fun _ _ => False) s₁') (fun _ _ => False) s₁) (fun _ _ => False) s)
 (n : Nat) (h : I n s) : codeAny (model prog w) A (.compLoop (.ListComp elt [⟨target,iter,ifs,0⟩] scope pos) 0 it acc env) R s := by
 refine codeAny_loop rfl I (fun n s hI => ?_) n h
 show wpAny _ A ((compTurn (.ListComp elt [⟨target,iter,ifs,0⟩] scope pos) 0 it acc env).onRaise (fun x => do noteFrame x env; theTreesLotGoes x)) _ _ s
 refine wpAny_noted ?_
 rw [compTurn_list]
 refine wpAny_bind (wpAny_standAt (wpAny_bind (wpAny_mono (turn n s hI) (fun r s₁ h₁ => ?_) fun _ _ h' => h'.elim)))
 cases r with
 | none => exact wpAny_pure h₁
 | some v =>
   refine wpAny_bind (wpAny_mono h₁ (fun _ s₁' h₁' => ?_) fun _ _ h' => h'.elim)
   refine wpAny_bind (wpAny_mono h₁' (fun _ s₂ h₂ => wpAny_bind (wpAny_mono h₂ (fun ok s₃ h₃ => ?_) fun _ _ h' => h'.elim)) fun _ _ h' => h'.elim)
   cases ok with
   | false => exact wpAny_pure ⟨rfl,h₃⟩
   | true =>
     exact wpAny_bind (wpAny_bind (wpAny_mono h₃ (fun x s₄ h₄ => wpAny_bind (wpAny_mono h₄ (fun _ s₅ h₅ => wpAny_pure (wpAny_pure ⟨rfl,h₅⟩)) fun _ _ h' => h'.elim)) fun _ _ h' => h'.elim))
def RP (env : Env) (ys : List Str) : List (Str×Addr) := ys.filterMap fun y => (env.cells.lookup y).map fun c => (y,c)
theorem gP {env : Env} : ∀ {ys : List Str} {x : Str} {c : Addr},(RP env ys).lookup x = some c→x∈ys∧env.cells.lookup x = some c
 | [],_,_,h => by simp [RP] at h
 | y :: ys,x,c,h => by
   unfold RP at h
   rw [List.filterMap_cons] at h
   cases e : env.cells.lookup y with
   | none =>
     rw [e] at h
     obtain ⟨h1,h2⟩ := gP (ys := ys) (x := x) (c := c) h
     exact ⟨List.mem_cons_of_mem _ h1,h2⟩
   | some d =>
     rw [e] at h
     change List.lookup x ((y,d) :: RP env ys) = some c at h
     rw [List.lookup_cons] at h
     cases hx : x == y with
     | true =>
       rw [hx] at h
       cases h
       have q : x = y := by simpa using hx
       subst q
       exact ⟨List.mem_cons_self,e⟩
     | false =>
       rw [hx] at h
       obtain ⟨h1,h2⟩ := gP (ys := ys) (x := x) (c := c) h
       exact ⟨List.mem_cons_of_mem _ h1,h2⟩
theorem Vy {env : Env} : ∀ {ys : List Str} {x : Str} {c : Addr},x∈ys→env.cells.lookup x = some c→(RP env ys).lookup x = some c
 | [],_,_,h,_ => by simp at h
 | y :: ys,x,c,h,e => by
   unfold RP
   rw [List.filterMap_cons]
   by_cases q : x = y
   ·subst q
    rw [e]
    show List.lookup x ((x,c) :: _) = some c
    rw [List.lookup_cons]
    simp
   ·have h' : x∈ys := (List.mem_cons.mp h).resolve_left q
    have ih := Vy (env := env) h' e
    cases e' : env.cells.lookup y with
    | none => exact ih
    | some d =>
      show List.lookup x ((y,d) :: RP env ys) = some c
      rw [List.lookup_cons]
      have : (x == y) = false := by simpa using q
      rw [this]
      exact ih
def yC (X : Cx) : List Str→List Nat→Prop
 | [],[] => True
 | y :: ys,j :: js => (X.N[j]? = some y∧(X.env.kindOf y = some .cell∨X.env.kindOf y = some .free))∧yC X ys js
 | _,_ => False
def pick (σ : St) (js : List Nat) : St := js.map fun j => (σ[j]?).getD none
structure wK (X : Cx) (scope : Scope) (xs ys : List Str) (js : List Nat) : Prop where
 kind : scope.kind = .function
 names : ∀ p∈scope.names,(p.2 = .local∧scope.names.lookup p.1 = some .local)∨(p.2 = .free∧p.1∈ys∧scope.names.lookup p.1 = some .free)∨(p.2 = .globalImplicit∧scope.names.lookup p.1 = some .globalImplicit)
 own : ∀ x∈xs,scope.names.lookup x = some .local
 frees : ∀ y∈ys,scope.names.lookup y = some .free
 clos : closureFor scope X.env = pure (RP X.env ys)
 fr : yC X ys js
def blk (X : Cx) (scope : Scope) (xs ys : List Str) (C : Addr) (s₀ : Shared) (H₀ : Hp) (fp : List Addr) (pl : List (Addr×Obj)) : Cx :=
 { X with N := xs ++ ys,s₀ := s₀,H₀ := H₀,env := compEnvC scope (RP X.env ys) C X.env,outer := X.stack,ex := fp,fn := fun y => xs.contains y,pn := X.pn ++ pl,xe := fun _ _ => False }
def at5 (X : Cx) (pins : List (Addr×Obj)) (H : Hp) (C : Addr) : Prop :=
 H C = none∧C≠X.env.locals∧X.s₀.heap.objs.size≤C∧(∀ x c,X.env.cells.lookup x = some c→c≠C)∧∀ p∈X.pn ++ pins,p.1≠C
theorem Inv.let_go {X : Cx} {pins : List (Addr×Obj)} {σ : St} {H : Hp} {s : Shared} {C : Addr} {h' : Heap} (I : Inv X pins σ H s) (j : at5 X pins H C) (hs : Heap.SameBut C s.heap h') : Inv X pins σ H { s with heap := h' } :=
 I.turned (t' := s.toks) (fun b _ hb e => (hs.2 b hb).trans e) j.1 j.2.1 (.inr j.2.2.1) j.2.2.2.1 j.2.2.2.2
def Dg (J : It) (g : TG) (tc : TT) (te : TE) (σ : St) (acc : Addr) (H1 : Hp) (Q : VK) : Prop :=
 ∃ W : Nat→Nat→List V→St→Hp→Prop,(∃ m,W 0 m [] σ (upd H1 acc (.lst [])))∧∀ i m zs σ H2,W i m zs σ H2→H2 acc = some (.lst zs)∧
  ((J.stop i H2∧Q (.ref acc) H2)∨(J.go i H2∧∀ y H3,J.yld i H2 y H3→g y σ H3 fun σ4 H4 => tc σ4 H4 fun b H5 => if b = true then te σ4 H5 fun z H6 => H6 acc = some (.lst zs)∧zs.length < sizeLine∧∃ m',m' < m∧W (i + 1) m' (zs ++ [z]) σ4 (upd H6 acc (.lst (zs ++ [z])))
    else ∃ m',m' < m∧W (i + 1) m' zs σ4 H5))
def apt (wi : TI) (n : Nat) (js : List Nat) (g : TG) (tc : TT) (te : TE) : TE := fun σ H Q => wi σ H fun J H1 => ∀ acc,H1 acc = none→Dg J g tc te (List.replicate n none ++ pick σ js) acc H1 Q
def akH (X : Cx) (ifs : List Expr) (tc : TT) : Prop :=
 ∀ (pins : List (Addr×Obj)) (s : Shared) (σ : St) (H : Hp) (Q : Bool→Hp→Prop),Inv X pins σ H s→tc σ H Q→
  wpAny (model X.prog X.w) X.A (forIn ifs true fun c r => if r = true then do let ok ← isTrue c X.env (eval c X.env); pure (ForInStep.yield ok) else pure (ForInStep.yield r)) (TP X pins σ Q) X.xe s
def ajj : TT := fun _ H Q => Q true H
theorem lW {X : Cx} : akH X [] ajj := fun _ _ _ H _ I h => wpAny_tests_nil ⟨H,I,h⟩
theorem aie {X : Cx} {c : Expr} {tc : TT} (h : PT X c tc) : akH X [c] tc := fun pins s σ H Q I q => wpAny_tests_one (h pins s σ H Q I q)
section
variable {X : Cx} {scope : Scope} {xs ys : List Str} {js : List Nat} {elt target iter : Expr} {ifs : List Expr} {pos px : Pos} {wi : TI} {g : TG} {tc : TT} {te : TE}
theorem yC.get : ∀ {ys : List Str} {js : List Nat} {i : Nat} {y : Str},yC X ys js→ys[i]? = some y→∃ j,js[i]? = some j∧X.N[j]? = some y∧(X.env.kindOf y = some .cell∨X.env.kindOf y = some .free)
 | [],_,_,_,_,h => by simp at h
 | _ :: _,[],_,_,f,_ => f.elim
 | y' :: ys,j :: js,0,y,f,h => by
   have e : y' = y := by simpa using h
   subst e
   exact ⟨j,rfl,f.1⟩
 | y' :: ys,j :: js,i + 1,y,f,h => by
   obtain ⟨j',h1,h2⟩ := yC.get (i := i) (y := y) f.2 (by simpa using h)
   exact ⟨j',by simpa using h1,h2⟩
theorem yC.len : ∀ {ys : List Str} {js : List Nat},yC X ys js→ys.length = js.length
 | [],[],_ => rfl
 | [],_ :: _,f => f.elim
 | _ :: _,[],f => f.elim
 | _ :: ys,_ :: js,f => by simp [yC.len f.2]
theorem qG {env : Env} : ∀ {names : List (Str×NameKind)} {x : Str},names.lookup x = some .free→
 (names.map fun (n,k) => if (k == NameKind.free && env.scope.kind == .function && env.kindOf n == some .cell) then (n,NameKind.cell) else (n,k)).lookup x = some .cell∨
 (names.map fun (n,k) => if (k == NameKind.free && env.scope.kind == .function && env.kindOf n == some .cell) then (n,NameKind.cell) else (n,k)).lookup x = some .free
 | [],_,h => by simp at h
 | (n,k) :: r,x,h => by
   have ih := @qG env r x
   show List.lookup x ((if (k == NameKind.free && env.scope.kind == .function && env.kindOf n == some .cell) = true then (n,NameKind.cell) else (n,k)) :: _) = _∨List.lookup x ((if (k == NameKind.free && env.scope.kind == .function && env.kindOf n == some .cell) = true then (n,NameKind.cell) else (n,k)) :: _) = _
   cases hx : x == n with
   | true =>
     simp only [List.lookup_cons,hx] at h
     cases h
     by_cases hc : (NameKind.free == NameKind.free && env.scope.kind == .function && env.kindOf n == some .cell) = true
     ·rw [if_pos hc]; left; simp [List.lookup_cons,hx]
     ·rw [if_neg hc]; right; simp [List.lookup_cons,hx]
   | false =>
     simp only [List.lookup_cons,hx] at h
     by_cases hc : (k == NameKind.free && env.scope.kind == .function && env.kindOf n == some .cell) = true
     ·rw [if_pos hc]; simp only [List.lookup_cons,hx]; exact ih h
     ·rw [if_neg hc]; simp only [List.lookup_cons,hx]; exact ih h
theorem Dh {env : Env} : ∀ {names : List (Str×NameKind)} {x : Str} {k : NameKind},(names.map fun (n,k) => if (k == NameKind.free && env.scope.kind == .function && env.kindOf n == some .cell) then (n,NameKind.cell) else (n,k)).lookup x = some k→
 ∃ p∈names,p.1 = x∧(p.2 = k∨(p.2 = .free∧k = .cell))
 | [],_,_,h => by simp at h
 | (n,k') :: r,x,k,h => by
   have h : List.lookup x ((if (k' == NameKind.free && env.scope.kind == .function && env.kindOf n == some .cell) = true then (n,NameKind.cell) else (n,k')) :: _) = some k := h
   have ih := @Dh env r x k
   by_cases hc : (k' == NameKind.free && env.scope.kind == .function && env.kindOf n == some .cell) = true
   ·rw [if_pos hc,List.lookup_cons] at h
    cases hx : x == n with
    | true =>
      rw [hx] at h
      cases h
      refine ⟨(n,k'),List.mem_cons_self,(by simpa using hx : x = n).symm,Or.inr ⟨?_,rfl⟩⟩
      rw [Bool.and_eq_true,Bool.and_eq_true] at hc
      simpa using hc.1.1
    | false =>
      rw [hx] at h
      obtain ⟨p,h1,h2⟩ := ih h
      exact ⟨p,List.mem_cons_of_mem _ h1,h2⟩
   ·rw [if_neg hc,List.lookup_cons] at h
    cases hx : x == n with
    | true =>
      rw [hx] at h
      cases h
      exact ⟨(n,k'),List.mem_cons_self,(by simpa using hx : x = n).symm,Or.inl rfl⟩
    | false =>
      rw [hx] at h
      obtain ⟨p,h1,h2⟩ := ih h
      exact ⟨p,List.mem_cons_of_mem _ h1,h2⟩
theorem ajk {pins : List (Addr×Obj)} {σ : St} {H : Hp} {s : Shared} {h' : Heap} {fp : List Addr} {tk : Nat} (S : wK X scope xs ys js) (I : Inv X pins σ H s) (hf : ∀ b∈fp,J0 X pins H b) (hfl : ∀ b∈fp,b < s.heap.objs.size)
 (hn : h'.Ns s.heap.objs.size fun _ => none) (k : ∀ b o,s.heap.get? b = some o→h'.get? b = some o) :
 Inv (blk X scope xs ys s.heap.objs.size s H fp pins) [] (List.replicate xs.length none ++ pick σ js) H { s with heap := h',toks := tk } := by
 have hfr : ∀ a,s.heap.objs.size≤a→H a = none := fun a ha => I.hok.fresh ha
 have fpS : ∀ b∈fp,b∉L2.frs X.stack := fun b hb z => by
  rcases List.mem_cons.mp (I.Vf b z) with e | e
  ·exact (hf b hb).2.1 e
  ·exact (hf b hb).2.2.1 e
 have axh : ∀ x,((relabel scope X.env).names.lookup x = some .cell∨(relabel scope X.env).names.lookup x = some .free)→x∈ys := fun x hx => by
  rcases hx with z | z
  ·obtain ⟨p,hp,e,z⟩ := Dh z
   rcases S.names p hp with ⟨h1,_⟩ | ⟨_,h2,_⟩ | ⟨h1,_⟩
   ·rcases z with z | z
    ·rw [h1] at z; cases z
    ·rw [h1] at z; cases z.1
   ·rw [← e]; exact h2
   ·rcases z with z | z
    ·rw [h1] at z; cases z
    ·rw [h1] at z; cases z.1
  ·obtain ⟨p,hp,e,z⟩ := Dh z
   rcases S.names p hp with ⟨h1,_⟩ | ⟨_,h2,_⟩ | ⟨h1,_⟩
   ·rcases z with z | z
    ·rw [h1] at z; cases z
    ·cases z.2
   ·rw [← e]; exact h2
   ·rcases z with z | z
    ·rw [h1] at z; cases z
    ·cases z.2
 refine ⟨⟨I.ok.mod,S.kind,I.ok.glob,I.ok.blt,Nat.le_refl _,fun x y c h1 h2 => I.ok.inj x y c (gP h1).2 (gP h2).2,fun x hx => ?_,fun x c h1 h2 => ?_,I.ok.hd,I.ok.frames,.inl rfl,fun b hb => ⟨?_,fun x c e => (hf b hb).2.2.2.2.1 x c (gP e).2⟩,
  I.bs,Nat.le_trans I.ok.bsz I.sz,fun b o e z => ?_,fpS,I.stack,I.abf⟩,rfl,I.bare,Un.kept k,⟨_,hn,fun i y v e1 e2 e3 => ?_⟩,fun x c e => ?_,hfr _ (Nat.le_refl _),fun x c e => ?_,fun p hp => ?_,I.hok.kept k,?_⟩
 ·have q : x∈ys := axh x hx
  obtain ⟨i,hi⟩ := List.getElem?_of_mem q
  obtain ⟨j,_,_,hk⟩ := S.fr.get hi
  obtain ⟨c,hc⟩ := I.ok.has x hk
  exact ⟨c,Vy q hc⟩
 ·have q := (gP h2).1
  have h1' : x∈xs := by
   have : xs.contains x = true := h1
   simpa using this
  have a := S.own x h1'
  have b := S.frees x q
  rw [a] at b
  cases b
 ·intro z
  have z' : b = s.heap.objs.size := z
  have := hfl b hb
  rw [z'] at this
  exact Nat.lt_irrefl _ this
 ·rcases (hf b z).2.2.2.1 with q | q
  ·exact I.ok.aef b o e q
  ·exact absurd (Nat.lt_of_lt_of_le (Heap.lt_size (I.ok.bs b o e).1) q) (Nat.lt_irrefl _)
 ·have e1' : (xs ++ ys)[i]? = some y := e1
  by_cases hi : i < xs.length
  ·rw [List.getElem?_append_left (by rw [List.length_replicate]; exact hi),List.getElem?_replicate] at e2
   split at e2 <;> cases e2
  ·rw [List.getElem?_append_right (by lia)] at e1'
   rw [List.getElem?_append_right (by rw [List.length_replicate]; lia),List.length_replicate] at e2
   obtain ⟨j,hj,hN,hk⟩ := S.fr.get e1'
   unfold pick at e2
   rw [List.getElem?_map,hj] at e2
   have e4 : σ[j]? = some (some v) := by
    have e5 : (σ[j]?).getD none = some v := by simpa using e2
    cases q : σ[j]? with
    | none => rw [q] at e5; cases e5
    | some o => rw [q] at e5; simpa using e5
   have axi : Vis X.env.scope y := by
    rcases hk with z | z
    ·exact .inr (.inl z)
    ·exact .inr (.inr z)
   obtain ⟨m0,_,hl⟩ := I.loc
   obtain ⟨u,ru,lk⟩ := hl j y v hN e4 axi
   refine ⟨u,ru,.inr ⟨?_,?_⟩⟩
   ·exact qG (S.frees y (List.mem_of_getElem? e1'))
   ·rcases lk with ⟨z,_⟩ | ⟨_,c,hc,hcell⟩
    ·rcases hk with q | q
     ·rw [q] at z; cases z
     ·rw [q] at z; cases z
    ·exact ⟨c,Vy (List.mem_of_getElem? e1') hc,hcell.keeps k⟩
 ·obtain ⟨v,z⟩ := I.cell x c (gP e).2
  exact ⟨v,z.keeps k⟩
 ·exact I.uq x c (gP e).2
 ·have hp' : p∈X.pn ++ pins := by
   have : p∈(X.pn ++ pins) ++ [] := hp
   rwa [List.append_nil] at this
  obtain ⟨e,n,ne,nf,d⟩ := I.pin p hp'
  refine ⟨k _ _ e,n,fun z => ?_,fun z => ?_,d⟩
  ·have z' : p.1 = s.heap.objs.size := z
   exact absurd (Heap.lt_size e) (by rw [z']; exact Nat.lt_irrefl _)
  ·have z' : p.1∈L2.frs X.stack := z
   rcases List.mem_cons.mp (I.Vf _ z') with q | q
   ·exact ne q
   ·exact nf q
 ·show (List.replicate xs.length none ++ pick σ js).length = (xs ++ ys).length
  rw [List.length_append,List.length_append,List.length_replicate]
  unfold pick
  rw [List.length_map,S.fr.len]
theorem aeC {pins : List (Addr×Obj)} {σ : St} {H2 : Hp} {s2 : Shared} {J : It} {fp : List Addr} {it : Addr} {tn : Nat→Heap→Prop} {Q : VK} (S : wK X scope xs ys js) (hc : X.calm = true) (I2 : Inv X pins σ H2 s2) (T : Turn X.prog X.w X.K target J fp it tn) (st2 : tn 0 s2.heap)
 (f2 : ∀ b∈fp,J0 X pins H2 b) (hg : ∀ C s₀ H₀ fp pl,PG (blk X scope xs ys C s₀ H₀ fp pl) target g) (hi : ∀ C s₀ H₀ fp pl,akH (blk X scope xs ys C s₀ H₀ fp pl) ifs tc) (he : ∀ C s₀ H₀ fp pl,PE (blk X scope xs ys C s₀ H₀ fp pl) elt te)
 (rd : ∀ acc,H2 acc = none→Dg J g tc te (List.replicate xs.length none ++ pick σ js) acc H2 Q) {RR : Value→Addr→Result→Shared→Prop}
 (hRR : ∀ acc C H' s' m,s'.heap.Ns C m→Inv X pins σ H' s'→at5 X pins H' C→Q (.ref acc) H'→RR (.ref acc) C (.ok .next) s') :
 wpAny (model X.prog X.w) X.A (newList []) (fun acc s₃ => wpAny (model X.prog X.w) X.A (newFunctionEnv scope X.env.globals (RP X.env ys) [] X.env.qual none .none (some X.env)) (fun cenv s₄ =>
  codeAny (model X.prog X.w) X.A (.compStart (.ListComp elt [⟨target,iter,ifs,0⟩] scope pos) 0 (.ref it) acc { cenv with scope := relabel scope X.env }) (RR acc cenv.locals) s₄) X.xe s₃) X.xe s2 := by
 have aqx : H2 s2.heap.objs.size = none := I2.hok.fresh (Nat.le_refl _)
 obtain ⟨W,⟨m0,w0⟩,turn⟩ := rd _ aqx
 have hcell : ∀ y∈scope.names,y.2≠.cell := fun y hy z => by
  rcases S.names y hy with ⟨q,_⟩ | ⟨q,_⟩ | ⟨q,_⟩ <;> rw [q] at z <;> cases z
 refine wpAny_newObj_type (wpAny_newFunctionEnv hcell (by intro y hy; simp at hy) (fun h₁ hns₁ hsb₁ => ?_) S.kind)
 dsimp only at hns₁ hsb₁ ⊢
 have I3 : Inv X pins σ (upd H2 s2.heap.objs.size (.lst [])) { s2 with heap := s2.heap.push { cls := .type "list",dict := none,data := .seq ([] : List Value).toArray },toks := s2.toks } := I2.aqk (its := []) .nil (Nat.zero_le _)
 generalize hs3 : ({ s2 with heap := s2.heap.push { cls := .type "list",dict := none,data := .seq ([] : List Value).toArray },toks := s2.toks } : Shared) = s3 at I3
 have hh3 : s2.heap.push { cls := .type "list",dict := none,data := .seq ([] : List Value).toArray } = s3.heap := by rw [← hs3]
 rw [hh3] at hns₁ hsb₁ ⊢
 have ne2 : ∀ b∈fp,b < s2.heap.objs.size := fun b hb => by
  obtain ⟨o,e,_⟩ := T.obj 0 _ st2 b hb
  exact Heap.lt_size e
 have sz3 : s3.heap.objs.size = s2.heap.objs.size + 1 := by rw [← hh3,Heap.size_push]
 have f3 : ∀ b∈fp,J0 X pins (upd H2 s2.heap.objs.size (.lst [])) b := fun b hb => by
  obtain ⟨a1,a2⟩ := f2 b hb
  exact ⟨by rw [aq (Nat.ne_of_lt (ne2 b hb))]; exact a1,a2⟩
 have k3 : ∀ b o,s3.heap.get? b = some o→h₁.get? b = some o := fun b o e => hsb₁.extBut b o (Nat.ne_of_lt (Heap.lt_size e)) (Heap.get?_push_of_some _ e)
 have IB := ajk (tk := s3.toks) S I3 f3 (fun b hb => by rw [sz3]; exact Nat.lt_succ_of_lt (ne2 b hb)) (by simpa using hns₁) k3
 have st3 : tn 0 h₁ := T.keep 0 _ _ st2 fun b hb o e => k3 b o (by rw [← hh3]; exact Heap.get?_push_of_some _ e)
 have stat : ∀ {H' : Hp},(∀ b∈fp,H' b = none)→∀ b∈fp,J0 (blk X scope xs ys s3.heap.objs.size s3 (upd H2 s2.heap.objs.size (.lst [])) fp pins) [] H' b := fun {H'} hn b hb => by
  obtain ⟨a1,a2,a3,a4,a5,a6⟩ := f3 b hb
  refine ⟨hn b hb,fun z => ?_,fun z => ?_,.inl hb,fun x c e => a5 x c (gP e).2,fun p hp => a6 p ?_⟩
  ·have z' : b = s3.heap.objs.size := z
   have := ne2 b hb
   rw [z',sz3] at this
   exact absurd this (Nat.not_lt.mpr (Nat.le_succ _))
  ·have z' : b∈L2.frs X.stack := z
   rcases List.mem_cons.mp (I3.Vf _ z') with q | q
   ·exact a2 q
   ·exact a3 q
  ·have : p∈(X.pn ++ pins) ++ [] := hp
   rwa [List.append_nil] at this
 have loop : ∀ s₄ : Shared,s₄ = { s3 with heap := h₁,toks := s3.toks }→
  codeAny (model X.prog X.w) X.A (.compLoop (.ListComp elt [⟨target,iter,ifs,0⟩] scope pos) 0 (.ref it) (.ref s2.heap.objs.size) (compEnvC scope (RP X.env ys) s3.heap.objs.size X.env)) (RR (.ref s2.heap.objs.size) s3.heap.objs.size) s₄ := by
  rintro s₄ rfl
  refine aeB (fun n s' => ∃ i zs σ' H',Inv (blk X scope xs ys s3.heap.objs.size s3 (upd H2 s2.heap.objs.size (.lst [])) fp pins) [] σ' H' s'∧tn i s'.heap∧(∀ b∈fp,H' b = none)∧W i n zs σ' H') ?_ m0 ⟨0,[],_,_,IB,st3,fun b hb => (f3 b hb).1,w0⟩
  rintro n s5 ⟨i,zs,σ5,H5,I5,st5,fr5,w5⟩
  obtain ⟨hacc,tt⟩ := turn i n zs σ5 H5 w5
  rcases tt with ⟨stop,qn⟩ | ⟨go,step⟩
  ·refine fY (T.done (blk X scope xs ys s3.heap.objs.size s3 (upd H2 s2.heap.objs.size (.lst [])) fp pins) rfl rfl rfl hc i [] s5 σ5 H5 _ I5 (stat fr5) st5 stop) fun r s6 ⟨hr,I6⟩ => ?_
   subst hr
   obtain ⟨m,hm,_⟩ := I6.loc
   have I6' : Inv X pins σ H5 s6 := I3.call' (ch := fp) I6.os I6.base I6.hok I6.bare fun b hb => ⟨(f3 b hb).2.2.2.1,(f3 b hb).2.1,(f3 b hb).2.2.2.2.1,(f3 b hb).2.2.2.2.2⟩
   refine hRR _ _ H5 s6 m hm I6' ⟨I6.free,Nat.ne_of_gt I3.lt,I3.sz,fun x c e z => ?_,fun p hp z => ?_⟩ qn
   ·obtain ⟨v,q⟩ := I3.cell x c e
    have := q.lt
    rw [z] at this
    exact Nat.lt_irrefl _ this
   ·have := Heap.lt_size (I3.pin p hp).1
    rw [z] at this
    exact Nat.lt_irrefl _ this
  ·refine fY (T.item (blk X scope xs ys s3.heap.objs.size s3 (upd H2 s2.heap.objs.size (.lst [])) fp pins) rfl rfl rfl hc i [] s5 σ5 H5 _ I5 (stat fr5) st5 go) fun r s6 ⟨u,hr,h6⟩ => ?_
   subst hr
   refine fY h6 fun _ s7 hz => jW hz fun x H7 I7 r7 ⟨y7,st7,fr7⟩ => ?_
   have I7' := I7.pinned (stat fr7) (T.obj _ _ st7)
   refine fY (hg _ _ _ _ _ _ s7 σ5 H7 x u _ I7' r7 (step x H7 y7)) fun _ s8 hz => ex4 hz fun σ8 H8 I8 q8 => ?_
   have again : ∀ {zs' : List V} {σ9 : St} {H9 : Hp} {s9 : Shared},Inv (blk X scope xs ys s3.heap.objs.size s3 (upd H2 s2.heap.objs.size (.lst [])) fp pins) ([] ++ Vj fp s7.heap) σ9 H9 s9→(∃ m',m' < n∧W (i + 1) m' zs' σ9 H9)→
    ∃ m,m < n∧∃ i zs σ' H',Inv (blk X scope xs ys s3.heap.objs.size s3 (upd H2 s2.heap.objs.size (.lst [])) fp pins) [] σ' H' s9∧tn i s9.heap∧(∀ b∈fp,H' b = none)∧W i m zs σ' H' := fun {zs' σ9 H9 s9} I9 ⟨m',hm,w9⟩ => by
    refine ⟨m',hm,i + 1,zs',σ9,H9,I9.J1,T.keep _ _ _ st7 fun b hb o e => (I9.pin (b,o) (List.mem_append_right _ (List.mem_append_right _ (yt hb e)))).1,fun b hb => ?_,w9⟩
    obtain ⟨o,e,d⟩ := T.obj _ _ st7 b hb
    exact (I9.pin (b,o) (List.mem_append_right _ (List.mem_append_right _ (yt hb e)))).2.1
   refine fY (hi _ _ _ _ _ _ s8 σ8 H8 _ I8 q8) fun ok s9 hz => ex3 hz fun H9 I9 q9 => ?_
   cases ok with
   | false =>
     rw [if_neg Bool.false_ne_true] at q9 ⊢
     exact again I9 q9
   | true =>
     rw [if_pos rfl] at q9 ⊢
     refine fY (he _ _ _ _ _ _ s9 σ8 H9 _ I9 q9) fun z s10 hz => jW hz fun zv H10 I10 rz ⟨axk,axl,q10⟩ => ?_
     refine fY (cD _ s10 σ8 H10 (.ref s2.heap.objs.size) [zv] (.ref s2.heap.objs.size) [z] (fun _ H11 => H11 = upd H10 s2.heap.objs.size (.lst (zs ++ [zv]))) I10 rfl (.cons rz .nil) ⟨_,zs,zv,rfl,rfl,axk,axl,rfl⟩) fun _ s11 hz => jW hz fun _ H11 I11 _ e11 => ?_
     subst e11
     exact again I11 q10
 have e4 : ({ s2 with heap := h₁,toks := s2.toks + ([] : List (Str×Value)).length } : Shared) = { s3 with heap := h₁,toks := s3.toks } := by
  rw [← hs3]
  rfl
 exact codeAny_compStart_list (loop _ e4) (T.self X.A 0 _ _ _ st3 (loop _ e4))
theorem kE (S : wK X scope xs ys js) (hc : X.calm = true) (hw : PI X target iter wi) (hg : ∀ C s₀ H₀ fp pl,PG (blk X scope xs ys C s₀ H₀ fp pl) target g) (hi : ∀ C s₀ H₀ fp pl,akH (blk X scope xs ys C s₀ H₀ fp pl) ifs tc) (he : ∀ C s₀ H₀ fp pl,PE (blk X scope xs ys C s₀ H₀ fp pl) elt te)
 (hs : ∀ x,foldedSetIterable iter X.env x = pure x := by intro _; rfl) : PE X (.ListComp elt [⟨target,iter,ifs,0⟩] scope pos) (apt wi xs.length js g tc te) := by
 intro pins s σ H Q I h
 rw [eval_ListComp]
 refine wpAny_comprehension_free (use := none) rfl hs S.clos S.kind (fun x hx hl => ?_) (fY (hw pins s σ H _ I h) fun v s1 h1 => fY h1 fun itv s2 h2 => ?_)
 ·rcases S.names x hx with ⟨_,q⟩ | ⟨q,_⟩ | ⟨q,_⟩
  ·exact q
  ·rw [q] at hl; cases hl
  ·rw [q] at hl; cases hl
 obtain ⟨it,fp,tn,J,H2,e,I2,T,st2,f2,rd⟩ := h2
 subst e
 refine aeC (RR := fun acc C => compPost (model X.prog X.w) X.A X.xe none (EP X pins σ Q) acc C) S hc I2 T st2 f2 hg hi he rd fun acc C H' s' m hm I' jk q => ?_
 exact ⟨m,hm,fun h' hsb => ⟨.ref acc,H',I'.let_go jk hsb,rfl,q⟩⟩
def at7 (i : Nat) (t : TE) : TS := fun D σ H => t σ H fun v H1 => D.nx (σ.set i (some v)) H1
theorem agQ {i : Nat} {x : Str} {py : Pos} {spos : Pos} (hN : X.N.Nodup) (hix : X.N[i]? = some x) (hlo : X.env.scope.names.lookup x = some .local) (S : wK X scope xs ys js) (hc : X.calm = true) (hw : PI X target iter wi) (hg : ∀ C s₀ H₀ fp pl,PG (blk X scope xs ys C s₀ H₀ fp pl) target g) (hi : ∀ C s₀ H₀ fp pl,akH (blk X scope xs ys C s₀ H₀ fp pl) ifs tc) (he : ∀ C s₀ H₀ fp pl,PE (blk X scope xs ys C s₀ H₀ fp pl) elt te)
 (hsw : swapsWith (.ListComp elt [⟨target,iter,ifs,0⟩] scope pos) (some (.Name x py)) spos.line X.env = pure true := by rfl) (hs : ∀ x,foldedSetIterable iter X.env x = pure x := by intro _; rfl) :
 PS X (.Assign [.Name x py] (.ListComp elt [⟨target,iter,ifs,0⟩] scope pos) spos) (at7 i (apt wi xs.length js g tc te)) := by
 intro pins s σ H D I h
 rw [exec_Assign_Name_used _ _ _ _ hsw]
 refine wpAny_bind (wpAny_standAt (wpAny_bind ?_))
 show wpAny _ X.A (do let _ ← comprehension (.ListComp elt [⟨target,iter,ifs,0⟩] scope pos) scope X.env _ (newList []) false (eval iter X.env) (some (assign (.Name x py) X.env))) _ _ s
 refine wpAny_bind (wpAny_mono (wpAny_comprehension_free (Q := fun _ s' => SP X pins D .next s') rfl hs S.clos S.kind (fun x hx hl => ?_) (fY (hw pins s σ H _ I h) fun v s1 h1 => fY h1 fun itv s2 h2 => ?_)) (fun _ s' hq => wpAny_pure (wpAny_pure hq)) fun _ _ e => e)
 ·rcases S.names x hx with ⟨_,q⟩ | ⟨q,_⟩ | ⟨q,_⟩
  ·exact q
  ·rw [q] at hl; cases hl
  ·rw [q] at hl; cases hl
 obtain ⟨it,fp,tn,J,H2,e,I2,T,st2,f2,rd⟩ := h2
 subst e
 refine aeC (RR := fun acc C => compPost (model X.prog X.w) X.A X.xe (some (assign (.Name x py) X.env)) (fun _ s' => SP X pins D .next s') acc C) S hc I2 T st2 f2 hg hi he rd fun acc C H' s' m hm I' jk q => ?_
 refine wpAny_assign_Name (aau I' hN hix (Or.inl hlo) (v := .ref acc) rfl (fun s'' I'' hsb => ?_) (Or.inr hlo))
 obtain ⟨a,hsb,ha⟩ := hsb
 have hCa : C≠a := by
  rcases ha with e | e
  ·rw [e]; exact jk.2.1
  ·exact (jk.2.2.2.1 _ _ e).symm
 exact ⟨m,hm.sameBut hsb hCa,fun h' hs' => ⟨_,_,I''.let_go jk hs',q⟩⟩
end
theorem gB {X : Cx} {scope : Scope} {xs ys : List Str} {js : List Nat} (kind : scope.kind = .function)
 (names : ∀ p∈scope.names,(p.2 = .local∧scope.names.lookup p.1 = some .local)∨(p.2 = .free∧p.1∈ys∧scope.names.lookup p.1 = some .free)∨(p.2 = .globalImplicit∧scope.names.lookup p.1 = some .globalImplicit)) (own : ∀ x∈xs,scope.names.lookup x = some .local) (frees : ∀ y∈ys,scope.names.lookup y = some .free)
 (clos : closureFor scope X.env = pure (RP X.env ys)) (fr : yC X ys js) : wK X scope xs ys js := ⟨kind,names,own,frees,clos,fr⟩
end L2
namespace L2
open PySem PySem.Spec PyProof.Rows
def wL (n : Nat) (acc : Addr) (Pv : Nat→List V→St→Hp→Prop) (i : Nat) (zs : List V) (σ4 : St) : VK := fun z H6 =>
 H6 acc = some (.lst zs)∧zs.length < sizeLine∧∃ m',m' < n - i∧(m' = n - (i + 1)∧i + 1≤n∧Pv (i + 1) (zs ++ [z]) σ4 (upd H6 acc (.lst (zs ++ [z]))))
def Vz (n : Nat) (Pv : Nat→List V→St→Hp→Prop) (i : Nat) (zs : List V) (σ4 : St) (H5 : Hp) : Prop := ∃ m',m' < n - i∧(m' = n - (i + 1)∧i + 1≤n∧Pv (i + 1) zs σ4 H5)
theorem wL.mk {n i : Nat} {acc : Addr} {Pv : Nat→List V→St→Hp→Prop} {zs : List V} {σ4 : St} {z : V} {H6 : Hp} (hi : i < n) (h1 : H6 acc = some (.lst zs)) (h2 : zs.length < sizeLine) (p : Pv (i + 1) (zs ++ [z]) σ4 (upd H6 acc (.lst (zs ++ [z])))) : wL n acc Pv i zs σ4 z H6 :=
 ⟨h1,h2,_,by lia,rfl,hi,p⟩
theorem Vz.mk {n i : Nat} {Pv : Nat→List V→St→Hp→Prop} {zs : List V} {σ4 : St} {H5 : Hp} (hi : i < n) (p : Pv (i + 1) zs σ4 H5) : Vz n Pv i zs σ4 H5 := ⟨_,by lia,rfl,hi,p⟩
theorem Gk {K : PySem.W.Frag} {a acc : Addr} {xs : List V} {g : TG} {tc : TT} {te : TE} {σ : St} {H1 : Hp} {Q : VK} (Pv : Nat→List V→St→Hp→Prop) (h0 : Pv 0 [] σ (upd H1 acc (.lst [])))
 (hl : ∀ i zs σ H,i≤xs.length→Pv i zs σ H→cz K H a xs∧H acc = some (.lst zs))
 (hs : ∀ i x zs σ H,xs[i]? = some x→i < xs.length→Pv i zs σ H→g x σ H fun σ4 H4 => tc σ4 H4 fun b H5 => if b = true then te σ4 H5 (wL xs.length acc Pv i zs σ4) else Vz xs.length Pv i zs σ4 H5)
 (hd : ∀ zs σ H,Pv xs.length zs σ H→Q (.ref acc) H) : Dg (Itl K a) g tc te σ acc H1 Q := by
 refine ⟨fun i m zs σ H => m = xs.length - i∧i≤xs.length∧Pv i zs σ H,⟨_,rfl,Nat.zero_le _,h0⟩,?_⟩
 rintro i m zs σ H2 ⟨rfl,hi,p⟩
 obtain ⟨q,ha⟩ := hl i zs σ H2 hi p
 refine ⟨ha,?_⟩
 by_cases hlt : i < xs.length
 ·refine .inr ⟨⟨xs,xs[i],q,by simp [hlt]⟩,fun y H3 yl => ?_⟩
  obtain ⟨e,yl⟩ := yl
  subst e
  exact hs i y zs σ _ (yl xs q) hlt p
 ·have e : i = xs.length := by lia
  subst e
  exact .inl ⟨⟨xs,q,Nat.le_refl _⟩,hd zs σ H2 p⟩
theorem Ia {lo : Int} {n : Nat} {acc : Addr} {g : TG} {tc : TT} {te : TE} {σ : St} {H1 : Hp} {Q : VK} (Pv : Nat→List V→St→Hp→Prop) (h0 : Pv 0 [] σ (upd H1 acc (.lst [])))
 (hl : ∀ i zs σ H,i≤n→Pv i zs σ H→H acc = some (.lst zs))
 (hs : ∀ i zs σ H,i < n→Pv i zs σ H→g (.int (lo + i)) σ H fun σ4 H4 => tc σ4 H4 fun b H5 => if b = true then te σ4 H5 (wL n acc Pv i zs σ4) else Vz n Pv i zs σ4 H5)
 (hd : ∀ zs σ H,Pv n zs σ H→Q (.ref acc) H) : Dg (Itr lo n) g tc te σ acc H1 Q := by
 refine ⟨fun i m zs σ H => m = n - i∧i≤n∧Pv i zs σ H,⟨_,rfl,Nat.zero_le _,h0⟩,?_⟩
 rintro i m zs σ H2 ⟨rfl,hi,p⟩
 have ha := hl i zs σ H2 hi p
 refine ⟨ha,?_⟩
 by_cases hlt : i < n
 ·refine .inr ⟨hlt,fun y H3 yl => ?_⟩
  obtain ⟨e,yl⟩ := yl
  subst e yl
  exact hs i zs σ _ hlt p
 ·have e : i = n := by lia
  subst e
  exact .inl ⟨Nat.le_refl _,hd zs σ H2 p⟩
theorem aif {σ : St} {H : Hp} {A B : Hp→Prop} (h : A H) : ajj σ H (fun b H5 => if b = true then A H5 else B H5) := by
 show if true = true then A H else B H
 rw [if_pos rfl]
 exact h
theorem Kd {i : Nat} {v : V} {σ : St} {H : Hp} {A B : St→Hp→Prop} (h : A (σ.set i (some v)) H) : aav i v σ H fun σ4 H4 => ajj σ4 H4 fun b H5 => if b = true then A σ4 H5 else B σ4 H5 := aif (σ := σ.set i (some v)) (A := A (σ.set i (some v))) (B := B (σ.set i (some v))) h
end L2
namespace L2
open PySem PySem.Spec PyProof.Rows
section
variable {X : Cx} {x y : Str} {pos : Pos} {a : Addr} {T : String}
theorem gQ (hg : Gl X x) (h : ∃ t,X.mg x = some (.str y t)) (hd : (x == ("__debug__" : Str)) = false := by decide) : PE X (.Name x pos) (tC (.str y)) := by
 obtain ⟨t,h⟩ := h
 exact amK hg h ⟨t,rfl⟩ hd
theorem rM (hg : Gl X x) (hm : X.mg x = none) (hv : bootBuiltins x = some (.type T)) (hn : x≠"__name__" := by decide) (hd : (x == ("__debug__" : Str)) = false := by decide) : PE X (.Name x pos) (tC (.ty T)) := amL hg hm hv rfl hn hd
end
theorem RQ (l : Addr) (items : Array Value) (n : Nat) (b : Addr) (items2 : Array Value) (n2 : Nat) (dd : Option Addr) (sl : Array (Option Value)) (hs0 : ¬(!items.isEmpty && Builtin.List.listTooLong (items.size + items2.size)) = true) (hs1 : items.size≤sizeLine) (hs2 : items.size + items2.size≤sizeLine + 1) :
 Meets (Builtin.«list.extend» ⟨[.ref l,.ref b],[]⟩) (fun _ R s => s.heap.get? l = some { cls := .type "list",dict := none,data := .seq items n,slots := #[] }∧s.heap.get? b = some { cls := .type "tuple",dict := dd,data := .seq items2 n2,slots := sl }∧R (.ok (.ret Value.none)) { s with heap := s.heap.update l (Obj.mapSeq fun x => x ++ items2),toks := s.toks }) :=
 .of_wp fun prog w A R s h => by
  obtain ⟨hp,g,d,tk,os⟩ := s; obtain ⟨hl,hb,h⟩ := h; have f1 := PySem.AutoSeq1.idx_int; have f2 := PySem.AutoSeq1.sub_tuple_tuple; have f3 := PySem.AutoSeq1.sub_list_list; have f4 := PySem.AutoSeq1.sub_tuple_list; have f5 := PySem.AutoSeq1.sub_list_tuple;
  have hz' : (items ++ items2).size≤sizeLine + 1 := by rw [Array.size_append]; exact hs2
  wp_walk using (wpAny_updateSeq hl rfl (hz := hs1) (_hz' := hz')),PySem.AutoSeq1.wpAny_loadPart' hl,PySem.AutoSeq1.wpAny_loadPart' hb; exact ⟨_,rfl,h⟩
theorem RT (l : Addr) (items : Array Value) (n : Nat) (b : Addr) (items2 : Array Value) (n2 : Nat) (dd : Option Addr) (sl : Array (Option Value)) (hs0 : ¬(!items.isEmpty && Builtin.List.listTooLong (items.size + items2.size)) = true) (hs1 : items.size≤sizeLine) (hs2 : items.size + items2.size≤sizeLine + 1) :
 Meets (Builtin.«list.extend» ⟨[.ref l,.ref b],[]⟩) (fun _ R s => s.heap.get? l = some { cls := .type "list",dict := none,data := .seq items n,slots := #[] }∧s.heap.get? b = some { cls := .type "list",dict := dd,data := .seq items2 n2,slots := sl }∧R (.ok (.ret Value.none)) { s with heap := s.heap.update l (Obj.mapSeq fun x => x ++ items2),toks := s.toks }) :=
 .of_wp fun prog w A R s h => by
  obtain ⟨hp,g,d,tk,os⟩ := s; obtain ⟨hl,hb,h⟩ := h; have f1 := PySem.AutoSeq1.idx_int; have f2 := PySem.AutoSeq1.sub_tuple_tuple; have f3 := PySem.AutoSeq1.sub_list_list; have f4 := PySem.AutoSeq1.sub_tuple_list; have f5 := PySem.AutoSeq1.sub_list_tuple;
  have hz' : (items ++ items2).size≤sizeLine + 1 := by rw [Array.size_append]; exact hs2
  wp_walk using (wpAny_updateSeq hl rfl (hz := hs1) (_hz' := hz')),PySem.AutoSeq1.wpAny_loadPart' hl,PySem.AutoSeq1.wpAny_loadPart' hb; exact ⟨_,rfl,h⟩
def akI (K : PySem.W.Frag) : V→List V→Hp→VK→Prop := fun x vs H Q => ∃ l b xs zs,x = .ref l∧vs = [.ref b]∧H l = some (.lst xs)∧(cz K H b zs∨dq K H b zs)∧xs.length + zs.length≤sizeLine∧Q .non (upd H l (.lst (xs ++ zs)))
section
variable {X : Cx}
theorem kO : MtM X "list.extend" (akI X.K) := by
 intro pins s σ H x vs v us Q I rx rv h
 obtain ⟨l,b,xs,zs,rfl,rfl,hH,hB,hz,q⟩ := h
 cases rx
 obtain ⟨u,rfl,ru⟩ := rv.one
 cases ru
 obtain ⟨z,its,n,r,hl,e⟩ := I.agM hH
 have nl : ∀ {m k : Nat},m + k≤sizeLine→¬ (!its.toArray.isEmpty && Builtin.List.listTooLong (m + k)) = true := fun hsz => by
  rw [aer hsz,Bool.and_false]
  exact Bool.false_ne_true
 rcases hB with hB | hB
 ·obtain ⟨its2,r2,⟨ob,n2,hob,hc,_,hd⟩,z2⟩ := I.list hB
  have l2 := r2.length
  obtain ⟨oc,odd,odt,osl⟩ := ob
  dsimp only at hc hd
  subst hc hd
  refine call_meets F.slot_list_extend ⟨_,e,rfl⟩ F.entry_list_extend (F.args_list_extend_2 _ _)
   (RT l its.toArray n b its2.toArray n2 odd osl (nl (by rw [List.size_toArray,List.size_toArray]; lia)) (by rw [List.size_toArray]; lia) (by rw [List.size_toArray,List.size_toArray]; lia)) ⟨e,hob,?_⟩
  refine ⟨.non,_,I.aku (its' := its ++ its2) hH e (by simp) (r.append r2) ?_,rfl,q⟩
  rw [List.length_append]
  lia
 ·obtain ⟨its2,r2,⟨ob,hob,hc,n2,hd⟩,z2⟩ := I.tuple hB
  have l2 := r2.length
  obtain ⟨oc,odd,odt,osl⟩ := ob
  dsimp only at hc hd
  subst hc hd
  refine call_meets F.slot_list_extend ⟨_,e,rfl⟩ F.entry_list_extend (F.args_list_extend_2 _ _)
   (RQ l its.toArray n b its2.toArray n2 odd osl (nl (by rw [List.size_toArray,List.size_toArray]; lia)) (by rw [List.size_toArray]; lia) (by rw [List.size_toArray,List.size_toArray]; lia)) ⟨e,hob,?_⟩
  refine ⟨.non,_,I.aku (its' := its ++ its2) hH e (by simp) (r.append r2) ?_,rfl,q⟩
  rw [List.length_append]
  lia
def akJ (K : PySem.W.Frag) (neg : Bool) : R2 := fun x y H Q => ∃ a b xs,x = .ref a∧y = .ref b∧cz K H a xs∧cz K H b []∧Q (.bl (if neg then !xs.isEmpty else xs.isEmpty)) H
theorem akK (hu : X.A.units < cLine) : Va X (compareOp .Eq) (akJ X.K false) := by
 intro pins s σ H x y v u Q I rx ry h
 obtain ⟨a,b,xs,rfl,rfl,ha,hb,q⟩ := h
 cases rx
 cases ry
 obtain ⟨its,r,pl,z⟩ := I.list ha
 obtain ⟨its2,r2,pl2,z2⟩ := I.list hb
 have l1 := r.length
 have l2 := r2.length
 have e2 : its2 = [] := List.length_eq_zero_iff.mp (by rw [← l2]; rfl)
 subst e2
 cases xs with
 | nil =>
   have e1 : its = [] := List.length_eq_zero_iff.mp (by rw [← l1]; rfl)
   subst e1
   exact PySem.SeqAt.eq_listAt (e := fun _ => true) pl.isList pl2.isList rfl hu (fun j h1 _ => absurd h1 (by simp)) ⟨.bl true,H,I,rfl,q⟩
 | cons y ys =>
   refine PySem.SeqAt.eq_list_lengthsAt pl.isList pl2.isList ?_ hu ⟨.bl false,H,I,rfl,q⟩
   rw [List.size_toArray,← l1]
   rfl
theorem aeD (hu : X.A.units < cLine) : Va X (compareOp .NotEq) (akJ X.K true) := by
 intro pins s σ H x y v u Q I rx ry h
 obtain ⟨a,b,xs,rfl,rfl,ha,hb,q⟩ := h
 cases rx
 cases ry
 obtain ⟨its,r,pl,z⟩ := I.list ha
 obtain ⟨its2,r2,pl2,z2⟩ := I.list hb
 have l1 := r.length
 have l2 := r2.length
 have e2 : its2 = [] := List.length_eq_zero_iff.mp (by rw [← l2]; rfl)
 subst e2
 cases xs with
 | nil =>
   have e1 : its = [] := List.length_eq_zero_iff.mp (by rw [← l1]; rfl)
   subst e1
   exact PySem.SeqAt.RcNeAt.lists (e := fun _ => true) pl.isList pl2.isList rfl hu (fun j h1 _ => absurd h1 (by simp)) X.prog X.w X.xe _ ⟨.bl false,H,I,rfl,q⟩
 | cons y ys =>
   refine PySem.SeqAt.RcNeAt.lists_lengths pl.isList pl2.isList ?_ hu X.prog X.w X.xe _ ⟨.bl true,H,I,rfl,q⟩
   rw [List.size_toArray,← l1]
   rfl
structure KDict (K : PySem.W.Frag) (w : World) (a : Addr) (tab : List (Str×V)) : Prop where
 ex : ∃ es n,K.lookup a = some ⟨.type "dict",none,.dict es n,#[]⟩∧PySem.W.KeysLit w.params es.toList
 at_ : ∀ x v,tab.lookup x = some v→∃ u,PySem.W.nsIn K a x = some (some u)∧RelV v u
def at9 (tab : List (Str×V)) (ty : TE) : TE := fun σ H Q => ty σ H fun y H1 => ∃ k v,y = .str k∧tab.lookup k = some v∧Q v H1
theorem aih {x : Str} {a : Addr} {tab : List (Str×V)} {i : Expr} {ty : TE} {p pos : Pos} (hg : Gl X x) (hm : X.mg x = some (.ref a)) (D : KDict X.K X.w a tab) (hi : PE X i ty) (hs : aqo i) (hd : (x == ("__debug__" : Str)) = false := by decide) :
 PE X (.Subscript (.Name x p) i pos) (at9 tab ty) := by
 intro pins s σ H Q I h
 obtain ⟨es,n,hl,hk⟩ := D.ex
 refine ah9 slot_dict_getitem.lookup hs (yq I hg hm (fY (hi pins s σ H _ I h) fun u s1 h1 => ?_) hd)
 obtain ⟨y,H1,I1,ry,k,v,rfl,hv,q⟩ := h1
 obtain ⟨t,rfl⟩ := ry
 obtain ⟨u',e,ru⟩ := D.at_ k v hv
 have hmap := PySem.W.mapOf_K (prog := X.prog) (w := X.w) I1.wF hl hk
 exact ⟨hmap.typeIs,wpAny_getItem_of (strKind_is X.prog X.w k t) hmap (PySem.W.find_K hl e) ⟨v,H1,I1.tok _,ru,q⟩⟩
end
def agR : V→Option Value
 | .ty n => some (.type n)
 | .ref a => some (.ref a)
 | _ => none
def axm (K : PySem.W.Frag) : List V→Hp→VK→Prop := fun xs H Q => ∃ x c t b,xs = [x,c]∧J4 K H x t∧((∃ cv,agR c = some cv∧PySem.W.kitOne K t cv = some b)∨(∃ a cs cvs,c = .ref a∧H a = some (.tup cs)∧cs.map agR = cvs.map some∧PySem.W.kitAny K t cvs = some b))∧Q (.bl b) H
theorem aeE : ∀ {cs : List V} {us : List Value} {cvs : List Value},Vals cs us→cs.map agR = cvs.map some→us = cvs
 | [],_,[],.nil,_ => rfl
 | [],_,_ :: _,.nil,h => by simp at h
 | c :: cs,_,[],.cons _ _,h => by simp at h
 | c :: cs,_,cv :: cvs,.cons r t,h => by
   simp only [List.map_cons,List.cons.injEq] at h
   rw [aeE t h.2]
   cases c with
   | ty n => cases (show _ = Value.type n from r); simp only [agR,Option.some.injEq] at h; rw [h.1]
   | ref a => cases (show _ = Value.ref a from r); simp only [agR,Option.some.injEq] at h; rw [h.1]
   | _ => simp [agR] at h
section
variable {X : Cx}
theorem agS {pins : List (Addr×Obj)} {σ : St} {H : Hp} {s : Shared} {A : Around} {E : Value→Shared→Prop} {Q : Value→Shared→Prop} {b : Bool} {x : V} {u t : Value} {a : Addr} {cs : List V} {cvs : List Value} (I : Inv X pins σ H s) (rx : RelV x u) (ty : J4 X.K H x t)
 (ha : H a = some (.tup cs)) (hcs : cs.map agR = cvs.map some) (e : PySem.W.kitAny X.K t cvs = some b) (h : ∀ tk,Q (.bool b) { s with toks := tk }) : wpAny (model X.prog X.w) A (call (.builtin "isinstance") [u,.ref a]) Q E s := by
 obtain ⟨_,its,rv,p⟩ := (show fH X.prog X.w H s.heap a (.tup cs) from I.hok a _ ha)
 obtain ⟨⟨oc,odd,odt,osl⟩,h1,h2,n,h3⟩ := p
 dsimp only at h2 h3
 subst h2 h3
 have ei : its = cvs := aeE rv hcs
 subst ei
 cases ty with
 | non => cases (show u = Value.none from rx); exact PySem.W.kia_tup PySem.W.kitx_none I.wF True.intro h1 e (fun z => nomatch z) h
 | bl y => cases (show u = Value.bool y from rx); exact PySem.W.kia_tup PySem.W.kitx_bool I.wF True.intro h1 e (fun z => nomatch z) h
 | int i => obtain ⟨t,q⟩ := (show ∃ t,u = Value.int i t from rx); cases q; exact PySem.W.kia_tup PySem.W.kitx_int I.wF True.intro h1 e (fun z => nomatch z) h
 | str y => obtain ⟨t,q⟩ := (show ∃ t,u = Value.str y t from rx); cases q; exact PySem.W.kia_tup PySem.W.kitx_str I.wF True.intro h1 e (fun z => nomatch z) h
 | flt y => obtain ⟨t,q⟩ := (show ∃ t,u = Value.float y t from rx); cases q; exact PySem.W.kia_tup PySem.W.kitx_float I.wF True.intro h1 e (fun z => nomatch z) h
 | @lst a xs ea =>
   cases (show u = Value.ref a from rx)
   obtain ⟨_,_,n,_,h1'⟩ := (show fH X.prog X.w H s.heap a (.lst xs) from I.hok a _ ea)
   exact PySem.W.kia_tup PySem.W.kitx_list I.wF ⟨_,h1',rfl⟩ h1 e (fun z => nomatch z) h
 | @frz a ob xs ea =>
   cases (show u = Value.ref a from rx)
   obtain ⟨_,_,_,n,_,h1'⟩ := (show fH X.prog X.w H s.heap a (.frz ob (.lst xs)) from I.hok a _ ea)
   exact PySem.W.kia_tup PySem.W.kitx_list I.wF ⟨_,h1',rfl⟩ h1 e (fun z => nomatch z) h
 | @tup a xs ea =>
   cases (show u = Value.ref a from rx)
   obtain ⟨_,_,_,p⟩ := (show fH X.prog X.w H s.heap a (.tup xs) from I.hok a _ ea)
   obtain ⟨o,h1',h2,_⟩ := p
   exact PySem.W.kia_tup PySem.W.kitx_tuple I.wF ⟨o,h1',h2⟩ h1 e (fun z => nomatch z) h
 | @dK a kvs ea =>
   cases (show u = Value.ref a from rx)
   obtain ⟨_,_,vs,_,p⟩ := (show fH X.prog X.w H s.heap a (.dK kvs) from I.hok a _ ea)
   obtain ⟨o,es,ep,h1',h2,_⟩ := p
   exact PySem.W.kia_tup PySem.W.kitx_dict I.wF ⟨o,h1',h2.1⟩ h1 e (fun z => nomatch z) h
 | @dT a kvs ea =>
   cases (show u = Value.ref a from rx)
   obtain ⟨_,_,xs,_,o,es,ep,h1',h2,_⟩ := (show fH X.prog X.w H s.heap a (.dT kvs) from I.hok a _ ea)
   exact PySem.W.kia_tup PySem.W.kitx_dict I.wF ⟨o,h1',h2.1⟩ h1 e (fun z => nomatch z) h
 | @ins a C dx fs ea cl ha hn htk hm =>
   cases (show u = Value.ref a from rx)
   obtain ⟨mA,O,_⟩ := J3 I.hok ea
   obtain ⟨od,J,_⟩ := O.look
   exact PySem.W.kia_tup (PySem.W.kitx_own (cl.get _) cl.hd ha hn htk hm) I.wF J h1 e (fun z => nomatch z) h
theorem j8 : QH X (.builtin "isinstance") (axm X.K) := by
 intro pins s σ H xs us Q I r h
 obtain ⟨x,c,t,b,rfl,ty,hc,q⟩ := h
 obtain ⟨u,v,rfl,ru,rv⟩ := r.two
 have fin : ∀ tk,EP X pins σ Q (.bool b) { s with toks := tk } := fun tk => ⟨.bl b,H,I.tok _,rfl,q⟩
 rcases hc with ⟨cv,e1,e2⟩ | ⟨a,cs,cvs,rfl,e1,e2,e3⟩
 ·have ev : v = cv := by
   cases c with
   | ty n => cases (show v = Value.type n from rv); exact Option.some.inj e1
   | ref a => cases (show v = Value.ref a from rv); exact Option.some.inj e1
   | _ => cases e1
  subst ev
  exact ai9 I ru ty e2 fin
 ·cases (show v = Value.ref a from rv)
  exact agS I ru ty e1 e2 e3 fin
end
end L2
namespace L2
open PySem PySem.Spec PyProof.Rows
section
variable {X : Cx}
theorem aqA {K : PySem.W.Frag} {w : World} {a : Addr} {es : Array DictEntry} {n : Nat} {x0 x1 x2 : Str} {i0 i1 i2 : Int} {t0 t1 t2 : Tok} (hl : K.lookup a = some ⟨.type "dict",none,.dict es n,#[]⟩) (hk : PySem.W.KeysLit w.params es.toList)
 (h0 : PySem.W.nsIn K a x0 = some (some (.int i0 t0))) (h1 : PySem.W.nsIn K a x1 = some (some (.int i1 t1))) (h2 : PySem.W.nsIn K a x2 = some (some (.int i2 t2))) : KDict K w a [(x0,.int i0),(x1,.int i1),(x2,.int i2)] := by
 refine ⟨⟨es,n,hl,hk⟩,fun x v e => ?_⟩
 rw [List.lookup_cons] at e
 split at e
 ·rename_i q
  cases e
  rw [beq_iff_eq] at q
  subst q
  exact ⟨_,h0,t0,rfl⟩
 ·rw [List.lookup_cons] at e
  split at e
  ·rename_i q
   cases e
   rw [beq_iff_eq] at q
   subst q
   exact ⟨_,h1,t1,rfl⟩
  ·rw [List.lookup_cons] at e
   split at e
   ·rename_i q
    cases e
    rw [beq_iff_eq] at q
    subst q
    exact ⟨_,h2,t2,rfl⟩
   ·cases e
end
end L2
namespace L2
open PySem PySem.Spec PyProof.Rows
theorem aqB {K : PySem.W.Frag} : PySem.W.kitOne K (.type "int") (.type "int") = some true := by rfl
theorem aqC {K : PySem.W.Frag} : PySem.W.kitOne K (.type "int") (.type "bool") = some false := by kernel_rfl
theorem akM {K : PySem.W.Frag} : PySem.W.kitOne K (.type "str") (.type "str") = some true := by rfl
theorem kit_is {K : PySem.W.Frag} : PySem.W.kitOne K (.type "int") (.type "str") = some false := by kernel_rfl
theorem agT {K : PySem.W.Frag} : PySem.W.kitOne K (.type "list") (.type "list") = some true := by rfl
theorem akN {K : PySem.W.Frag} : PySem.W.kitOne K (.type "tuple") (.type "list") = some false := by kernel_rfl
theorem akO {K : PySem.W.Frag} : PySem.W.kitOne K (.type "list") (.type "tuple") = some false := by kernel_rfl
theorem akP {K : PySem.W.Frag} : PySem.W.kitOne K (.type "tuple") (.type "tuple") = some true := by rfl
theorem aqD {K : PySem.W.Frag} : PySem.W.kitAny K (.type "list") [.type "list",.type "tuple"] = some true := by kernel_rfl
theorem kit_at {K : PySem.W.Frag} : PySem.W.kitAny K (.type "tuple") [.type "list",.type "tuple"] = some true := by kernel_rfl
theorem aqE {K : PySem.W.Frag} : PySem.W.kitAny K (.type "int") [.type "list",.type "tuple"] = some false := by kernel_rfl
theorem aqF {K : PySem.W.Frag} : PySem.W.kitAny K (.type "str") [.type "list",.type "tuple"] = some false := by kernel_rfl
theorem aqG {K : PySem.W.Frag} : PySem.W.kitAny K (.type "NoneType") [.type "list",.type "tuple"] = some false := by kernel_rfl
end L2
namespace L2
open PySem PySem.Spec PyProof.Rows
section
variable {prog : Program} {w : World} {A : Around} {E : Value→Shared→Prop} {h : Heap} {g : Array GenState} {d : Drawn} {t : Nat} {os : OsState} {a : Addr} {o : Obj}
 {nm q : Str} {C N : Addr} {bs bm bmB : List Value} {hdct : Bool} {sn : List Str} {sub : List Value} {ab : Bool} {col : Option Bool} {dd : Option Addr} {k0 k1 k2 k3 k5 : Option Value} {B newId : String} {mN : Str→Option Value}
end
structure Ke (K : PySem.W.Frag) (C : Addr) : Prop where
 cl : PySem.W.findIn K (.ref C) "__class__" = some (some (.builtin "object.__class__"))
 ga : PySem.W.findIn K (.ref C) "__getattribute__" = some (some (.builtin "BaseException.__getattribute__"))
 gt : PySem.W.findIn K (.ref C) "__getattr__" = some none
end L2
namespace L2
open PySem PySem.Spec PyProof.Rows
section
variable {X : Cx} {pins : List (Addr×Obj)} {σ : List (Option V)} {H : Hp} {s : Shared} {h' : Heap}
theorem Inv.ajl {t' : Nat} {e it p : Addr} {vs : List V} (I : Inv X pins σ H s) (k : ∀ b o,b≠e→b≠it→s.heap.get? b = some o→h'.get? b = some o) (fe : J0 X pins H e) (fi : J0 X pins H it) (hp : s.heap.objs.size≤p)
 (new : fH X.prog X.w (upd H p (.tup vs)) h' p (.tup vs)) : Inv X pins σ (upd H p (.tup vs)) { s with heap := h',toks := t' } := by
 have ne : ∀ b u,H b = some u→b≠e := fun b u q z => by rw [z,fe.1] at q; cases q
 have ni : ∀ b u,H b = some u→b≠it := fun b u q z => by rw [z,fi.1] at q; cases q
 have hn : H p = none := I.hok.fresh hp
 have kc : ∀ b o,b∉[e,it]→s.heap.get? b = some o→h'.get? b = some o := fun b o hc q => k b o (fun z => hc (by simp [z])) (fun z => hc (by simp [z])) q
 have old : ∀ b u,H b = some u→upd H p (.tup vs) b = some u := fun b u q => by rw [aq (aF q hn)]; exact q
 refine I.step (g' := s.gens) (d' := s.drawn) (ch := [e,it]) (fun b hb => ?_) (fun b o _ _ hc q _ => kc b o hc q) (fun b o _ _ hc q _ => ⟨o.slots,kc b o hc q⟩) (fun b o _ q n => ?_)
  (fun b o hc q => ⟨o,kc b o hc q⟩) (fun b xs q => old b _ q) (fun b o u q => old b _ q) (fun b ps q => ⟨#[],by rw [old b _ q]; simp⟩) (fun m hm => ?_) (fun b u q => ?_) I.bare
 ·rcases List.mem_cons.mp hb with z | z
  ·subst z; exact ⟨fe.2.2.2.1,fe.2.1,fe.2.2.2.2.1,fe.2.2.2.2.2⟩
  ·have z' : b = it := by simpa using z
   subst z'; exact ⟨fi.2.2.2.1,fi.2.1,fi.2.2.2.2.1,fi.2.2.2.2.2⟩
 ·rw [aq (Nat.ne_of_lt (Nat.lt_of_lt_of_le (Heap.lt_size q) hp))]; exact n
 ·obtain ⟨o,es,ep,ho,r⟩ := hm
  exact ⟨o,es,ep,k _ o (Ne.symm fe.2.1) (Ne.symm fi.2.1) ho,r⟩
 ·by_cases hb : b = p
  ·subst hb; rw [aj] at q; cases q; exact new
  ·rw [aq hb] at q
   refine (I.hok b u q).stay (fun c v hc r => ?_) (fun c r => old c _ r) fun c xs r => old c _ r
   rcases hc with z | z
   ·rw [z] at r ⊢; exact k b v (ne b u q) (ni b u q) r
   ·exact k c v (ne c _ z) (ni c _ z) r
theorem Inv.am0 {t' : Nat} {e it : Addr} (I : Inv X pins σ H s) (k : ∀ b o,b≠e→b≠it→s.heap.get? b = some o→h'.get? b = some o) (fe : J0 X pins H e) (fi : J0 X pins H it) : Inv X pins σ H { s with heap := h',toks := t' } := by
 have ne : ∀ b u,H b = some u→b≠e := fun b u q z => by rw [z,fe.1] at q; cases q
 have ni : ∀ b u,H b = some u→b≠it := fun b u q z => by rw [z,fi.1] at q; cases q
 have kc : ∀ b o,b∉[e,it]→s.heap.get? b = some o→h'.get? b = some o := fun b o hc q => k b o (fun z => hc (by simp [z])) (fun z => hc (by simp [z])) q
 refine I.step (g' := s.gens) (d' := s.drawn) (ch := [e,it]) (fun b hb => ?_) (fun b o _ _ hc q _ => kc b o hc q) (fun b o _ _ hc q _ => ⟨o.slots,kc b o hc q⟩) (fun _ _ _ _ n => n)
  (fun b o hc q => ⟨o,kc b o hc q⟩) (fun _ _ q => q) (fun _ _ _ q => q) (fun b ps q => ⟨#[],by rw [q]; simp⟩) (fun m hm => ?_) (fun b u q => ?_) I.bare
 ·rcases List.mem_cons.mp hb with z | z
  ·subst z; exact ⟨fe.2.2.2.1,fe.2.1,fe.2.2.2.2.1,fe.2.2.2.2.2⟩
  ·have z' : b = it := by simpa using z
   subst z'; exact ⟨fi.2.2.2.1,fi.2.1,fi.2.2.2.2.1,fi.2.2.2.2.2⟩
 ·obtain ⟨o,es,ep,ho,r⟩ := hm
  exact ⟨o,es,ep,k _ o (Ne.symm fe.2.1) (Ne.symm fi.2.1) ho,r⟩
 ·refine (I.hok b u q).stay (fun c v hc r => ?_) (fun _ q => q) fun _ _ q => q
  rcases hc with z | z
  ·rw [z] at r ⊢; exact k b v (ne b u q) (ni b u q) r
  ·exact k c v (ne c _ z) (ni c _ z) r
end
def Ite (K : PySem.W.Frag) (a : Addr) : It :=
 ⟨fun i H => ∃ xs x,cz K H a xs∧xs[i]? = some x,fun i H x H' => ∃ p,H p = none∧x = .ref p∧∃ y,(∀ xs,cz K H a xs→xs[i]? = some y)∧H' = upd H p (.tup [.int i,y]),fun i H => ∃ xs,cz K H a xs∧xs.length≤i⟩
theorem ajm {P : Program} {w : World} {K : PySem.W.Frag} {elts : List Expr} {x1} {pos : Pos} (a e it : Addr) (hne : e≠it) : Turn P w K (.Tuple elts x1 pos) (Ite K a) [e,it] e (fun i h => (∃ old,IsEnum h e it (i : Nat) old)∧h.IsListIter it a i) where
 mem := by simp
 obj := fun i h st b hb => by
  obtain ⟨⟨old,he⟩,o,ho,c,d⟩ := st
  rcases List.mem_cons.mp hb with z | z
  ·subst z; exact ⟨_,he,fun v z => by cases z⟩
  ·have z' : b = it := by simpa using z
   subst z'; exact ⟨o,ho,fun v z => by rw [d] at z; cases z⟩
 keep := fun i h h' st k => ⟨st.1.elim fun old he => ⟨old,k e (by simp) _ he⟩,st.2.at fun o q => k it (by simp) o q⟩
 item := by
  intro X hP hw hK hc i pins s σ H E I hf st hg
  subst hP hw hK
  obtain ⟨xs,x,hq,hx⟩ := hg
  obtain ⟨⟨old,he⟩,hit⟩ := st
  obtain ⟨its,rv,p,hz⟩ := I.list hq
  obtain ⟨u,hu,ru⟩ := rv.get hx
  have fe := hf e (by simp)
  have fi := hf it (by simp)
  have hes : e < s.heap.objs.size := Heap.lt_size he
  have his : it < s.heap.objs.size := by obtain ⟨o,ho,_⟩ := hit; exact Heap.lt_size ho
  refine wpAny_pyNext_enum_item he hit p.isList (x := u) (by simpa using hu) hne fun h1 heo hit1 ht1 hz1 hk1 => ?_
  refine ⟨_,rfl,wpAny_letOwnedTupleGo_enum heo fun h2 he2 hs2 => ?_⟩
  have aqH : Heap.SameBut e h1 h2 := hs2
  have ht2 : h2.get? s.heap.objs.size = some { cls := .type "tuple",data := .seq #[.int i s.toks,u] } := (aqH.2 _ (Nat.ne_of_gt hes)).trans ht1
  have I2 : Inv X pins σ (upd H s.heap.objs.size (.tup [.int i,x])) { s with heap := h2,toks := s.toks + 1 } := by
   refine I.ajl (fun b o h3 h4 q => (aqH.2 b h3).trans (hk1 b o h3 h4 q)) fe fi (Nat.le_refl _) ?_
   exact ⟨uo,[.int i s.toks,u],.cons ⟨_,rfl⟩ (.cons ru .nil),⟨_,ht2,rfl,_,rfl⟩⟩
  have hn := I.fresh
  refine ⟨.ref s.heap.objs.size,_,I2,rfl,⟨s.heap.objs.size,hn,rfl,x,fun ys hy => by rw [I.aek hy hq]; exact hx,rfl⟩,⟨⟨u,?_⟩,?_⟩,fun b hb => ?_⟩
  ·have z : ((i + 1 : Nat) : Int) = (i : Int) + 1 := by push_cast; rfl
   rw [z]; exact he2
  ·exact hit1.extBut aqH.extBut (Ne.symm hne)
  ·rw [aq]
   ·exact (hf b hb).1
   ·rcases List.mem_cons.mp hb with z | z
    ·subst z; exact Nat.ne_of_lt hes
    ·have z' : b = it := by simpa using z
     subst z'; exact Nat.ne_of_lt his
 done := by
  intro X hP hw hK hc i pins s σ H E I hf st hg
  subst hP hw hK
  obtain ⟨xs,hq,hx⟩ := hg
  obtain ⟨⟨old,he⟩,hit⟩ := st
  obtain ⟨its,rv,p,hz⟩ := I.list hq
  have hl := rv.length
  exact wpAny_pyNext_enum_end (I.ok.hd hc) he hit p.isList (by simp; lia) fun h' eb => ⟨rfl,I.am0 (t' := s.toks) (fun b o _ h2 q => eb b o h2 q) (hf e (by simp)) (hf it (by simp))⟩
 self := fun _ _ _ _ _ st h => st.1.elim fun _ he => wpAny_pyIter_enum he h
section
variable {X : Cx}
def aua (K : PySem.W.Frag) (tl : TA) : TI := fun σ H R => tl σ H fun vs H1 => ∃ a,vs = [.ref a]∧(∃ xs,cz K H1 a xs)∧R (Ite K a) H1
theorem am1 {elts : List Expr} {x1} {tpos : Pos} {a : Expr} {ta : TA} {p pos : Pos} (hg : Gl X "enumerate") (hm : X.mg "enumerate" = none) (ha : PA X [a] ta) (hs : starEach [a] X.env = [(false,eval a X.env)] := by rfl) :
 PI X (.Tuple elts x1 tpos) (.Call (.Name "enumerate" p) [a] [] pos) (aua X.K ta) := by
 intro pins s σ H R I h
 refine Call_ (Vh I hg hm PyProof.Rows.Boot.«enumerate» (PyProof.Rows.callWith_type1 (fY (ha pos pins s σ H _ I h) fun us s1 hz => jW hz fun vs H1 I1 r1 q1 => ?_) hs rfl))
 obtain ⟨l,e,⟨xs,hq⟩,q⟩ := q1
 subst e
 cases r1 with
 | cons r rr =>
   cases rr
   cases r
   obtain ⟨its,rv,pl,hz⟩ := I1.list hq
   refine call_enumerate_list pl.isList fun h2 he hit hsz hk => ?_
   refine wpAny_pyIter_enum he ?_
   have hne : s1.heap.objs.size + 1≠s1.heap.objs.size := Nat.succ_ne_self _
   refine ⟨s1.heap.objs.size + 1,[s1.heap.objs.size + 1,s1.heap.objs.size],_,_,H1,rfl,I1.kept (t' := s1.toks) hk,ajm l _ _ hne,⟨⟨_,he⟩,hit⟩,fun b hb => ?_,q⟩
   rcases List.mem_cons.mp hb with z | z
   ·subst z; exact I1.amM (Nat.le_succ _) (I1.hok.fresh (Nat.le_succ _))
   ·have z' : b = s1.heap.objs.size := by simpa using z
    subst z'; exact I1.amM (Nat.le_refl _) (I1.hok.fresh (Nat.le_refl _))
end
theorem ajn {K : PySem.W.Frag} {a acc : Addr} {xs : List V} {g : TG} {tc : TT} {te : TE} {σ : St} {H1 : Hp} {Q : VK} (Pv : Nat→List V→St→Hp→Prop) (h0 : Pv 0 [] σ (upd H1 acc (.lst [])))
 (hl : ∀ i zs σ H,i≤xs.length→Pv i zs σ H→cz K H a xs∧H acc = some (.lst zs))
 (hs : ∀ i x zs σ H p,xs[i]? = some x→i < xs.length→Pv i zs σ H→H p = none→g (.ref p) σ (upd H p (.tup [.int i,x])) fun σ4 H4 => tc σ4 H4 fun b H5 => if b = true then te σ4 H5 (wL xs.length acc Pv i zs σ4) else Vz xs.length Pv i zs σ4 H5)
 (hd : ∀ zs σ H,Pv xs.length zs σ H→Q (.ref acc) H) : Dg (Ite K a) g tc te σ acc H1 Q := by
 refine ⟨fun i m zs σ H => m = xs.length - i∧i≤xs.length∧Pv i zs σ H,⟨_,rfl,Nat.zero_le _,h0⟩,?_⟩
 rintro i m zs σ H2 ⟨rfl,hi,p⟩
 obtain ⟨q,ha⟩ := hl i zs σ H2 hi p
 refine ⟨ha,?_⟩
 by_cases hlt : i < xs.length
 ·refine .inr ⟨⟨xs,xs[i],q,by simp [hlt]⟩,fun y H3 yl => ?_⟩
  obtain ⟨b,hb,e,x,hx,e3⟩ := yl
  subst e e3
  exact hs i x zs σ _ b (hx xs q) hlt p hb
 ·have e : i = xs.length := by lia
  subst e
  exact .inl ⟨⟨xs,q,Nat.le_refl _⟩,hd zs σ H2 p⟩
end L2
namespace iz
open PySem L2
inductive Rt where
 | no | rd | wr
 deriving DecidableEq
def Rt.s : Rt→Str
 | .no => "none"
 | .rd => "read"
 | .wr => "write"
def Rt.k : Rt→Int
 | .no => 0
 | .rd => 1
 | .wr => 2
theorem Rt.aub : ∀ {a b : Rt},a.s = b.s→a = b
 | .no,.no,_ => rfl
 | .no,.rd,h => absurd h (by decide +kernel)
 | .no,.wr,h => absurd h (by decide +kernel)
 | .rd,.no,h => absurd h (by decide +kernel)
 | .rd,.rd,_ => rfl
 | .rd,.wr,h => absurd h (by decide +kernel)
 | .wr,.no,h => absurd h (by decide +kernel)
 | .wr,.rd,h => absurd h (by decide +kernel)
 | .wr,.wr,_ => rfl
theorem nC {r q : Rt} {x : Str} (e : x = q.s) (h : r≠q) : decide (V.str r.s = V.str x) = false := decide_eq_false fun z => h (Rt.aub ((V.str.inj z).trans e))
theorem aO {c : Bool} {A B : Prop} (h : c = false) (hb : B) : if c = true then A else B := by rw [h]; exact wJ hb
theorem bF {c : Bool} {A B : Prop} (h : c = true) (ha : A) : if c = true then A else B := by rw [h]; exact oh ha
inductive W where
 | look (p : Int) | put (p n : Int)
def W.pg : W→Int
 | .look p => p
 | .put p _ => p
def W.need : W→Rt
 | .look _ => .rd
 | .put _ _ => .wr
def W.tag : W→Str
 | .look _ => "look"
 | .put _ _ => "put"
def W.vs : W→List V
 | .look p => [.str "look",.int p]
 | .put p n => [.str "put",.int p,.int n]
structure DS where
 rt : Int→Rt
 nm : Int→Int
 ws : Option W
def DS.hold (S : DS) (p : Int) (r : Rt) (n : Int) : DS := { S with rt := fun q => if q = p then r else S.rt q,nm := fun q => if q = p then n else S.nm q }
theorem DS.abp (S : DS) (p : Int) (r : Rt) (n : Int) : (S.hold p r n).rt p = r := by unfold DS.hold; dsimp only; rw [if_pos rfl]
theorem DS.aii (S : DS) (p : Int) (r : Rt) (n : Int) : (S.hold p r n).nm p = n := by unfold DS.hold; dsimp only; rw [if_pos rfl]
theorem DS.aeF (S : DS) {p q : Int} (r : Rt) (n : Int) (h : q≠p) : (S.hold p r n).rt q = S.rt q := by unfold DS.hold; dsimp only; rw [if_neg h]
theorem DS.aeG (S : DS) {p q : Int} (r : Rt) (n : Int) (h : q≠p) : (S.hold p r n).nm q = S.nm q := by unfold DS.hold; dsimp only; rw [if_neg h]
def DS.ok (S : DS) (w : W) : Prop := w.need.k≤(S.rt w.pg).k
instance (S : DS) (w : W) : Decidable (S.ok w) := inferInstanceAs (Decidable (_≤_))
def DS.done (S : DS) : W→DS
 | .look _ => S
 | .put p n => S.hold p (S.rt p) n
def DS.num (S : DS) : W→Int
 | .look p => S.nm p
 | .put _ n => n
def DS.tell (S : DS) (p : Int) : V := if S.rt p = .wr then .int (S.nm p) else .non
def rN (H : Hp) (v : V) : Option W→Prop
 | none => v = .non
 | some w => ∃ a,v = .ref a∧H a = some (.tup w.vs)
def rO (H : Hp) (o : Option V) (r : Rt) (n : Int) : Prop := if r = .no then o = none else ∃ t,o = some (.ref t)∧H t = some (.tup [.str r.s,.int n])
theorem cw : ¬ (("copies" : Str) = "wish") := by decide +kernel
def Bo (d : Addr) (v : V) : List (Str×V) := fW "wish" v (fW "copies" (.ref d) [])
theorem abq (d : Addr) (v : V) : Bo d v = ([("copies",V.ref d),("wish",v)] : List (Str×V)) := by
 show (if ("copies" : Str) = "wish" then [(("copies" : Str),v)] else (("copies" : Str),V.ref d) :: fW "wish" v []) = ([("copies",V.ref d),("wish",v)] : List (Str×V))
 rw [if_neg cw]
 all_goals rfl
theorem jG (d : Addr) (v : V) : (Bo d v).lookup ("copies" : Str) = some (.ref d) := by
 unfold Bo
 rw [jC,if_neg cw,jC,if_pos rfl]
theorem aaH (d : Addr) (v : V) : (Bo d v).lookup ("wish" : Str) = some v := by
 unfold Bo
 rw [jC,if_pos rfl]
theorem fj (d : Addr) (v : V) {m : Str} (h1 : ¬ m = "wish") (h2 : ¬ m = "copies") : (Bo d v).lookup m = none := by
 unfold Bo
 rw [jC,if_neg h1,jC,if_neg h2]
 all_goals rfl
theorem aeH (d : Addr) (v u : V) : fW "wish" u (Bo d v) = Bo d u := by
 rw [abq,abq]
 show (if ("copies" : Str) = "wish" then _ else (("copies" : Str),V.ref d) :: (if ("wish" : Str) = "wish" then [(("wish" : Str),u)] else _)) = ([("copies",V.ref d),("wish",u)] : List (Str×V))
 rw [if_neg cw,if_pos rfl]
theorem aeI (d : Addr) (v : V) : (Bo d v).length = 2 := by rw [abq]; rfl
structure cg (C : Addr) (H : Hp) (p d : Addr) (S : DS) (c : Nat) : Prop where
 ob : ∃ dx v,H p = some (.ins C dx (Bo d v))∧rN H v S.ws
 dc : ∃ kvs,H d = some (.dK kvs)∧kvs.length≤c∧∀ n : Int,rO H (fJ kvs (Sum.inl n : Key)) (S.rt n) (S.nm n)
def DF (H H' : Hp) (p d : Addr) : Prop := ∀ b o,H b = some o→b≠p→b≠d→H' b = some o
theorem DF.refl (H : Hp) (p d : Addr) : DF H H p d := fun _ _ h _ _ => h
theorem DF.trans {H H1 H2 : Hp} {p d : Addr} (a : DF H H1 p d) (b : DF H1 H2 p d) : DF H H2 p d := fun c o h h1 h2 => b c o (a c o h h1 h2) h1 h2
theorem cg.npd {C : Addr} {H : Hp} {p d : Addr} {S : DS} {c : Nat} (D : cg C H p d S c) : p≠d := by
 obtain ⟨⟨dx,v,h1,_⟩,⟨kvs,h2,_⟩⟩ := D
 exact jf h1 h2 (by intro z; cases z)
theorem cg.mono {C : Addr} {H : Hp} {p d : Addr} {S : DS} {c c' : Nat} (D : cg C H p d S c) (h : c≤c') : cg C H p d S c' := by
 obtain ⟨o,⟨kvs,h2,h3,h4⟩⟩ := D
 exact ⟨o,⟨kvs,h2,Nat.le_trans h3 h,h4⟩⟩
theorem rN.aU {H H' : Hp} (h : bY H H') {v : V} {o : Option W} (w : rN H v o) : rN H' v o := by
 cases o with
 | none => exact w
 | some w' =>
   obtain ⟨a,e,ha⟩ := w
   exact ⟨a,e,h a _ ha⟩
theorem rO.aU {H H' : Hp} (h : bY H H') {o : Option V} {r : Rt} {n : Int} (w : rO H o r n) : rO H' o r n := by
 unfold rO at w ⊢
 split
 ·rename_i e; rw [if_pos e] at w; exact w
 ·rename_i e
  rw [if_neg e] at w
  obtain ⟨t,e,ha⟩ := w
  exact ⟨t,e,h t _ ha⟩
theorem cg.keep {C : Addr} {H H' : Hp} {p d : Addr} {S : DS} {c : Nat} (D : cg C H p d S c) (h : bY H H') (hp : ∀ o,H p = some o→H' p = some o) (hd : ∀ o,H d = some o→H' d = some o) : cg C H' p d S c := by
 obtain ⟨⟨dx,v,h1,h2⟩,⟨kvs,h3,h4,h5⟩⟩ := D
 exact ⟨⟨dx,v,hp _ h1,h2.aU h⟩,⟨kvs,hd _ h3,h4,fun n => (h5 n).aU h⟩⟩
theorem cg.same {C : Addr} {H H' : Hp} {p d : Addr} {S : DS} {c : Nat} (D : cg C H p d S c) (h : bZ H H') : cg C H' p d S c := D.keep (fun b xs e => h b _ e) (fun o e => h p o e) fun o e => h d o e
theorem DF.tups {C : Addr} {H H' : Hp} {p d : Addr} {S : DS} {c : Nat} (D : cg C H p d S c) (h : DF H H' p d) : bY H H' := fun b xs e => by
 obtain ⟨⟨dx,v,h1,_⟩,⟨kvs,h2,_⟩⟩ := D
 exact h b _ e (jf e h1 (by intro z; cases z)) (jf e h2 (by intro z; cases z))
theorem DF.seqs {C : Addr} {H H' : Hp} {p d : Addr} {S : DS} {c : Nat} (D : cg C H p d S c) (h : DF H H' p d) : yz H H' := ⟨h.tups D,fun b xs e => by
 obtain ⟨⟨dx,v,h1,_⟩,⟨kvs,h2,_⟩⟩ := D
 exact h b _ e (jf e h1 (by intro z; cases z)) (jf e h2 (by intro z; cases z))⟩
theorem abr {H : Hp} {a : Addr} {o : HO} (h : H a = none) : bY H (upd H a o) := fun b xs e => by rw [aq (aF e h)]; exact e
theorem uz {H : Hp} {a : Addr} {o : HO} (h : H a = none) : yz H (upd H a o) := ⟨abr h,fun b xs e => by rw [aq (aF e h)]; exact e⟩
theorem aA {H : Hp} {a : Addr} {o : HO} (h : H a = none) : bZ H (upd H a o) := fun b u e => by rw [aq (aF e h)]; exact e
theorem DF.new {H : Hp} {p d a : Addr} {o : HO} (h : H a = none) : DF H (upd H a o) p d := fun b u e _ _ => aA h b u e
theorem am2 {H : Hp} {a : Addr} {xs : List V} {ds : List D} (h : H a = none) (r : aG H xs ds) : Rep (upd H a (.tup xs)) (.ref a) (.t ds) := by
 simp only [Rep]
 exact ⟨a,xs,rfl,aj,r.mono (uz h)⟩
def nw (H H' : Hp) : Hp := fun b => match H b with
 | none => H' b
 | some (.tup _) => H' b
 | some _ => none
theorem lX {H H' : Hp} {b : Addr} {o : HO} (h : nw H H' b = some o) : H' b = some o∧(H b = none∨∃ xs,H b = some (.tup xs)) := by
 unfold nw at h
 split at h
 ·rename_i e; exact ⟨h,.inl e⟩
 ·rename_i xs e; exact ⟨h,.inr ⟨xs,e⟩⟩
 ·cases h
theorem VB {H H' : Hp} {b : Addr} {o : HO} (h : H' b = some o) (q : H b = none∨∃ xs,H b = some (.tup xs)) : nw H H' b = some o := by
 unfold nw
 rcases q with e | ⟨xs,e⟩ <;> rw [e] <;> exact h
theorem agU {H H' : Hp} : yz (nw H H') H' := ⟨fun _ _ h => (lX h).1,fun _ _ h => (lX h).1⟩
theorem uA {H H1 H2 : Hp} (h : yz H1 H2) : yz (nw H H1) (nw H H2) := ⟨fun b xs e => VB (h.1 b xs (lX e).1) (lX e).2,fun b xs e => VB (h.2 b xs (lX e).1) (lX e).2⟩
theorem wM {H H1 : Hp} {a : Addr} {xs : List V} {ds : List D} (hH : H a = none) (h : H1 a = none) (r : aG (nw H H1) xs ds) : Rep (nw H (upd H1 a (.tup xs))) (.ref a) (.t ds) := by
 simp only [Rep]
 exact ⟨a,xs,rfl,VB aj (.inl hH),r.mono (uA (uz h))⟩
theorem jH {H H1 : Hp} {a : Addr} {xs : List V} {ds : List D} (hH : H a = none) (h : H1 a = none) (r : aG (nw H H1) xs ds) : Rep (nw H (upd H1 a (.lst xs))) (.ref a) (.l ds) := by
 simp only [Rep]
 exact ⟨a,xs,rfl,VB aj (.inl hH),r.mono (uA (uz h))⟩
def Kept (H H1 : Hp) : Prop := ∀ b o,H b = some o→∃ o',H1 b = some o'∧((∀ xs,o≠.tup xs)→∀ xs,o'≠.tup xs)
theorem Kept.free {H H1 : Hp} (h : Kept H H1) {a : Addr} (e : H1 a = none) : H a = none := by
 cases q : H a with
 | none => rfl
 | some o => obtain ⟨o',z,_⟩ := h a o q; rw [e] at z; cases z
theorem Kept.tup {H H1 : Hp} (h : Kept H H1) {b : Addr} {xs : List V} (e : H1 b = some (.tup xs)) : H b = none∨∃ ys,H b = some (.tup ys) := by
 cases q : H b with
 | none => exact .inl rfl
 | some o =>
   obtain ⟨o',z,y⟩ := h b o q
   by_cases ht : ∃ xs,o = .tup xs
   ·obtain ⟨ys,rfl⟩ := ht; exact .inr ⟨ys,rfl⟩
   ·rw [e] at z; cases z
    exact absurd rfl (y (fun ys z => ht ⟨ys,z⟩) xs)
theorem Kept.refl (H : Hp) : Kept H H := fun b o e => ⟨o,e,fun h => h⟩
theorem Kept.new {H H1 : Hp} (h : Kept H H1) {a : Addr} {o : HO} (e : H1 a = none) : Kept H (upd H1 a o) := fun b u q => by
 obtain ⟨o',z,y⟩ := h b u q
 exact ⟨o',by rw [aq (aF z e)]; exact z,y⟩
theorem DF.kept {C : Addr} {H H' : Hp} {p d : Addr} {S S' : DS} {c c' : Nat} (D : cg C H p d S c) (D' : cg C H' p d S' c') (h : DF H H' p d) : Kept H H' := fun b o e => by
 by_cases hp : b = p
 ·subst hp
  obtain ⟨⟨dx,v,h1,_⟩,_⟩ := D'
  exact ⟨_,h1,fun _ xs z => by cases z⟩
 ·by_cases hd : b = d
  ·subst hd
   obtain ⟨_,⟨kvs,h2,_⟩⟩ := D'
   exact ⟨_,h2,fun _ xs z => by cases z⟩
  ·exact ⟨o,h b o e hp hd,fun z => z⟩
inductive Let where
 | lend (p : Int) (r : Rt) (n : Int) | back (p : Int) (r : Rt)
def Let.vs : Let→List V
 | .lend p r n => [.str "lend",.int p,.str r.s,.int n]
 | .back p r => [.str "back",.int p,.str r.s]
def Let.d : Let→D
 | .lend p r n => .t [.s "lend",.i p,.s r.s,.i n]
 | .back p r => .t [.s "back",.i p,.s r.s]
def VD : V→D
 | .int k => .i k
 | _ => .n
def DS.f9 (S : DS) (p : Int) (r : Rt) (n : Int) : DS×List D :=
 let S1 := S.hold p r n
 match S.ws with
 | none => (S1,[])
 | some w => if w.pg = p∧S1.ok w then (({ S1 with ws := none } : DS).done w,[.t [.s w.tag,.i w.pg,.i (S1.num w)]]) else (S1,[])
def DS.down (S : DS) (p : Int) (r : Rt) : DS := if (S.rt p).k≤r.k then S else S.hold p r (S.nm p)
def DS.take (S : DS) : Let→DS×D
 | .lend p r n => ((S.f9 p r n).1,.t [.l (S.f9 p r n).2,.l []])
 | .back p r => (S.down p r,.t [.l [],.l [.t [.s "answer",.i p,VD (S.tell p)]]])
def DS.want (S : DS) (w : W) : DS×D := if S.ok w then (S.done w,.t [.l [.t [.s w.tag,.i w.pg,.i (S.num w)]],.l []]) else ({ S with ws := some w },.t [.l [],.l [.t [.s "ask",.i w.pg,.s w.need.s]]])
def DS.rest (S : DS) (p : Int) : DS×D := (S.hold p .no (S.nm p),.l (if S.rt p = .wr then [.t [.s "gave",.i p,.i (S.nm p)]] else []))
def aeJ (tag : Str) : Sp := fun vs H Q _ => ∃ x y,vs = [x,y]∧∀ a,H a = none→Q (.ref a) (upd H a (.tup [.str tag,x,y]))
def akQ : Sp := fun vs H Q _ => ∃ r n : Rt,vs = [.str r.s,.str n.s]∧Q (.bl (decide (n.k≤r.k))) H
def aqI (K : PySem.W.Frag) : Sp := fun vs H Q _ => ∃ a w,vs = [.ref a]∧H a = some (.tup (W.vs w))∧Q (.str w.need.s) H
def aqJ (C : Addr) : Sp := fun vs H Q _ => ∃ p dx,vs = [.ref p]∧H p = some (.ins C dx [])∧∀ d H',H d = none→cg C H' p d ⟨fun _ => .no,fun _ => 0,none⟩ 0→(∀ b o,H b = some o→b≠p→H' b = some o)→Q .non H'
def am3 (C : Addr) : Sp := fun vs H Q _ => ∃ p d S c n,vs = [.ref p,.int n]∧cg C H p d S c∧Q (.str (S.rt n).s) H
def am4 (C : Addr) : Sp := fun vs H Q _ => ∃ p d S c,vs = [.ref p]∧cg C H p d S c∧Q (.bl S.ws.isSome) H
def auc (C : Addr) : Sp := fun vs H Q _ => ∃ p d S c a w,vs = [.ref p,.ref a]∧cg C H p d S c∧H a = some (.tup (W.vs w))∧Q (.bl (decide (S.ok w))) H
def aqK (C : Addr) : Sp := fun vs H Q _ => ∃ p d S c n,vs = [.ref p,.int n]∧cg C H p d S c∧Q (S.tell n) H
def aqL (C : Addr) : Sp := fun vs H Q _ => ∃ p d S c n r k v,vs = [.ref p,.int n,.str (Rt.s r),v]∧cg C H p d S c∧c≤1000000∧(r = .no∨v = .int k)∧∀ H',cg C H' p d (S.hold n r k) (c + 1)→DF H H' p d→Q .non H'
def axo (C : Addr) : Sp := fun vs H Q _ => ∃ p d S c a w,vs = [.ref p,.ref a]∧cg C H p d S c∧c≤1000000∧H a = some (.tup (W.vs w))∧S.ok w∧
 ∀ t H',cg C H' p d (S.done w) (c + 1)→DF H H' p d→H' t = some (.tup [.str w.tag,.int w.pg,.int (S.num w)])→Q (.ref t) H'
def aqM (C : Addr) : Sp := fun vs H Q _ => ∃ p d S c n r k,vs = [.ref p,.int n,.str (Rt.s r),.int k]∧cg C H p d S c∧c≤900000∧
 ∀ v H',cg C H' p d (S.f9 n r k).1 (c + 2)→DF H H' p d→Rep (nw H H') v (.l (S.f9 n r k).2)→Q v H'
def aqN (C : Addr) : Sp := fun vs H Q _ => ∃ p d S c n r,vs = [.ref p,.int n,.str (Rt.s r)]∧cg C H p d S c∧c≤900000∧
 ∀ v H',cg C H' p d (S.down n r) (c + 2)→DF H H' p d→Rep H' v (.t [.s "answer",.i n,VD (S.tell n)])→Q v H'
def aqO (C : Addr) : Sp := fun vs H Q _ => ∃ p d S c a l,vs = [.ref p,.ref a]∧cg C H p d S c∧c≤900000∧H a = some (.tup (Let.vs l))∧
 ∀ v H',cg C H' p d (S.take l).1 (c + 2)→DF H H' p d→Rep (nw H H') v (S.take l).2→Q v H'
end iz
namespace iz
open PySem L2
def bO {α : Type} (f : Nat→α) (i : Nat) (v : α) : Nat→α := fun j => if j = i then v else f j
theorem aM {α : Type} (f : Nat→α) (i : Nat) (v : α) : bO f i v i = v := by simp [bO]
theorem bC {α : Type} (f : Nat→α) {i j : Nat} (v : α) (h : j≠i) : bO f i v j = f j := by simp [bO,h]
theorem yD {α : Type} (f : Nat→α) (i : Nat) : bO f i (f i) = f := by funext j; unfold bO; split <;> simp_all
theorem lG {α : Type} (f : Nat→α) (i : Nat) (v w : α) : bO (bO f i v) i w = bO f i w := by funext j; unfold bO; split <;> rfl
inductive UL where
 | ask (p : Nat) (r : Rt) | ans (p : Nat) (o : Option Int) | gave (p : Nat) (n : Int)
def oV : Option Int→V
 | none => .non
 | some k => .int k
def oD : Option Int→D
 | none => .n
 | some k => .i k
def UL.vs : UL→List V
 | .ask p r => [.str "ask",.int p,.str r.s]
 | .ans p o => [.str "answer",.int p,oV o]
 | .gave p n => [.str "gave",.int p,.int n]
def UL.d : UL→D
 | .ask p r => .t [.s "ask",.i p,.s r.s]
 | .ans p o => .t [.s "answer",.i p,oD o]
 | .gave p n => .t [.s "gave",.i p,.i n]
def UL.pg : UL→Nat
 | .ask p _ => p
 | .ans p _ => p
 | .gave p _ => p
structure PG where
 num : Int
 wr : Option Nat
 rd : List Nat
 ask : List (Nat×Rt)
 miss : Int
def low (r : Rt) : Rt := if r = .rd then .rd else .no
def pC (g : PG) (p a : Nat) (r : Rt) : List (Nat×Let) := match g.wr with
 | some w => if w = a then [] else [(w,.back p (low r))]
 | none => []
def pD (g : PG) (p a : Nat) (r : Rt) : List (Nat×Let) := if r = .wr then (g.rd.filter fun d => decide (d≠a)).map fun d => (d,.back p .no) else []
def PG.dH (g : PG) (p : Nat) : List (Nat×Let) := match g.ask with
 | [] => []
 | (a,r) :: _ => pC g p a r ++ pD g p a r
def kI (g : PG) (a : Nat) : PG := { g with wr := none,rd := if a∈g.rd ++ g.wr.toList then g.rd ++ g.wr.toList else g.rd ++ g.wr.toList ++ [a] }
def lY (g : PG) (a : Nat) : PG := { g with wr := some a,rd := [] }
def PG.lent (g : PG) : PG := match g.ask with
 | [] => g
 | (a,r) :: q => if r = .wr then lY { g with ask := q } a else kI { g with ask := q } a
def PG.dX (g : PG) (p : Nat) : List (Nat×Let) := match g.ask with
 | [] => []
 | (a,r) :: _ => [(a,.lend p r g.num)]
theorem PG.Di (g : PG) : g.lent.ask.length = g.ask.length - 1 := by
 unfold PG.lent
 cases h : g.ask with
 | nil => simp [h]
 | cons x q => obtain ⟨a,r⟩ := x; dsimp only; split <;> simp [lY,kI]
def ou : Nat→PG→Nat→PG×List (Nat×Let)
 | 0,g,_ => (g,[])
 | k + 1,g,p => if (g.dH p).isEmpty then ((ou k g.lent p).1,g.dX p ++ (ou k g.lent p).2) else ({ g with miss := (g.dH p).length },g.dH p)
def PG.serve (g : PG) (p : Nat) : PG×List (Nat×Let) := ou g.ask.length g p
theorem Gm {g : PG} {p : Nat} (h : g.ask = []) : g.serve p = (g,[]) := by unfold PG.serve; rw [h]; rfl
theorem yE {g : PG} {p : Nat} (h : g.ask≠[]) (hb : g.dH p = []) : g.serve p = ((g.lent.serve p).1,g.dX p ++ (g.lent.serve p).2) := by
 unfold PG.serve
 rw [PG.Di]
 cases h' : g.ask with
 | nil => exact absurd h' h
 | cons x q => rw [List.length_cons,ou,hb,if_pos (by rfl)]; rfl
theorem Gn {g : PG} {p : Nat} (h : g.ask≠[]) (hb : g.dH p≠[]) : g.serve p = ({ g with miss := (g.dH p).length },g.dH p) := by
 unfold PG.serve
 cases h' : g.ask with
 | nil => exact absurd h' h
 | cons x q => rw [List.length_cons,ou,if_neg (by simpa using hb),h']
def PG.take (g : PG) (p d : Nat) : UL→PG×List (Nat×Let)
 | .ask _ r => if g.ask = [] then PG.serve { g with ask := [(d,r)] } p else ({ g with ask := g.ask ++ [(d,r)] },[])
 | .ans _ o => if g.miss - 1 = 0 then
    ((PG.serve (PG.lent { g with num := o.getD g.num,miss := g.miss - 1 }) p).1,PG.dX { g with num := o.getD g.num,miss := g.miss - 1 } p ++ (PG.serve (PG.lent { g with num := o.getD g.num,miss := g.miss - 1 }) p).2)
   else ({ g with num := o.getD g.num,miss := g.miss - 1 },[])
 | .gave _ n => ({ g with num := n,wr := if g.wr = some d then none else g.wr },[])
def post (dn : Nat→List Let) (ls : List (Nat×Let)) : Nat→List Let := ls.foldl (fun f q => bO f q.1 (f q.1 ++ [q.2])) dn
theorem pF (dn : Nat→List Let) (a b : List (Nat×Let)) : post dn (a ++ b) = post (post dn a) b := by unfold post; rw [List.foldl_append]
theorem Ou (dn : Nat→List Let) (x : Nat×Let) (b : List (Nat×Let)) : post dn (x :: b) = post (bO dn x.1 (dn x.1 ++ [x.2])) b := rfl
theorem aaI (dn : Nat→List Let) (a : List (Nat×Let)) (x : Nat×Let) : post dn (a ++ [x]) = bO (post dn a) x.1 (post dn a x.1 ++ [x.2]) := by rw [pF]; rfl
theorem Kf (dn : Nat→List Let) (ls : List (Nat×Let)) (x : Nat) : (post dn ls x).length≤(dn x).length + ls.length := by
 induction ls generalizing dn with
 | nil => exact Nat.le_refl _
 | cons q r ih =>
   rw [Ou]
   refine Nat.le_trans (ih _) ?_
   rw [List.length_cons]
   by_cases e : x = q.1
   ·rw [e,aM,List.length_append]; simp; lia
   ·rw [bC _ _ e]; lia
abbrev Ev := Bool×Int×Int
def aeK (b : Bool) : Str := if b then "put" else "look"
def evD (e : Ev) : D := .t [.s (aeK e.1),.i e.2.1,.i e.2.2]
def W.Dj : W→Bool
 | .look _ => false
 | .put _ _ => true
theorem W.agV (w : W) : w.tag = aeK w.Dj := by cases w <;> rfl
structure RE where
 put : Bool
 dk : Nat
 pg : Int
 num : Int
def RE.d (e : RE) : D := .t [.s (aeK e.put),.i e.dk,.i e.pg,.i e.num]
structure TS where
 ds : Nat→DS
 pg : Nat→PG
 up : Nat→List UL
 dn : Nat→List Let
 row : List RE
def DS.iC (S : DS) (w : W) (p : Nat) : DS×List Ev×List UL := if S.ok w then (S.done w,[(w.Dj,w.pg,S.num w)],[]) else ({ S with ws := some w },[],[.ask p w.need])
def DS.pG (S : DS) (p : Int) (r : Rt) (n : Int) : DS×List Ev :=
 match S.ws with
 | none => (S.hold p r n,[])
 | some w => if w.pg = p∧(S.hold p r n).ok w then (({ S.hold p r n with ws := none } : DS).done w,[(w.Dj,w.pg,(S.hold p r n).num w)]) else (S.hold p r n,[])
def DS.lZ (S : DS) (p : Int) : Option Int := if S.rt p = .wr then some (S.nm p) else none
def Let.pg : Let→Int
 | .lend p _ _ => p
 | .back p _ => p
def DS.wN (S : DS) : Let→DS×List Ev×List UL
 | .lend p r n => ((S.pG p r n).1,(S.pG p r n).2,[])
 | .back p r => (S.down p r,[],[.ans p.toNat (S.lZ p)])
theorem DS.aik (S : DS) (w : W) {p : Nat} (hp : w.pg = p) : S.want w = ((S.iC w p).1,.t [.l ((S.iC w p).2.1.map evD),.l ((S.iC w p).2.2.map UL.d)]) := by
 unfold DS.want DS.iC
 split
 ·simp [evD,W.agV]
 ·simp [UL.d,hp]
theorem DS.am5 (S : DS) (p : Int) (r : Rt) (n : Int) : S.f9 p r n = ((S.pG p r n).1,(S.pG p r n).2.map evD) := by
 unfold DS.f9 DS.pG
 cases h : S.ws with
 | none => rfl
 | some w => dsimp only; split <;> simp [evD,W.agV]
theorem DS.am6 (S : DS) (p : Int) : S.tell p = oV (S.lZ p) := by unfold DS.tell DS.lZ; split <;> rfl
theorem akR (o : Option Int) : VD (oV o) = oD o := by cases o <;> rfl
theorem DS.am7 (S : DS) (l : Let) {p : Nat} (hp : l.pg = p) : S.take l = ((S.wN l).1,.t [.l ((S.wN l).2.1.map evD),.l ((S.wN l).2.2.map UL.d)]) := by
 cases l with
 | lend q r n => simp only [DS.take,DS.wN,DS.am5]; rfl
 | back q r =>
   have hq : q = (p : Int) := hp
   subst hq
   simp only [DS.take,DS.wN,DS.am6,akR]
   simp [UL.d]
def fU (row : List RE) (d : Nat) (es : List Ev) : List RE := row ++ es.map fun e => ⟨e.1,d,e.2.1,e.2.2⟩
def TS.kW (S : TS) (d : Nat) (z : DS×List Ev×List UL) : TS := { S with ds := bO S.ds d z.1,up := bO S.up d (S.up d ++ z.2.2),row := fU S.row d z.2.1 }
def TS.agW (S : TS) (d : Nat) (l : UL) (r : List UL) : TS := { S with up := bO S.up d r,pg := bO S.pg l.pg ((S.pg l.pg).take l.pg d l).1,dn := post S.dn ((S.pg l.pg).take l.pg d l).2 }
def TS.RV (S : TS) (d : Nat) (l : Let) (r : List Let) : TS := TS.kW { S with dn := bO S.dn d r } d ((S.ds d).wN l)
def TS.vH (S : TS) (d : Nat) (p : Nat) : TS := TS.kW S d ((S.ds d).hold p .no ((S.ds d).nm p),[],if (S.ds d).rt p = .wr then [.gave p ((S.ds d).nm p)] else [])
inductive cA where
 | look (d p : Int) | put (d p n : Int) | rest (d p : Int) | up (d : Int) | down (d : Int)
def cA.vs : cA→List V
 | .look d p => [.str "look",.int d,.int p]
 | .put d p n => [.str "put",.int d,.int p,.int n]
 | .rest d p => [.str "rest",.int d,.int p]
 | .up d => [.str "up",.int d]
 | .down d => [.str "down",.int d]
def cA.d : cA→D
 | .look d p => .t [.s "look",.i d,.i p]
 | .put d p n => .t [.s "put",.i d,.i p,.i n]
 | .rest d p => .t [.s "rest",.i d,.i p]
 | .up d => .t [.s "up",.i d]
 | .down d => .t [.s "down",.i d]
def TS.wish (S : TS) (d p : Nat) (w : W) (told : D) : TS×D := match (S.ds d).ws with
 | some _ => (S,.s "waiting")
 | none => (S.kW d ((S.ds d).iC w p),if (S.ds d).ok w then told else .s "waits")
def TS.upD (S : TS) (d : Nat) : TS×D := match S.up d with
 | [] => (S,.s "no letter")
 | l :: r => (S.agW d l r,l.d)
def TS.QM (S : TS) (d : Nat) : TS×D := match S.dn d with
 | [] => (S,.s "no letter")
 | l :: r => (S.RV d l r,l.d)
def inR (d : Int) (n : Nat) : Prop := 0≤d∧d < n
instance (d : Int) (n : Nat) : Decidable (inR d n) := inferInstanceAs (Decidable (_∧_))
def TS.step (n m : Nat) (S : TS) : cA→TS×D
 | .up d => if inR d n then S.upD d.toNat else (S,.s "no desk")
 | .down d => if inR d n then S.QM d.toNat else (S,.s "no desk")
 | .rest d p => if inR d n then (if inR p m then (if (S.ds d.toNat).rt p = .no then (S,.s "no copy") else (S.vH d.toNat p.toNat,.s "done")) else (S,.s "no page")) else (S,.s "no desk")
 | .look d p => if inR d n then (if inR p m then S.wish d.toNat p.toNat (.look p) (.i ((S.ds d.toNat).nm p)) else (S,.s "no page")) else (S,.s "no desk")
 | .put d p x => if inR d n then (if inR p m then S.wish d.toNat p.toNat (.put p x) (.s "done") else (S,.s "no page")) else (S,.s "no desk")
end iz
namespace iz
open PySem L2
theorem fP {A B : L2.TS} {D : Ends} {σ : St} {H : Hp} (R : St→Hp→Prop) (ha : ∀ N : St→Hp→Prop,(∀ σ' H',R σ' H'→N σ' H')→A { D with nx := N } σ H) (hb : ∀ σ' H',R σ' H'→B D σ' H') : aQ A B D σ H := ha _ hb
def nV (d : Nat) : V := .int d
theorem aY {H H' : Hp} (h : bZ H H') : bY H H' := fun b xs e => h b _ e
theorem fK {H H1 : Hp} {l : Addr} {o : HO} (h : bZ H H1) (hn : H l = none) : bZ H (upd H1 l o) := fun b u e => by rw [aq (aF e hn)]; exact h b u e
theorem jw {H : Hp} {l : Addr} {us vs : List V} (h : H l = some (.lst us)) : bY H (upd H l (.lst vs)) := fun b xs e => by rw [aq (jf e h (by intro z; cases z))]; exact e
theorem akS {α : Type} (x : α) (xs : List α) : seqIndex? 0 (x :: xs).length = some 0 := by simp [seqIndex?]
theorem c7 {a b : Str} (h : a≠b) : decide (V.str a = V.str b) = false := decide_eq_false fun z => h (V.str.inj z)
theorem fu {a : Str} : decide (V.str a = V.str a) = true := decide_eq_true rfl
def Bp (x : Nat×Rt) : D := .t [.i x.1,.s x.2.s]
def pairD (x : Nat×Let) : D := .t [.i x.1,x.2.d]
def wrV : Option Nat→V
 | none => .non
 | some w => .int w
def Aa (p : Nat) (g : PG) (r q : Addr) : List (Str×V) := [("page",.int p),("number",.int g.num),("writer",wrV g.wr),("readers",.ref r),("asked",.ref q),("awaited",.int g.miss)]
section
variable {p : Nat} {g : PG} {r q : Addr}
theorem akT {n : Int} : fW "awaited" (.int 0) (fW "asked" (.ref q) (fW "readers" (.ref r) (fW "writer" .non (fW "number" (.int n) (fW "page" (.int p) []))))) = Aa p ⟨n,none,[],[],0⟩ r q := by kernel_rfl
theorem ail {n : Int} : fW "number" (.int n) (Aa p g r q) = Aa p { g with num := n } r q := by kernel_rfl
theorem aim : fW "writer" .non (Aa p g r q) = Aa p { g with wr := none } r q := by kernel_rfl
theorem am8 {d : Nat} : fW "writer" (.int d) (Aa p g r q) = Aa p { g with wr := some d } r q := by kernel_rfl
theorem aqP {r' : Addr} {l : List Nat} : fW "readers" (.ref r') (Aa p g r q) = Aa p { g with rd := l } r' q := by kernel_rfl
theorem aeL {k : Int} : fW "awaited" (.int k) (Aa p g r q) = Aa p { g with miss := k } r q := by kernel_rfl
theorem VF : (Aa p g r q).lookup ("page" : Str) = some (.int p) := by kernel_rfl
theorem agX : (Aa p g r q).lookup ("number" : Str) = some (.int g.num) := by kernel_rfl
theorem rP : (Aa p g r q).lookup ("writer" : Str) = some (wrV g.wr) := by kernel_rfl
theorem uB : (Aa p g r q).lookup ("readers" : Str) = some (.ref r) := by kernel_rfl
theorem rH : (Aa p g r q).lookup ("asked" : Str) = some (.ref q) := by kernel_rfl
theorem QQ : (Aa p g r q).lookup ("awaited" : Str) = some (.int g.miss) := by kernel_rfl
theorem uC : (Aa p g r q).length < 1000 := by show 6 < 1000; decide
theorem aaJ : (Aa p g r q).lookup ("serve" : Str) = none := by kernel_rfl
theorem aeM : (Aa p g r q).lookup ("lend" : Str) = none := by kernel_rfl
theorem akU : (Aa p g r q).lookup ("bids_for_first" : Str) = none := by kernel_rfl
theorem aqQ : (Aa p g r q).lookup ("let_write" : Str) = none := by kernel_rfl
theorem aqR : (Aa p g r q).lookup ("let_read" : Str) = none := by kernel_rfl
theorem aqS : (Aa p g r q).lookup ("take_ask" : Str) = none := by kernel_rfl
theorem aqT : (Aa p g r q).lookup ("take_answer" : Str) = none := by kernel_rfl
theorem aqU : (Aa p g r q).lookup ("take_gave" : Str) = none := by kernel_rfl
end
structure fV (C : Addr) (H : Hp) (a r q : Addr) (p : Nat) (g : PG) : Prop where
 ob : ∃ dx,H a = some (.ins C dx (Aa p g r q))
 rl : H r = some (.lst (g.rd.map nV))
 al : ∃ vs,H q = some (.lst vs)∧aG H vs (g.ask.map Bp)
 ne : r≠q
def Lv (H H' : Hp) : Prop := ∀ b,H' b = none→H b = none
theorem Lv.refl (H : Hp) : Lv H H := fun _ h => h
theorem Lv.trans {H H1 H2 : Hp} (x : Lv H H1) (y : Lv H1 H2) : Lv H H2 := fun b h => x b (y b h)
theorem Lv.upd {H : Hp} {a : Addr} {o : HO} : Lv H (upd H a o) := fun b h => by
 by_cases e : b = a
 ·rw [e,aj] at h; cases h
 ·rw [aq e] at h; exact h
theorem Lv.same {H H' : Hp} (h : bZ H H') : Lv H H' := fun b e => by
 cases q : H b with
 | none => rfl
 | some o => rw [h b o q] at e; cases e
structure PF (H H' : Hp) (a r q : Addr) : Prop where
 kp : ∀ b o,H b = some o→b≠a→b≠r→b≠q→H' b = some o
 lv : Lv H H'
theorem PF.refl (H : Hp) (a r q : Addr) : PF H H a r q := ⟨fun _ _ h _ _ _ => h,Lv.refl _⟩
theorem PF.trans {H H1 H2 : Hp} {a r q : Addr} (x : PF H H1 a r q) (y : PF H1 H2 a r q) : PF H H2 a r q := ⟨fun b o h h1 h2 h3 => y.kp b o (x.kp b o h h1 h2 h3) h1 h2 h3,x.lv.trans y.lv⟩
theorem PF.trans' {H H1 H2 : Hp} {a r r1 q : Addr} (x : PF H H1 a r q) (y : PF H1 H2 a r1 q) (h : r1 = r∨H r1 = none) : PF H H2 a r q := ⟨fun b o hb h1 h2 h3 => y.kp b o (x.kp b o hb h1 h2 h3) h1 (by
 rcases h with z | z
 ·rw [z]; exact h2
 ·exact aF hb z) h3,x.lv.trans y.lv⟩
theorem jU (l : List (Nat×Rt)) : D.flats (l.map Bp) := by
 induction l with
 | nil => simp [D.flats]
 | cons x l ih => simp only [List.map_cons,D.flats]; exact ⟨by simp [Bp,D.flat,D.flats],ih⟩
theorem Let.flat (l : Let) : l.d.flat := by cases l <;> simp [Let.d,D.flat,D.flats]
theorem cW (l : List (Nat×Let)) : D.flats (l.map pairD) := by
 induction l with
 | nil => simp [D.flats]
 | cons x l ih => simp only [List.map_cons,D.flats]; exact ⟨by simp only [pairD,D.flat,D.flats]; exact ⟨trivial,Let.flat _,trivial⟩,ih⟩
section
variable {C : Addr} {H H' : Hp} {a r q : Addr} {p : Nat} {g : PG}
theorem fV.nar (P : fV C H a r q p g) : a≠r := by obtain ⟨⟨dx,h⟩,h2,_⟩ := P; exact jf h h2 (by intro z; cases z)
theorem fV.naq (P : fV C H a r q p g) : a≠q := by obtain ⟨⟨dx,h⟩,_,⟨vs,h2,_⟩,_⟩ := P; exact jf h h2 (by intro z; cases z)
theorem PF.tups (P : fV C H a r q p g) (h : PF H H' a r q) : bY H H' := fun b xs e => by
 obtain ⟨⟨dx,h1⟩,h2,⟨vs,h3,_⟩,_⟩ := P
 exact h.kp b _ e (jf e h1 (by intro z; cases z)) (jf e h2 (by intro z; cases z)) (jf e h3 (by intro z; cases z))
theorem fV.keep (P : fV C H a r q p g) (t : bY H H') (ha : ∀ o,H a = some o→H' a = some o) (hr : ∀ o,H r = some o→H' r = some o) (hq : ∀ o,H q = some o→H' q = some o) : fV C H' a r q p g := by
 obtain ⟨⟨dx,h1⟩,h2,⟨vs,h3,h4⟩,h5⟩ := P
 exact ⟨⟨dx,ha _ h1⟩,hr _ h2,⟨vs,hq _ h3,h4.aU t (jU _)⟩,h5⟩
theorem fV.same (P : fV C H a r q p g) (h : bZ H H') : fV C H' a r q p g := P.keep (fun b xs e => h b _ e) (fun o e => h _ o e) (fun o e => h _ o e) fun o e => h _ o e
theorem fV.new {b : Addr} {o : HO} (P : fV C H a r q p g) (h : H b = none) : fV C (upd H b o) a r q p g := P.same (aA h)
theorem PF.new {b : Addr} {o : HO} (h : H b = none) : PF H (upd H b o) a r q := ⟨fun c u e _ _ _ => aA h c u e,Lv.upd⟩
theorem fV.wr {dx : Addr} {g' : PG} (P : fV C H a r q p g) (e1 : g'.rd = g.rd) (e2 : g'.ask = g.ask) : fV C (upd H a (.ins C dx (Aa p g' r q))) a r q p g' := by
 have n1 := P.nar
 have n2 := P.naq
 obtain ⟨⟨yo,h1⟩,h2,⟨vs,h3,h4⟩,h5⟩ := P
 have t : bY H (upd H a (.ins C dx (Aa p g' r q))) := fun b xs e => by rw [aq (jf e h1 (by intro z; cases z))]; exact e
 exact ⟨⟨dx,aj⟩,by rw [aq n1.symm,e1]; exact h2,⟨vs,by rw [aq n2.symm]; exact h3,by rw [e2]; exact h4.aU t (jU _)⟩,h5⟩
theorem PF.wr {o : HO} : PF H (upd H a o) a r q := ⟨fun b u e h1 _ _ => by rw [aq h1]; exact e,Lv.upd⟩
theorem PF.wrR {o : HO} : PF H (upd H r o) a r q := ⟨fun b u e _ h2 _ => by rw [aq h2]; exact e,Lv.upd⟩
theorem PF.wrQ {o : HO} : PF H (upd H q o) a r q := ⟨fun b u e _ _ h3 => by rw [aq h3]; exact e,Lv.upd⟩
theorem fV.wrR {l : List Nat} (P : fV C H a r q p g) : fV C (upd H r (.lst (l.map nV))) a r q p { g with rd := l } := by
 have n1 := P.nar
 obtain ⟨⟨yo,h1⟩,h2,⟨vs,h3,h4⟩,h5⟩ := P
 have t : bY H (upd H r (.lst (l.map nV))) := fun b xs e => by rw [aq (jf e h2 (by intro z; cases z))]; exact e
 exact ⟨⟨yo,by rw [aq n1]; exact h1⟩,aj,⟨vs,by rw [aq h5.symm]; exact h3,h4.aU t (jU _)⟩,h5⟩
theorem fV.wrQ {l : List (Nat×Rt)} {vs : List V} (P : fV C H a r q p g) (rp : aG H vs (l.map Bp)) : fV C (upd H q (.lst vs)) a r q p { g with ask := l } := by
 have n1 := P.naq
 obtain ⟨⟨yo,h1⟩,h2,⟨us,h3,h4⟩,h5⟩ := P
 have t : bY H (upd H q (.lst vs)) := fun b xs e => by rw [aq (jf e h3 (by intro z; cases z))]; exact e
 exact ⟨⟨yo,by rw [aq n1]; exact h1⟩,by rw [aq h5]; exact h2,⟨vs,aj,rp.aU t (jU _)⟩,h5⟩
theorem Gp {H : Hp} {vs : List V} {x : Nat×Rt} {l : List (Nat×Rt)} (h : aG H vs ((x :: l).map Bp)) : ∃ t us,vs = .ref t :: us∧H t = some (.tup [.int x.1,.str x.2.s])∧aG H us (l.map Bp) := by
 simp only [List.map_cons,aG] at h
 obtain ⟨v,us,e,rv,rl⟩ := h
 simp only [Bp,Rep,aG] at rv
 obtain ⟨t,xs,e1,e2,_,_,e3,rfl,_,_,e4,rfl,e5⟩ := rv
 subst e1 e5 e4 e3
 exact ⟨t,us,e,e2,rl⟩
end
def ain (C : Addr) (H : Hp) (a r q : Addr) (p : Nat) (z : PG×List (Nat×Let)) (Q : VK) : Prop :=
 ∀ l r' vs H',H l = none→(r' = r∨H r' = none)→l≠r'→fV C H' a r' q p z.1→PF H H' a r q→H' l = some (.lst vs)→aG H' vs (z.2.map pairD)→Q (.ref l) H'
def PG.mu (g : PG) : Nat := g.rd.length + 2 * g.ask.length
theorem PG.qR (g : PG) : g.lent.mu≤g.mu := by
 unfold PG.lent PG.mu
 cases h : g.ask with
 | nil => simp [h]
 | cons x l =>
   obtain ⟨a,r⟩ := x
   dsimp only
   split
   ·simp [lY]; lia
   ·simp only [kI]
    have hw : g.wr.toList.length≤1 := by cases g.wr <;> simp
    split <;> simp [List.length_append] <;> lia
def aio : Sp := fun vs H Q _ => ∃ x y z,vs = [x,y,z]∧∀ a,H a = none→Q (.ref a) (upd H a (.tup [.str "lend",x,y,z]))
def akV (C : Addr) : Sp := fun vs H Q _ => ∃ a dx,∃ p : Nat,∃ n : Int,vs = [.ref a,.int p,.int n]∧H a = some (.ins C dx [])∧∀ r q H',H r = none→H q = none→fV C H' a r q p ⟨n,none,[],[],0⟩→(∀ b o,H b = some o→b≠a→H' b = some o)→Lv H H'→Q .non H'
def aqW (C : Addr) : Sp := fun vs H Q _ => ∃ a r q p g,∃ d : Nat,vs = [.ref a,.int d]∧fV C H a r q p g∧g.rd.length≤1000000∧∀ H',fV C H' a r q p (kI g d)→PF H H' a r q→Q .non H'
def aqX (C : Addr) : Sp := fun vs H Q _ => ∃ a r q p g,∃ d : Nat,vs = [.ref a,.int d]∧fV C H a r q p g∧∀ r' H',H r' = none→fV C H' a r' q p (lY g d)→PF H H' a r q→Q .non H'
def am9 (C : Addr) : Sp := fun vs H Q _ => ∃ a r q p g d x l,vs = [.ref a]∧fV C H a r q p g∧g.ask = (d,x) :: l∧(x = .rd∨x = .wr)∧g.rd.length≤1000000∧
 ∀ v r' H',(r' = r∨H r' = none)→fV C H' a r' q p g.lent→PF H H' a r q→Rep H' v (pairD (d,.lend p x g.num))→Q v H'
def aqY (C : Addr) : Sp := fun vs H Q _ => ∃ a r q p g d x l,vs = [.ref a]∧fV C H a r q p g∧g.ask = (d,x) :: l∧(x = .rd∨x = .wr)∧g.rd.length≤1000000∧
 ∀ b us H',H b = none→bZ H H'→H' b = some (.lst us)→aG H' us ((g.dH p).map pairD)→Q (.ref b) H'
def Rw (l : List (Nat×Rt)) : Prop := ∀ x∈l,x.2 = .rd∨x.2 = .wr
def ana (C : Addr) : Sp := fun vs H Q _ => ∃ a r q p g,vs = [.ref a]∧fV C H a r q p g∧Rw g.ask∧g.mu≤1000000∧ain C H a r q p (g.serve p) Q
def auf (C : Addr) : Sp := fun vs H Q _ => ∃ a r q p g x,∃ d : Nat,vs = [.ref a,.int d,.str (Rt.s x)]∧fV C H a r q p g∧(x = .rd∨x = .wr)∧Rw g.ask∧g.mu≤900000∧ain C H a r q p (g.take p d (.ask p x)) Q
def auh (C : Addr) : Sp := fun vs H Q _ => ∃ a r q p g o,∃ d : Nat,vs = [.ref a,oV o]∧fV C H a r q p g∧(g.miss - 1 = 0→g.ask≠[])∧Rw g.ask∧g.mu≤900000∧ain C H a r q p (g.take p d (.ans p o)) Q
def aqZ (C : Addr) : Sp := fun vs H Q _ => ∃ a r q p g,∃ d : Nat,∃ n : Int,vs = [.ref a,.int d,.int n]∧fV C H a r q p g∧ain C H a r q p (g.take p d (.gave p n)) Q
end iz
namespace iz
open PySem L2
def jA {ι : Type} [DecidableEq ι] (A : ι→Addr) (z : ι) (a : Addr) : ι→Addr := fun x => if x = z then a else A x
theorem cV {ι : Type} [DecidableEq ι] (A : ι→Addr) (z : ι) (a : Addr) : jA A z a z = a := by simp [jA]
theorem bH {ι : Type} [DecidableEq ι] (A : ι→Addr) {z x : ι} (a : Addr) (h : x≠z) : jA A z a x = A x := by simp [jA,h]
theorem Vc {ι : Type} [DecidableEq ι] {A : ι→Addr} {ok ok' : ι→Prop} {z : ι} {a : Addr} (hi : ∀ x y,ok x→ok y→A x = A y→x = y) (hn : ∀ x,ok x→A x≠a) (ho : ∀ x,ok' x→x = z∨ok x) :
 ∀ x y,ok' x→ok' y→jA A z a x = jA A z a y→x = y := by
 intro x y hx hy e
 by_cases h1 : x = z
 ·by_cases h2 : y = z
  ·rw [h1,h2]
  ·rw [h1,cV,bH _ _ h2] at e
   exact absurd e.symm (hn y ((ho y hy).resolve_left h2))
 ·by_cases h2 : y = z
  ·rw [h2,cV,bH _ _ h1] at e
   exact absurd e (hn x ((ho x hx).resolve_left h1))
  ·rw [bH _ _ h1,bH _ _ h2] at e
   exact hi x y ((ho x hx).resolve_left h1) ((ho y hy).resolve_left h2) e
inductive Hb where
 | hall | pages | f9 (p : Nat) | iD (p : Nat) | jx (p : Nat)
 deriving DecidableEq
def Hb.ok (m : Nat) : Hb→Prop
 | .hall => True
 | .pages => True
 | .f9 p => p < m
 | .iD p => p < m
 | .jx p => p < m
def hfl (l : Addr) : List (Str×V) := [("pages",.ref l)]
theorem ajo {l : Addr} : (hfl l).lookup ("pages" : Str) = some (.ref l) := by kernel_rfl
theorem akW {l : Addr} : (hfl l).lookup ("take" : Str) = none := by kernel_rfl
theorem akX {l : Addr} : fW "pages" (.ref l) [] = hfl l := by kernel_rfl
structure kY (CH CP : Addr) (H : Hp) (A : Hb→Addr) (m : Nat) (G : Nat→PG) : Prop where
 inj : ∀ x y,x.ok m→y.ok m→A x = A y→x = y
 ob : ∃ dx,H (A .hall) = some (.ins CH dx (hfl (A .pages)))
 pl : H (A .pages) = some (.lst ((List.range m).map fun p => V.ref (A (.f9 p))))
 pg : ∀ p,p < m→fV CP H (A (.f9 p)) (A (.iD p)) (A (.jx p)) p (G p)
structure HF (H H' : Hp) (A : Hb→Addr) (m : Nat) : Prop where
 kp : ∀ b o,H b = some o→(∀ x : Hb,x.ok m→b≠A x)→H' b = some o
 lv : Lv H H'
section
variable {CH CP : Addr} {H H' : Hp} {A : Hb→Addr} {m : Nat} {G : Nat→PG}
theorem kY.live (h : kY CH CP H A m G) (x : Hb) (hx : x.ok m) : ∃ o,H (A x) = some o∧∀ xs,o≠.tup xs := by
 cases x with
 | hall => obtain ⟨dx,e⟩ := h.ob; exact ⟨_,e,fun _ z => by cases z⟩
 | pages => exact ⟨_,h.pl,fun _ z => by cases z⟩
 | f9 p => obtain ⟨⟨dx,e⟩,_⟩ := h.pg p hx; exact ⟨_,e,fun _ z => by cases z⟩
 | iD p => exact ⟨_,(h.pg p hx).rl,fun _ z => by cases z⟩
 | jx p => obtain ⟨vs,e,_⟩ := (h.pg p hx).al; exact ⟨_,e,fun _ z => by cases z⟩
theorem kY.keep (h : kY CH CP H A m G) (t : bY H H') (k : ∀ x : Hb,x.ok m→∀ o,H (A x) = some o→H' (A x) = some o) : kY CH CP H' A m G := by
 refine ⟨h.inj,?_,k .pages trivial _ h.pl,fun p hp => (h.pg p hp).keep t (k (.f9 p) hp) (k (.iD p) hp) (k (.jx p) hp)⟩
 obtain ⟨dx,e⟩ := h.ob
 exact ⟨dx,k .hall trivial _ e⟩
theorem HF.tups (h : kY CH CP H A m G) (f : HF H H' A m) : bY H H' := fun b xs e => f.kp b _ e fun x hx z => by
 obtain ⟨o,e1,e2⟩ := h.live x hx
 rw [← z,e] at e1
 exact e2 xs (Option.some.inj e1).symm
theorem kY.page {p : Nat} {g' : PG} {r' : Addr} (h : kY CH CP H A m G) (hp : p < m) (P : fV CP H' (A (.f9 p)) r' (A (.jx p)) p g') (f : PF H H' (A (.f9 p)) (A (.iD p)) (A (.jx p))) (hr : r' = A (.iD p)∨H r' = none) :
 kY CH CP H' (jA A (.iD p) r') m (bO G p g')∧HF H H' A m := by
 have tp := f.tups (h.pg p hp)
 have kk : ∀ x : Hb,x.ok m→x≠.f9 p→x≠.iD p→x≠.jx p→∀ o,H (A x) = some o→H' (A x) = some o := fun x hx n1 n2 n3 o e =>
  f.kp _ o e (fun z => n1 (h.inj _ _ hx hp z)) (fun z => n2 (h.inj _ _ hx hp z)) fun z => n3 (h.inj _ _ hx hp z)
 refine ⟨⟨?_,?_,?_,fun j hj => ?_⟩,⟨fun b o e hn => f.kp b o e (hn _ hp) (hn (.iD p) hp) (hn (.jx p) hp),f.lv⟩⟩
 ·intro x y hx hy e
  by_cases h1 : x = .iD p
  ·by_cases h2 : y = .iD p
   ·rw [h1,h2]
   ·rw [h1,cV,bH _ _ h2] at e
    rcases hr with z | z
    ·rw [z] at e; rw [h1]; exact h.inj _ _ hp hy e
    ·obtain ⟨o,e1,_⟩ := h.live y hy; rw [← e,z] at e1; cases e1
  ·by_cases h2 : y = .iD p
   ·rw [h2,cV,bH _ _ h1] at e
    rcases hr with z | z
    ·rw [z] at e; rw [h2]; exact h.inj _ _ hx hp e
    ·obtain ⟨o,e1,_⟩ := h.live x hx; rw [e,z] at e1; cases e1
   ·rw [bH _ _ h1,bH _ _ h2] at e
    exact h.inj _ _ hx hy e
 ·obtain ⟨dx,e⟩ := h.ob
  refine ⟨dx,?_⟩
  rw [bH _ _ (by intro z; cases z),bH _ _ (by intro z; cases z)]
  exact kk .hall trivial (by intro z; cases z) (by intro z; cases z) (by intro z; cases z) _ e
 ·rw [bH _ _ (by intro z; cases z)]
  have e := kk .pages trivial (by intro z; cases z) (by intro z; cases z) (by intro z; cases z) _ h.pl
  rw [e]
  congr 2
 ·by_cases e : j = p
  ·subst e
   rw [show jA A (.iD j) r' (.f9 j) = A (.f9 j) by simp [jA],show jA A (.iD j) r' (.jx j) = A (.jx j) by simp [jA],cV,aM]
   exact P
  ·rw [show jA A (.iD p) r' (.f9 j) = A (.f9 j) by simp [jA],show jA A (.iD p) r' (.jx j) = A (.jx j) by simp [jA],show jA A (.iD p) r' (.iD j) = A (.iD j) by simp [jA,e],bC _ _ e]
   exact (h.pg j hj).keep tp (kk (.f9 j) hj (by intro z; cases z; exact e rfl) (by intro z; cases z) (by intro z; cases z)) (kk (.iD j) hj (by intro z; cases z) (by intro z; cases z; exact e rfl) (by intro z; cases z)) (kk (.jx j) hj (by intro z; cases z) (by intro z; cases z) (by intro z; cases z; exact e rfl))
end
def UL.good (g : PG) : UL→Prop
 | .ask _ r => r = .rd∨r = .wr
 | .ans _ _ => g.miss - 1 = 0→g.ask≠[]
 | .gave _ _ => True
def axp (CH CP : Addr) (H : Hp) (A : Hb→Addr) (m : Nat) (G : Nat→PG) (p : Nat) (z : PG×List (Nat×Let)) (Q : VK) : Prop :=
 ∀ l A' vs H',H l = none→kY CH CP H' A' m (bO G p z.1)→HF H H' A m→(∀ x : Hb,x.ok m→A' x = A x∨H (A' x) = none)→(∀ x : Hb,x.ok m→l≠A' x)→A' .hall = A .hall→H' l = some (.lst vs)→aG H' vs (z.2.map pairD)→Q (.ref l) H'
def agY (CH CP : Addr) : Sp := fun vs H Q _ => ∃ A m G b l,∃ d : Nat,vs = [.ref (A .hall),.int d,.ref b]∧kY CH CP H A m G∧H b = some (.tup (UL.vs l))∧l.pg < m∧l.good (G l.pg)∧Rw (G l.pg).ask∧(G l.pg).mu≤900000∧
 axp CH CP H A m G l.pg ((G l.pg).take l.pg d l) Q
def pg0 (ns : List Int) (p : Nat) : PG := ⟨(ns[p]?).getD 0,none,[],[],0⟩
def ag0 (CH CP : Addr) : Sp := fun vs H Q _ => ∃ h dx l,∃ ns : List Int,vs = [.ref h,.ref l]∧H h = some (.ins CH dx [])∧H l = some (.lst (ns.map V.int))∧ns.length≤1000∧
 ∀ A H',A .hall = h→(∀ x : Hb,x.ok ns.length→x≠.hall→H (A x) = none)→kY CH CP H' A ns.length (pg0 ns)→(∀ b o,H b = some o→b≠h→H' b = some o)→Lv H H'→Q .non H'
end iz
namespace iz
open PySem L2
structure RW (n : Nat) (g : PG) : Prop where
 w : ∀ x,g.wr = some x→x < n
 r : ∀ x∈g.rd,x < n
 q : ∀ x∈g.ask,x.1 < n∧(x.2 = .rd∨x.2 = .wr)
theorem RW.rw {n : Nat} {g : PG} (h : RW n g) : Rw g.ask := fun x hx => (h.q x hx).2
def Let.nice : Let→Prop
 | .lend _ r _ => r = .rd∨r = .wr
 | .back _ r => r = .rd∨r = .no
def Let.bk (p : Nat) : Let→Bool
 | .back q _ => decide (q = (p : Int))
 | .lend _ _ _ => false
def UL.an (p : Nat) : UL→Bool
 | .ans q _ => decide (q = p)
 | _ => false
def GF (n p : Nat) (ls : List (Nat×Let)) : Prop := ∀ q∈ls,q.1 < n∧q.2.pg = (p : Int)∧q.2.nice
theorem RW.dH {n : Nat} {g : PG} (h : RW n g) (p : Nat) : GF n p (g.dH p)∧(g.dH p).countP (fun q => q.2.bk p) = (g.dH p).length := by
 have key : ∀ x∈g.dH p,(x.1 < n∧x.2.pg = (p : Int)∧x.2.nice)∧x.2.bk p = true := by
  intro x hx
  unfold PG.dH at hx
  split at hx
  ·cases hx
  ·rename_i a r l ha
   rcases List.mem_append.mp hx with hx | hx
   ·unfold pC at hx
    split at hx
    ·rename_i wv hw
     split at hx
     ·cases hx
     ·have this := List.mem_singleton.mp hx
      rw [this]
      refine ⟨⟨h.w wv hw,rfl,?_⟩,by simp [Let.bk]⟩
      unfold low
      split
      ·exact .inl rfl
      ·exact .inr rfl
    ·cases hx
   ·unfold pD at hx
    split at hx
    ·obtain ⟨d,hd,e⟩ := List.mem_map.mp hx
     rw [← e]; exact ⟨⟨h.r d (List.mem_filter.mp hd).1,rfl,.inr rfl⟩,by simp [Let.bk]⟩
    ·cases hx
 exact ⟨fun x hx => (key x hx).1,List.countP_eq_length.mpr fun x hx => (key x hx).2⟩
theorem RW.lent {n : Nat} {g : PG} (h : RW n g) : RW n g.lent := by
 unfold PG.lent
 cases e : g.ask with
 | nil => exact h
 | cons x l =>
   obtain ⟨a,r⟩ := x
   have ha : a < n := (h.q (a,r) (by rw [e]; simp)).1
   have hl : ∀ x∈l,x.1 < n∧(x.2 = .rd∨x.2 = .wr) := fun x hx => h.q x (by rw [e]; exact List.mem_cons_of_mem _ hx)
   have hrs : ∀ x∈g.rd ++ g.wr.toList,x < n := fun x hx => by
    rcases List.mem_append.mp hx with hx | hx
    ·exact h.r x hx
    ·exact h.w x (by cases hw : g.wr with | none => rw [hw] at hx; simp at hx | some y => rw [hw] at hx; simp at hx; rw [hx])
   dsimp only
   split
   ·refine ⟨fun x hx => ?_,fun x hx => by simp [lY] at hx,hl⟩
    have e : a = x := by simpa [lY] using hx
    rw [← e]; exact ha
   ·refine ⟨fun x hx => by simp [kI] at hx,fun x hx => ?_,hl⟩
    simp only [kI] at hx
    split at hx
    ·exact hrs x hx
    ·rcases List.mem_append.mp hx with hx | hx
     ·exact hrs x hx
     ·have : x = a := by simpa using hx
      rw [this]; exact ha
theorem PG.wO (g : PG) : g.lent.miss = g.miss := by
 unfold PG.lent
 cases g.ask with
 | nil => rfl
 | cons x l => obtain ⟨a,r⟩ := x; dsimp only; split <;> rfl
theorem RW.dX {n : Nat} {g : PG} (h : RW n g) (p : Nat) : GF n p (g.dX p)∧(g.dX p).countP (fun q => q.2.bk p) = 0 := by
 unfold PG.dX
 cases e : g.ask with
 | nil => exact ⟨fun q hq => by simp at hq,rfl⟩
 | cons x l =>
   obtain ⟨a,r⟩ := x
   have ha := h.q (a,r) (by rw [e]; simp)
   refine ⟨fun q hq => ?_,by simp [Let.bk]⟩
   have this := List.mem_singleton.mp hq
   rw [this]
   exact ⟨ha.1,rfl,ha.2⟩
theorem GF.append {n p : Nat} {a b : List (Nat×Let)} (x : GF n p a) (y : GF n p b) : GF n p (a ++ b) := fun q hq => (List.mem_append.mp hq).elim (x q) (y q)
theorem wQ : ∀ (k : Nat) {n : Nat} {g : PG} (p : Nat),g.ask.length = k→RW n g→g.miss = 0→
 RW n (g.serve p).1∧GF n p (g.serve p).2∧((g.serve p).2.countP (fun q => q.2.bk p) : Int) = (g.serve p).1.miss∧((g.serve p).1.ask = []↔(g.serve p).1.miss = 0)
 | 0,n,g,p,hk,h,h0 => by
   have e : g.ask = [] := List.length_eq_zero_iff.mp hk
   rw [Gm e]
   exact ⟨h,fun q hq => by simp at hq,by simp [h0],by simp [e,h0]⟩
 | k + 1,n,g,p,hk,h,h0 => by
   have e : g.ask≠[] := fun z => by rw [z] at hk; simp at hk
   by_cases hb : g.dH p = []
   ·rw [yE e hb]
    obtain ⟨i1,i2,i3,i4⟩ := wQ k (n := n) (g := g.lent) p (by rw [PG.Di,hk]; rfl) h.lent (by rw [PG.wO]; exact h0)
    obtain ⟨j1,j2⟩ := h.dX p
    exact ⟨i1,j1.append i2,by rw [List.countP_append,j2,Nat.zero_add]; exact i3,i4⟩
   ·rw [Gn e hb]
    obtain ⟨j1,j2⟩ := h.dH p
    refine ⟨⟨h.w,h.r,h.q⟩,j1,by rw [j2],⟨fun z => absurd z e,fun z => ?_⟩⟩
    have : (g.dH p).length = 0 := by have z' : ((g.dH p).length : Int) = 0 := z; lia
    exact absurd (List.length_eq_zero_iff.mp this) hb
theorem PG.wQ {n : Nat} {g : PG} (p : Nat) (h : RW n g) (h0 : g.miss = 0) :
 RW n (g.serve p).1∧GF n p (g.serve p).2∧((g.serve p).2.countP (fun q => q.2.bk p) : Int) = (g.serve p).1.miss∧((g.serve p).1.ask = []↔(g.serve p).1.miss = 0) := iz.wQ _ p rfl h h0
theorem aui {A B C D E : Prop} (h : E) (z : A∧B∧C∧D) : A∧B∧C∧D∧E := ⟨z.1,z.2.1,z.2.2.1,z.2.2.2,h⟩
theorem PG.akY {n : Nat} {g : PG} {p d : Nat} {l : UL} {c : Nat} (h : RW n g) (ham : g.ask = []↔g.miss = 0) (hd : d < n) (hr : ∀ q r,l = .ask q r→r = .rd∨r = .wr) (hp : l.pg = p) (hc : ((c + if l.an p then 1 else 0 : Nat) : Int) = g.miss) :
 RW n (g.take p d l).1∧GF n p (g.take p d l).2∧(((g.take p d l).2.countP (fun q => q.2.bk p) + c : Nat) : Int) = (g.take p d l).1.miss∧((g.take p d l).1.ask = []↔(g.take p d l).1.miss = 0)∧l.good g := by
 cases l with
 | ask q r =>
   have hx := hr q r rfl
   have hc' : (c : Int) = g.miss := by simpa [UL.an] using hc
   refine aui hx ?_
   simp only [PG.take]
   by_cases e : g.ask = []
   ·rw [if_pos e]
    have h0 := ham.mp e
    obtain ⟨i1,i2,i3,i4⟩ := PG.wQ (n := n) (g := { g with ask := [(d,r)] }) p ⟨h.w,h.r,fun x hx' => by rw [List.mem_singleton.mp hx']; exact ⟨hd,hx⟩⟩ h0
    have c0 : c = 0 := by lia
    exact ⟨i1,i2,by rw [c0]; exact i3,i4⟩
   ·rw [if_neg e]
    refine ⟨⟨h.w,h.r,fun x hx' => ?_⟩,fun q hq => by simp at hq,by simpa using hc',⟨fun z => by simp at z,fun z => absurd (ham.mpr z) e⟩⟩
    rcases List.mem_append.mp hx' with hx' | hx'
    ·exact h.q x hx'
    ·have : x = (d,r) := by simpa using hx'
     rw [this]; exact ⟨hd,hx⟩
 | ans q o =>
   have hq : q = p := hp
   subst hq
   have hc' : (c : Int) + 1 = g.miss := by simpa [UL.an] using hc
   have hne : g.ask≠[] := fun z => by have := ham.mp z; lia
   refine aui (fun _ => hne) ?_
   simp only [PG.take]
   by_cases e : g.miss - 1 = 0
   ·rw [if_pos e]
    have hg : RW n ({ g with num := o.getD g.num,miss := g.miss - 1 } : PG) := ⟨h.w,h.r,h.q⟩
    generalize hg2 : ({ g with num := o.getD g.num,miss := g.miss - 1 } : PG) = g2 at hg
    have hm2 : g2.miss = 0 := by rw [← hg2]; exact e
    obtain ⟨i1,i2,i3,i4⟩ := PG.wQ (n := n) (g := g2.lent) q hg.lent (by rw [PG.wO]; exact hm2)
    obtain ⟨j1,j2⟩ := hg.dX q
    have c0 : c = 0 := by lia
    exact ⟨i1,j1.append i2,by rw [c0,List.countP_append,j2,Nat.zero_add,Nat.add_zero]; exact i3,i4⟩
   ·rw [if_neg e]
    refine ⟨⟨h.w,h.r,h.q⟩,fun q hq => by simp at hq,?_,⟨fun z => absurd z hne,fun z => absurd z e⟩⟩
    show ((0 + c : Nat) : Int) = g.miss - 1
    lia
 | gave q x =>
   have hc' : (c : Int) = g.miss := by simpa [UL.an] using hc
   simp only [PG.take]
   refine ⟨⟨fun y hy => ?_,h.r,h.q⟩,fun q hq => by simp at hq,by simpa using hc',ham,trivial⟩
   dsimp only at hy
   split at hy
   ·cases hy
   ·exact h.w y hy
def aeN (n : Nat) (f : Nat→Nat) : Nat := ((List.range n).map f).sum
theorem wR (n : Nat) (f : Nat→Nat) : aeN (n + 1) f = aeN n f + f n := by unfold aeN; rw [List.range_succ,List.map_append,List.sum_append]; simp
theorem ag1 {n : Nat} {f g : Nat→Nat} (h : ∀ e,e < n→f e = g e) : aeN n f = aeN n g := by
 induction n with
 | zero => rfl
 | succ n ih => rw [wR,wR,ih fun e he => h e (Nat.lt_succ_of_lt he),h n (Nat.lt_succ_self n)]
theorem aeO {n d : Nat} {f g : Nat→Nat} (hd : d < n) (h : ∀ e,e≠d→g e = f e) : aeN n g + f d = aeN n f + g d := by
 induction n with
 | zero => exact absurd hd (Nat.not_lt_zero _)
 | succ n ih =>
   rw [wR,wR]
   by_cases e : d = n
   ·subst e
    have := ag1 (n := d) (f := g) (g := f) fun e he => h e (Nat.ne_of_lt he)
    lia
   ·have h1 := ih (by lia)
    have h2 := h n (Ne.symm e)
    lia
def cnt (n p : Nat) (up : Nat→List UL) (dn : Nat→List Let) : Nat := aeN n fun d => (up d).countP (UL.an p) + (dn d).countP (Let.bk p)
theorem abt {n p d : Nat} {up : Nat→List UL} {dn : Nat→List Let} (hd : d < n) (l : List UL) : cnt n p (bO up d l) dn + (up d).countP (UL.an p) = cnt n p up dn + l.countP (UL.an p) := by
 have := aeO (n := n) (d := d) (f := fun d => (up d).countP (UL.an p) + (dn d).countP (Let.bk p)) (g := fun e => (bO up d l e).countP (UL.an p) + (dn e).countP (Let.bk p)) hd fun e he => by simp only [bC _ _ he]
 simp only [aM] at this
 unfold cnt
 lia
theorem ag2 {n p d : Nat} {up : Nat→List UL} {dn : Nat→List Let} (hd : d < n) (l : List Let) : cnt n p up (bO dn d l) + (dn d).countP (Let.bk p) = cnt n p up dn + l.countP (Let.bk p) := by
 have := aeO (n := n) (d := d) (f := fun d => (up d).countP (UL.an p) + (dn d).countP (Let.bk p)) (g := fun e => (up e).countP (UL.an p) + (bO dn d l e).countP (Let.bk p)) hd fun e he => by simp only [bC _ _ he]
 simp only [aM] at this
 unfold cnt
 lia
theorem aeP {n p : Nat} {up : Nat→List UL} : ∀ (ls : List (Nat×Let)) {dn : Nat→List Let},(∀ q∈ls,q.1 < n)→cnt n p up (post dn ls) = cnt n p up dn + ls.countP (fun q => q.2.bk p)
 | [],dn,_ => by simp [post]
 | x :: ls,dn,h => by
   rw [Ou,aeP ls fun q hq => h q (List.mem_cons_of_mem _ hq),List.countP_cons]
   have := ag2 (p := p) (up := up) (dn := dn) (h x (by simp)) (dn x.1 ++ [x.2])
   rw [List.countP_append] at this
   simp only [List.countP_cons,List.countP_nil] at this
   split at this <;> simp_all <;> lia
theorem akZ {dn : Nat→List Let} {ls : List (Nat×Let)} {d : Nat} {l : Let} (h : l∈post dn ls d) : l∈dn d∨(d,l)∈ls := by
 induction ls generalizing dn with
 | nil => exact .inl h
 | cons x ls ih =>
   rw [Ou] at h
   rcases ih h with h | h
   ·by_cases e : d = x.1
    ·subst e
     rw [aM] at h
     rcases List.mem_append.mp h with h | h
     ·exact .inl h
     ·have : l = x.2 := by simpa using h
      exact .inr (by rw [this]; exact List.mem_cons_self)
    ·rw [bC _ _ e] at h; exact .inl h
   ·exact .inr (List.mem_cons_of_mem _ h)
structure jV (n m : Nat) (S : TS) : Prop where
 pn : ∀ p,p < m→RW n (S.pg p)
 am : ∀ p,p < m→((S.pg p).ask = []↔(S.pg p).miss = 0)
 up : ∀ d,d < n→∀ l∈S.up d,l.pg < m∧∀ p r,l = .ask p r→r = .rd∨r = .wr
 dn : ∀ d,d < n→∀ l∈S.dn d,∃ p : Nat,p < m∧l.pg = (p : Int)∧l.nice
 ws : ∀ d,d < n→∀ w,(S.ds d).ws = some w→∃ p : Nat,p < m∧w.pg = (p : Int)
 ct : ∀ p,p < m→(cnt n p S.up S.dn : Int) = (S.pg p).miss
theorem jV.take {n m d : Nat} {S : TS} {l : UL} {r : List UL} (I : jV n m S) (hd : d < n) (e : S.up d = l :: r) : jV n m (S.agW d l r)∧l.pg < m∧l.good (S.pg l.pg)∧GF n l.pg ((S.pg l.pg).take l.pg d l).2 := by
 obtain ⟨hp,hr⟩ := I.up d hd l (by rw [e]; simp)
 have hcu := abt (p := l.pg) (up := S.up) (dn := S.dn) hd r
 have h1 : (S.up d).countP (UL.an l.pg) = r.countP (UL.an l.pg) + if l.an l.pg then 1 else 0 := by rw [e,List.countP_cons]
 have hct := I.ct l.pg hp
 have hcc : ((cnt n l.pg (bO S.up d r) S.dn + if l.an l.pg then 1 else 0 : Nat) : Int) = (S.pg l.pg).miss := by
  rw [← hct]
  have : cnt n l.pg (bO S.up d r) S.dn + (if l.an l.pg then 1 else 0) = cnt n l.pg S.up S.dn := by lia
  rw [this]
 obtain ⟨i1,i2,i3,i4,i5⟩ := PG.akY (I.pn l.pg hp) (I.am l.pg hp) hd hr rfl hcc
 refine ⟨⟨fun p h => ?_,fun p h => ?_,fun e' he l' hl => ?_,fun e' he l' hl => ?_,I.ws,fun p h => ?_⟩,hp,i5,i2⟩
 ·show RW n (bO S.pg l.pg _ p)
  by_cases z : p = l.pg
  ·rw [z,aM]; exact i1
  ·rw [bC _ _ z]; exact I.pn p h
 ·show (bO S.pg l.pg _ p).ask = []↔(bO S.pg l.pg _ p).miss = 0
  by_cases z : p = l.pg
  ·rw [z,aM]; exact i4
  ·rw [bC _ _ z]; exact I.am p h
 ·have hl' : l'∈bO S.up d r e' := hl
  by_cases z : e' = d
  ·rw [z,aM] at hl'; exact I.up d hd l' (by rw [e]; exact List.mem_cons_of_mem _ hl')
  ·rw [bC _ _ z] at hl'; exact I.up e' he l' hl'
 ·rcases akZ (show l'∈post S.dn _ e' from hl) with h | h
  ·exact I.dn e' he l' h
  ·obtain ⟨_,h2,h3⟩ := i2 _ h
   exact ⟨l.pg,hp,h2,h3⟩
 ·show (cnt n p (bO S.up d r) (post S.dn _) : Int) = (bO S.pg l.pg _ p).miss
  rw [aeP _ fun q hq => (i2 q hq).1]
  by_cases z : p = l.pg
  ·subst z
   rw [aM,← i3,Nat.add_comm]
  ·rw [bC _ _ z,← I.ct p h]
   have h2 := abt (p := p) (up := S.up) (dn := S.dn) hd r
   have h3 : (S.up d).countP (UL.an p) = r.countP (UL.an p) := by
    rw [e,List.countP_cons]
    have : l.an p = false := by cases l <;> simp_all [UL.an,UL.pg]; lia
    rw [this]; simp
   have h4 : (((S.pg l.pg).take l.pg d l).2.countP fun q => q.2.bk p) = 0 := by
    rw [List.countP_eq_zero]
    intro q hq hb
    obtain ⟨_,h5,_⟩ := i2 q hq
    cases hq2 : q.2 with
    | lend a b c => rw [hq2] at hb; simp [Let.bk] at hb
    | back a b =>
      rw [hq2] at hb h5
      simp only [Let.bk,decide_eq_true_eq] at hb
      have h6 : a = (l.pg : Int) := h5
      lia
   rw [h4]
   have : cnt n p (bO S.up d r) S.dn = cnt n p S.up S.dn := by lia
   rw [this]; rfl
theorem jV.kW {n m d : Nat} {S : TS} {z : DS×List Ev×List UL} (I : jV n m S) (hd : d < n) (hu : ∀ l∈z.2.2,l.pg < m∧∀ p r,l = .ask p r→r = .rd∨r = .wr) (hw : ∀ w,z.1.ws = some w→∃ p : Nat,p < m∧w.pg = (p : Int)) (ha : ∀ p,z.2.2.countP (UL.an p) = 0) : jV n m (S.kW d z) := by
 refine ⟨I.pn,I.am,fun e he l hl => ?_,I.dn,fun e he w h => ?_,fun p h => ?_⟩
 ·have hl' : l∈bO S.up d (S.up d ++ z.2.2) e := hl
  by_cases y : e = d
  ·rw [y,aM] at hl'
   rcases List.mem_append.mp hl' with hl' | hl'
   ·exact I.up d hd l hl'
   ·exact hu l hl'
  ·rw [bC _ _ y] at hl'; exact I.up e he l hl'
 ·have h' : (bO S.ds d z.1 e).ws = some w := h
  by_cases y : e = d
  ·rw [y,aM] at h'; exact hw w h'
  ·rw [bC _ _ y] at h'; exact I.ws e he w h'
 ·show (cnt n p (bO S.up d (S.up d ++ z.2.2)) S.dn : Int) = (S.pg p).miss
  rw [← I.ct p h]
  have := abt (p := p) (up := S.up) (dn := S.dn) hd (S.up d ++ z.2.2)
  rw [List.countP_append,ha p] at this
  have : cnt n p (bO S.up d (S.up d ++ z.2.2)) S.dn = cnt n p S.up S.dn := by lia
  rw [this]
theorem DS.abu (S : DS) (p : Int) (r : Rt) (x : Int) : (S.hold p r x).ws = S.ws := rfl
theorem DS.aip (S : DS) (w : W) : (S.done w).ws = S.ws := by cases w <;> rfl
theorem jV.vH {n m d p : Nat} {S : TS} (I : jV n m S) (hd : d < n) (hp : p < m) : jV n m (S.vH d p) := by
 refine I.kW hd ?_ (fun w h => I.ws d hd w h) fun q => ?_
 ·intro l hl
  have hl' : l∈(if (S.ds d).rt p = .wr then [UL.gave p ((S.ds d).nm p)] else []) := hl
  split at hl'
  ·have this := List.mem_singleton.mp hl'
   rw [this]; exact ⟨hp,fun _ _ z => by cases z⟩
  ·cases hl'
 ·show (if (S.ds d).rt p = .wr then [UL.gave p ((S.ds d).nm p)] else []).countP (UL.an q) = 0
  split <;> simp [UL.an]
theorem W.anb (w : W) : w.need = .rd∨w.need = .wr := by cases w <;> simp [W.need]
theorem jV.want {n m d p : Nat} {S : TS} {w : W} (I : jV n m S) (hd : d < n) (hp : p < m) (hw : w.pg = (p : Int)) : jV n m (S.kW d ((S.ds d).iC w p)) := by
 unfold DS.iC
 split
 ·refine I.kW hd (fun l hl => by cases hl) (fun w' h => ?_) fun q => rfl
  have h' : ((S.ds d).done w).ws = some w' := h
  rw [DS.aip] at h'
  exact I.ws d hd w' h'
 ·refine I.kW hd (fun l hl => ?_) (fun w' h => ?_) fun q => by simp [UL.an]
  ·have this := List.mem_singleton.mp hl
   rw [this]; exact ⟨hp,fun q r e => by cases e; exact w.anb⟩
  ·have h' : some w = some w' := h
   cases h'
   exact ⟨p,hp,hw⟩
theorem jV.RV {n m d : Nat} {S : TS} {l : Let} {r : List Let} (I : jV n m S) (hd : d < n) (e : S.dn d = l :: r) : jV n m (S.RV d l r) := by
 obtain ⟨p,hp,hlp,hn⟩ := I.dn d hd l (by rw [e]; simp)
 have hdn : ∀ e' ,e' < n→∀ l'∈bO S.dn d r e',∃ p : Nat,p < m∧l'.pg = (p : Int)∧l'.nice := fun e' he l' hl => by
  by_cases y : e' = d
  ·rw [y,aM] at hl; exact I.dn d hd l' (by rw [e]; exact List.mem_cons_of_mem _ hl)
  ·rw [bC _ _ y] at hl; exact I.dn e' he l' hl
 cases l with
 | lend q x k =>
   have I1 : jV n m { S with dn := bO S.dn d r } := ⟨I.pn,I.am,I.up,hdn,I.ws,fun p h => by
    show (cnt n p S.up (bO S.dn d r) : Int) = _
    rw [← I.ct p h]
    have := ag2 (p := p) (up := S.up) (dn := S.dn) hd r
    rw [e,List.countP_cons] at this
    simp [Let.bk] at this
    rw [this]⟩
   refine I1.kW hd (fun l hl => by cases hl) (fun w h => ?_) fun q => rfl
   have h' : ((S.ds d).pG q x k).1.ws = some w := h
   unfold DS.pG at h'
   cases hws : (S.ds d).ws with
   | none => rw [hws] at h'; rw [DS.abu,hws] at h'; cases h'
   | some w0 =>
     rw [hws] at h'
     dsimp only at h'
     split at h'
     ·rw [DS.aip] at h'; cases h'
     ·rw [DS.abu,hws] at h'; cases h'; exact I.ws d hd _ hws
 | back q x =>
   have hq : q = (p : Int) := hlp
   refine ⟨I.pn,I.am,fun e' he l' hl => ?_,hdn,fun e' he w h => ?_,fun p' h => ?_⟩
   ·have hl' : l'∈bO S.up d (S.up d ++ [UL.ans q.toNat ((S.ds d).lZ q)]) e' := hl
    by_cases y : e' = d
    ·rw [y,aM] at hl'
     rcases List.mem_append.mp hl' with hl' | hl'
     ·exact I.up d hd l' hl'
     ·have this := List.mem_singleton.mp hl'
      rw [this]; exact ⟨by show q.toNat < m; rw [hq]; exact hp,fun _ _ z => by cases z⟩
    ·rw [bC _ _ y] at hl'; exact I.up e' he l' hl'
   ·have h' : (bO S.ds d ((S.ds d).down q x) e').ws = some w := h
    by_cases y : e' = d
    ·rw [y,aM] at h'
     refine I.ws d hd w ?_
     unfold DS.down at h'
     split at h'
     ·exact h'
     ·exact h'
    ·rw [bC _ _ y] at h'; exact I.ws e' he w h'
   ·show (cnt n p' (bO S.up d (S.up d ++ [UL.ans q.toNat ((S.ds d).lZ q)])) (bO S.dn d r) : Int) = (S.pg p').miss
    rw [← I.ct p' h]
    have h1 := abt (p := p') (up := S.up) (dn := bO S.dn d r) hd (S.up d ++ [UL.ans q.toNat ((S.ds d).lZ q)])
    have h2 := ag2 (p := p') (up := S.up) (dn := S.dn) hd r
    rw [List.countP_append] at h1
    rw [e,List.countP_cons] at h2
    have h3 : [UL.ans q.toNat ((S.ds d).lZ q)].countP (UL.an p') = if (Let.back q x).bk p' then 1 else 0 := by
     rw [hq]
     simp only [List.countP_cons,List.countP_nil,UL.an,Let.bk,Int.toNat_natCast,Nat.zero_add]
     by_cases z : p = p'
     ·subst z; simp
     ·have : ¬ ((p : Int) = (p' : Int)) := by lia
      simp [z,this]
    have : cnt n p' (bO S.up d (S.up d ++ [UL.ans q.toNat ((S.ds d).lZ q)])) (bO S.dn d r) = cnt n p' S.up S.dn := by lia
    rw [this]
theorem jV.step {n m : Nat} {S : TS} (I : jV n m S) (x : cA) : jV n m (S.step n m x).1 := by
 cases x with
 | up d =>
   simp only [TS.step]
   split
   ·rename_i h
    have hd : d.toNat < n := by unfold inR at h; lia
    unfold TS.upD
    cases e : S.up d.toNat with
    | nil => exact I
    | cons l r => exact (I.take hd e).1
   ·exact I
 | down d =>
   simp only [TS.step]
   split
   ·rename_i h
    have hd : d.toNat < n := by unfold inR at h; lia
    unfold TS.QM
    cases e : S.dn d.toNat with
    | nil => exact I
    | cons l r => exact I.RV hd e
   ·exact I
 | rest d p =>
   simp only [TS.step]
   split
   ·rename_i h
    split
    ·rename_i h2
     split
     ·exact I
     ·exact I.vH (by unfold inR at h; lia) (by unfold inR at h2; lia)
    ·exact I
   ·exact I
 | look d p =>
   simp only [TS.step]
   split
   ·rename_i h
    split
    ·rename_i h2
     unfold TS.wish
     split
     ·exact I
     ·exact I.want (by unfold inR at h; lia) (by unfold inR at h2; lia) (by show p = _; unfold inR at h2; lia)
    ·exact I
   ·exact I
 | put d p x =>
   simp only [TS.step]
   split
   ·rename_i h
    split
    ·rename_i h2
     unfold TS.wish
     split
     ·exact I
     ·exact I.want (by unfold inR at h; lia) (by unfold inR at h2; lia) (by show p = _; unfold inR at h2; lia)
    ·exact I
   ·exact I
end iz
namespace iz
open PySem L2
theorem aq0 (x : V) (xs : List V) : Ol (x :: xs) 0 = some x := Gj (j := 0) rfl
theorem UL.at1 (l : UL) : Ol l.vs 1 = some (.int l.pg) := by cases l <;> rfl
theorem bK {m p : Nat} {f : Nat→V} (h : p < m) : Ol ((List.range m).map f) (p : Int) = some (f p) := Gj (by rw [List.getElem?_map,List.getElem?_range h]; rfl)
theorem auj {X : Cx} {K : PySem.W.Frag} {r : PySem.W.Frag→R2} (h : IxR X (r X.K)) (e : X.K = K) : IxR X (r K) := e▸h
theorem YL {X : Cx} {K : PySem.W.Frag} (e : X.K = K) : QH X (.builtin "len") (fun xs H Q => ∃ p ys,xs = [.ref p]∧(cz K H p ys∨dq K H p ys)∧Q (.int ys.length) H) := by subst e; exact dO
theorem YM {X : Cx} {K : PySem.W.Frag} (e : X.K = K) : QH X (.type "list") (fun xs H Q => ∃ p ys,xs = [.ref p]∧(cz K H p ys∨dq K H p ys)∧∀ l,H l = none→Q (.ref l) (upd H l (.lst ys))) := by subst e; exact yw
theorem anc {X : Cx} {K : PySem.W.Frag} {e : Expr} {f : Str} {pos : Pos} {ta : TE} (hK : X.K = K) (he : PE X e ta) (hb : attributeBase e f X.env (eval e X.env) = eval e X.env) : PE X (.Attribute e f pos) (abj K ta f) := by subst hK; exact cL he hb
theorem ane {X : Cx} {K : PySem.W.Frag} {pos : Pos} {es : List Expr} {k : Nat} {t : TGs} {n : Nat} (hK : X.K = K) (hc : X.calm = true) (h : PGs X es t)
 (hn : (assignEach es X.env).length = n := by rfl) (hst : (assignEach es X.env).findIdx? (·.1) = none := by rfl) : L2.PG X (.Tuple es k pos) (atz K n t) := by subst hK; exact Og hc h hn hst
end iz
namespace iz
open PySem L2
inductive Mb where
 | bx | row | dJ | cR | sent | rights | copies | ups | downs
 | rt (d : Nat) | cp (d : Nat) | up (d : Nat) | dn (d : Nat) | bN (p : Nat) | iD (p : Nat) | jx (p : Nat)
 deriving DecidableEq
def Mb.ok (n m : Nat) : Mb→Prop
 | .rt d => d < n
 | .cp d => d < n
 | .up d => d < n
 | .dn d => d < n
 | .bN p => p < m
 | .iD p => p < m
 | .jx p => p < m
 | _ => True
def ks (x : Str) : Key := Sum.inr x
def tkv (A : Mb→Addr) : List (Key×V) := [(ks "row",.ref (A .row)),(ks "wishes",.ref (A .dJ)),(ks "shelves",.ref (A .cR)),(ks "sent",.ref (A .sent)),(ks "rights",.ref (A .rights)),(ks "copies",.ref (A .copies)),(ks "ups",.ref (A .ups)),(ks "downs",.ref (A .downs))]
def wrI : Option Nat→Int
 | none => -1
 | some w => w
def yp (g : PG) (r q : Addr) : List (Key×V) := [(ks "number",.int g.num),(ks "writer",.int (wrI g.wr)),(ks "readers",.ref r),(ks "asked",.ref q),(ks "missing",.int g.miss)]
section
variable {A : Mb→Addr} {g : PG} {r q : Addr}
theorem anf : fJ (tkv A) (ks "row") = some (.ref (A .row)) := by kernel_rfl
theorem oA : fJ (tkv A) (ks "wishes") = some (.ref (A .dJ)) := by kernel_rfl
theorem jJ : fJ (tkv A) (ks "shelves") = some (.ref (A .cR)) := by kernel_rfl
theorem aeQ : fJ (tkv A) (ks "sent") = some (.ref (A .sent)) := by kernel_rfl
theorem kZ : fJ (tkv A) (ks "rights") = some (.ref (A .rights)) := by kernel_rfl
theorem rQ : fJ (tkv A) (ks "copies") = some (.ref (A .copies)) := by kernel_rfl
theorem Kg : fJ (tkv A) (ks "ups") = some (.ref (A .ups)) := by kernel_rfl
theorem Gq : fJ (tkv A) (ks "downs") = some (.ref (A .downs)) := by kernel_rfl
theorem ag3 : fJ (yp g r q) (ks "number") = some (.int g.num) := by kernel_rfl
theorem rR : fJ (yp g r q) (ks "writer") = some (.int (wrI g.wr)) := by kernel_rfl
theorem uD : fJ (yp g r q) (ks "readers") = some (.ref r) := by kernel_rfl
theorem Gr : fJ (yp g r q) (ks "asked") = some (.ref q) := by kernel_rfl
theorem uE : fJ (yp g r q) (ks "missing") = some (.int g.miss) := by kernel_rfl
theorem GJ {n : Int} : putK (yp g r q) (ks "number") (.int n) = yp { g with num := n } r q := by kernel_rfl
theorem Dk : putK (yp g r q) (ks "writer") (.int (-1)) = yp { g with wr := none } r q := by kernel_rfl
theorem VG {w : Nat} : putK (yp g r q) (ks "writer") (.int w) = yp { g with wr := some w } r q := by kernel_rfl
theorem VH {r' : Addr} {l : List Nat} : putK (yp g r q) (ks "readers") (.ref r') = yp { g with rd := l } r' q := by kernel_rfl
theorem Dl {k : Int} : putK (yp g r q) (ks "missing") (.int k) = yp { g with miss := k } r q := by kernel_rfl
theorem uF : (yp g r q).length < sizeLine := by show 5 < sizeLine; decide
end
def MG (A : Mb→Addr) (H : Hp) (n m : Nat) (S : TS) (se : List (Nat×Let)) : Mb→HO→Prop
 | .bx,o => o = .dK (tkv A)
 | .row,o => ∃ vs,o = .lst vs∧aG H vs (S.row.map RE.d)
 | .dJ,o => ∃ vs,o = .lst vs∧vs.length = n∧∀ d,d < n→∃ v,vs[d]? = some v∧rN H v (S.ds d).ws
 | .cR,o => o = .lst ((List.range m).map fun p => V.ref (A (.bN p)))
 | .sent,o => ∃ vs,o = .lst vs∧aG H vs (se.map pairD)
 | .rights,o => o = .lst ((List.range n).map fun d => V.ref (A (.rt d)))
 | .copies,o => o = .lst ((List.range n).map fun d => V.ref (A (.cp d)))
 | .ups,o => o = .lst ((List.range n).map fun d => V.ref (A (.up d)))
 | .downs,o => o = .lst ((List.range n).map fun d => V.ref (A (.dn d)))
 | .rt d,o => o = .lst ((List.range m).map fun p : Nat => V.str ((S.ds d).rt p).s)
 | .cp d,o => o = .lst ((List.range m).map fun p : Nat => V.int ((S.ds d).nm p))
 | .up d,o => ∃ vs,o = .lst vs∧aG H vs ((S.up d).map UL.d)
 | .dn d,o => ∃ vs,o = .lst vs∧aG H vs ((S.dn d).map Let.d)
 | .bN p,o => o = .dK (yp (S.pg p) (A (.iD p)) (A (.jx p)))
 | .iD p,o => o = .lst ((S.pg p).rd.map nV)
 | .jx p,o => ∃ vs,o = .lst vs∧aG H vs ((S.pg p).ask.map Bp)
theorem UL.flat (l : UL) : l.d.flat := by
 cases l with
 | ask p r => simp [UL.d,D.flat,D.flats]
 | ans p o => cases o <;> simp [UL.d,oD,D.flat,D.flats]
 | gave p n => simp [UL.d,D.flat,D.flats]
theorem bU {α : Type} {f : α→D} (h : ∀ x,(f x).flat) (l : List α) : D.flats (l.map f) := by
 induction l with
 | nil => simp [D.flats]
 | cons x l ih => simp only [List.map_cons,D.flats]; exact ⟨h x,ih⟩
theorem RE.flat (e : RE) : e.d.flat := by simp [RE.d,D.flat,D.flats]
theorem MG.mono {A : Mb→Addr} {H H' : Hp} {n m : Nat} {S : TS} {se : List (Nat×Let)} (t : bY H H') {x : Mb} {o : HO} (h : MG A H n m S se x o) : MG A H' n m S se x o := by
 cases x with
 | row => obtain ⟨vs,e,r⟩ := h; exact ⟨vs,e,r.aU t (bU RE.flat _)⟩
 | dJ => obtain ⟨vs,e,l,k⟩ := h; exact ⟨vs,e,l,fun d hd => by obtain ⟨v,e1,e2⟩ := k d hd; exact ⟨v,e1,e2.aU t⟩⟩
 | sent => obtain ⟨vs,e,r⟩ := h; exact ⟨vs,e,r.aU t (cW _)⟩
 | up d => obtain ⟨vs,e,r⟩ := h; exact ⟨vs,e,r.aU t (bU UL.flat _)⟩
 | dn d => obtain ⟨vs,e,r⟩ := h; exact ⟨vs,e,r.aU t (bU Let.flat _)⟩
 | jx p => obtain ⟨vs,e,r⟩ := h; exact ⟨vs,e,r.aU t (jU _)⟩
 | _ => exact h
theorem MG.apv {A : Mb→Addr} {H : Hp} {n m : Nat} {S : TS} {se : List (Nat×Let)} {x : Mb} {o : HO} (h : MG A H n m S se x o) : ∀ xs,o≠.tup xs := by
 intro xs z
 subst z
 cases x <;> first
  | (obtain ⟨vs,e,_⟩ := h; cases e)
  | cases h
structure aX (H : Hp) (A : Mb→Addr) (n m : Nat) (S : TS) (se : List (Nat×Let)) : Prop where
 inj : ∀ x y : Mb,x.ok n m→y.ok n m→A x = A y→x = y
 at_ : ∀ x : Mb,x.ok n m→∃ o,H (A x) = some o∧MG A H n m S se x o
structure mj (H H' : Hp) (A : Mb→Addr) (n m : Nat) : Prop where
 kp : ∀ b o,H b = some o→(∀ x : Mb,x.ok n m→b≠A x)→H' b = some o
 lv : Lv H H'
theorem mj.refl (H : Hp) (A : Mb→Addr) (n m : Nat) : mj H H A n m := ⟨fun _ _ h _ => h,Lv.refl _⟩
def Mv (H : Hp) (A A1 : Mb→Addr) (n m : Nat) : Prop := ∀ x : Mb,x.ok n m→A1 x = A x∨((∃ p,x = .iD p)∧H (A1 x) = none)
theorem Mv.refl (H : Hp) (A : Mb→Addr) (n m : Nat) : Mv H A A n m := fun _ _ => .inl rfl
theorem mj.trans {H H1 H2 : Hp} {A A1 : Mb→Addr} {n m : Nat} (x : mj H H1 A n m) (y : mj H1 H2 A1 n m) (h : Mv H A A1 n m) : mj H H2 A n m := ⟨fun b o hb hn => y.kp b o (x.kp b o hb hn) fun z hz => by
 rcases h z hz with e | ⟨_,e⟩
 ·rw [e]; exact hn z hz
 ·exact aF hb e,x.lv.trans y.lv⟩
theorem Mv.trans {H H1 : Hp} {A A1 A2 : Mb→Addr} {n m : Nat} (x : Mv H A A1 n m) (l : Lv H H1) (y : Mv H1 A1 A2 n m) : Mv H A A2 n m := fun z hz => by
 rcases y z hz with e | ⟨i,e⟩
 ·rw [e]; exact x z hz
 ·exact .inr ⟨i,l _ e⟩
theorem Mv.bx {H : Hp} {A A1 : Mb→Addr} {n m : Nat} (x : Mv H A A1 n m) : A1 .bx = A .bx := (x .bx trivial).elim id fun z => by obtain ⟨⟨p,e⟩,_⟩ := z; cases e
section
variable {H H' : Hp} {A : Mb→Addr} {n m : Nat} {S S' : TS} {se se' : List (Nat×Let)}
theorem aX.keep (M : aX H A n m S se) (t : bY H H') (k : ∀ x : Mb,x.ok n m→∀ o,H (A x) = some o→H' (A x) = some o) : aX H' A n m S se :=
 ⟨M.inj,fun x hx => by obtain ⟨o,e,g⟩ := M.at_ x hx; exact ⟨o,k x hx o e,g.mono t⟩⟩
theorem aX.same (M : aX H A n m S se) (s : bZ H H') : aX H' A n m S se := M.keep (aY s) fun x _ o e => s _ o e
theorem aX.new {a : Addr} {o : HO} (M : aX H A n m S se) (h : H a = none) : aX (upd H a o) A n m S se := M.same (aA h)
theorem mj.of_same (s : bZ H H') : mj H H' A n m := ⟨fun b o e _ => s b o e,Lv.same s⟩
theorem mj.tups (M : aX H A n m S se) (f : mj H H' A n m) : bY H H' := fun b xs e => f.kp b _ e fun x hx z => by
 obtain ⟨o,e1,g⟩ := M.at_ x hx
 rw [← z,e] at e1
 exact g.apv xs (Option.some.inj e1).symm
theorem aX.tup_ne (M : aX H A n m S se) {x : Mb} (hx : x.ok n m) {b : Addr} {xs : List V} (e : H b = some (.tup xs)) : b≠A x := fun z => by
 obtain ⟨o,e1,g⟩ := M.at_ x hx
 rw [← z,e] at e1
 exact g.apv xs (Option.some.inj e1).symm
theorem aX.set (M : aX H A n m S se) {x : Mb} (hx : x.ok n m) {o' : HO} (hg : bY H (upd H (A x) o')→MG A (upd H (A x) o') n m S' se' x o')
 (ho : ∀ y : Mb,y.ok n m→y≠x→∀ o,MG A H n m S se y o→MG A H n m S' se' y o) : aX (upd H (A x) o') A n m S' se'∧mj H (upd H (A x) o') A n m := by
 have t : bY H (upd H (A x) o') := fun b xs e => by rw [aq (M.tup_ne hx e)]; exact e
 refine ⟨⟨M.inj,fun y hy => ?_⟩,⟨fun b o e hn => by rw [aq (hn x hx)]; exact e,Lv.upd⟩⟩
 by_cases e : y = x
 ·subst e; exact ⟨o',aj,hg t⟩
 ·obtain ⟨o,e1,g⟩ := M.at_ y hy
  refine ⟨o,?_,(ho y hy e o g).mono t⟩
  rw [aq fun z => e (M.inj y x hy hx z)]
  exact e1
theorem aX.yF {x : Mb} (M : aX H A n m S se) (hx : x.ok n m) {b : Addr} (h : H b = none) : A x≠b := fun z => by
 obtain ⟨o,e1,_⟩ := M.at_ x hx
 rw [z,h] at e1; cases e1
theorem aX.bx (M : aX H A n m S se) : H (A .bx) = some (.dK (tkv A)) := by obtain ⟨o,e,g⟩ := M.at_ .bx trivial; rw [e,show o = _ from g]
theorem aX.cR (M : aX H A n m S se) : H (A .cR) = some (.lst ((List.range m).map fun p => V.ref (A (.bN p)))) := by obtain ⟨o,e,g⟩ := M.at_ .cR trivial; rw [e,show o = _ from g]
theorem aX.rights (M : aX H A n m S se) : H (A .rights) = some (.lst ((List.range n).map fun p => V.ref (A (.rt p)))) := by obtain ⟨o,e,g⟩ := M.at_ .rights trivial; rw [e,show o = _ from g]
theorem aX.copies (M : aX H A n m S se) : H (A .copies) = some (.lst ((List.range n).map fun p => V.ref (A (.cp p)))) := by obtain ⟨o,e,g⟩ := M.at_ .copies trivial; rw [e,show o = _ from g]
theorem aX.ups (M : aX H A n m S se) : H (A .ups) = some (.lst ((List.range n).map fun p => V.ref (A (.up p)))) := by obtain ⟨o,e,g⟩ := M.at_ .ups trivial; rw [e,show o = _ from g]
theorem aX.downs (M : aX H A n m S se) : H (A .downs) = some (.lst ((List.range n).map fun p => V.ref (A (.dn p)))) := by obtain ⟨o,e,g⟩ := M.at_ .downs trivial; rw [e,show o = _ from g]
theorem aX.rt (M : aX H A n m S se) {d : Nat} (h : d < n) : H (A (.rt d)) = some (.lst ((List.range m).map fun p : Nat => V.str ((S.ds d).rt p).s)) := by obtain ⟨o,e,g⟩ := M.at_ (.rt d) h; rw [e,show o = _ from g]
theorem aX.cp (M : aX H A n m S se) {d : Nat} (h : d < n) : H (A (.cp d)) = some (.lst ((List.range m).map fun p : Nat => V.int ((S.ds d).nm p))) := by obtain ⟨o,e,g⟩ := M.at_ (.cp d) h; rw [e,show o = _ from g]
theorem aX.bN (M : aX H A n m S se) {p : Nat} (h : p < m) : H (A (.bN p)) = some (.dK (yp (S.pg p) (A (.iD p)) (A (.jx p)))) := by obtain ⟨o,e,g⟩ := M.at_ (.bN p) h; rw [e,show o = _ from g]
theorem aX.iD (M : aX H A n m S se) {p : Nat} (h : p < m) : H (A (.iD p)) = some (.lst ((S.pg p).rd.map nV)) := by obtain ⟨o,e,g⟩ := M.at_ (.iD p) h; rw [e,show o = _ from g]
theorem aX.jx (M : aX H A n m S se) {p : Nat} (h : p < m) : ∃ vs,H (A (.jx p)) = some (.lst vs)∧aG H vs ((S.pg p).ask.map Bp) := by obtain ⟨o,e,vs,g,r⟩ := M.at_ (.jx p) h; exact ⟨vs,by rw [e,g],r⟩
theorem aX.up (M : aX H A n m S se) {d : Nat} (h : d < n) : ∃ vs,H (A (.up d)) = some (.lst vs)∧aG H vs ((S.up d).map UL.d) := by obtain ⟨o,e,vs,g,r⟩ := M.at_ (.up d) h; exact ⟨vs,by rw [e,g],r⟩
theorem aX.dn (M : aX H A n m S se) {d : Nat} (h : d < n) : ∃ vs,H (A (.dn d)) = some (.lst vs)∧aG H vs ((S.dn d).map Let.d) := by obtain ⟨o,e,vs,g,r⟩ := M.at_ (.dn d) h; exact ⟨vs,by rw [e,g],r⟩
theorem aX.row (M : aX H A n m S se) : ∃ vs,H (A .row) = some (.lst vs)∧aG H vs (S.row.map RE.d) := by obtain ⟨o,e,vs,g,r⟩ := M.at_ .row trivial; exact ⟨vs,by rw [e,g],r⟩
theorem aX.sent (M : aX H A n m S se) : ∃ vs,H (A .sent) = some (.lst vs)∧aG H vs (se.map pairD) := by obtain ⟨o,e,vs,g,r⟩ := M.at_ .sent trivial; exact ⟨vs,by rw [e,g],r⟩
theorem aX.dJ (M : aX H A n m S se) : ∃ vs,H (A .dJ) = some (.lst vs)∧vs.length = n∧∀ d,d < n→∃ v,vs[d]? = some v∧rN H v (S.ds d).ws := by obtain ⟨o,e,vs,g,r⟩ := M.at_ .dJ trivial; exact ⟨vs,by rw [e,g],r⟩
theorem aX.ak0 (M : aX H A n m S se) {vs : List V} (r : aG H vs (se'.map pairD)) : aX (upd H (A .sent) (.lst vs)) A n m S se'∧mj H (upd H (A .sent) (.lst vs)) A n m :=
 M.set (x := .sent) trivial (fun t => ⟨vs,rfl,r.aU t (cW _)⟩) fun y _ hn o h => by cases y <;> first | exact h | exact absurd rfl hn
theorem aX.ak1 (M : aX H A n m S se) {vs : List V} {l : List RE} (r : aG H vs (l.map RE.d)) : aX (upd H (A .row) (.lst vs)) A n m { S with row := l } se∧mj H (upd H (A .row) (.lst vs)) A n m :=
 M.set (x := .row) trivial (fun t => ⟨vs,rfl,r.aU t (bU RE.flat _)⟩) fun y _ hn o h => by cases y <;> first | exact h | exact absurd rfl hn
theorem aX.aeR (M : aX H A n m S se) {d : Nat} (hd : d < n) {vs : List V} {l : List UL} (r : aG H vs (l.map UL.d)) : aX (upd H (A (.up d)) (.lst vs)) A n m { S with up := bO S.up d l } se∧mj H (upd H (A (.up d)) (.lst vs)) A n m :=
 M.set (x := .up d) hd (fun t => ⟨vs,rfl,by dsimp only; rw [aM]; exact r.aU t (bU UL.flat _)⟩) fun y _ hn o h => by
  cases y with
  | up e =>
    have hne : e≠d := fun z => hn (by rw [z])
    show ∃ vs,o = .lst vs∧aG H vs ((bO S.up d l e).map UL.d)
    rw [bC _ _ hne]
    exact h
  | _ => exact h
theorem aX.ajp (M : aX H A n m S se) {d : Nat} (hd : d < n) {vs : List V} {l : List Let} (r : aG H vs (l.map Let.d)) : aX (upd H (A (.dn d)) (.lst vs)) A n m { S with dn := bO S.dn d l } se∧mj H (upd H (A (.dn d)) (.lst vs)) A n m :=
 M.set (x := .dn d) hd (fun t => ⟨vs,rfl,by dsimp only; rw [aM]; exact r.aU t (bU Let.flat _)⟩) fun y _ hn o h => by
  cases y with
  | dn e =>
    have hne : e≠d := fun z => hn (by rw [z])
    show ∃ vs,o = .lst vs∧aG H vs ((bO S.dn d l e).map Let.d)
    rw [bC _ _ hne]
    exact h
  | _ => exact h
theorem aX.aq1 (M : aX H A n m S se) {d : Nat} (hd : d < n) {D' : DS} (e1 : D'.nm = (S.ds d).nm) (e2 : D'.ws = (S.ds d).ws) : aX (upd H (A (.rt d)) (.lst ((List.range m).map fun p : Nat => V.str (D'.rt p).s))) A n m { S with ds := bO S.ds d D' } se∧mj H (upd H (A (.rt d)) (.lst ((List.range m).map fun p : Nat => V.str (D'.rt p).s))) A n m :=
 M.set (x := .rt d) hd (fun t => by dsimp only [MG]; rw [aM]) fun y hy hn o h => by
  cases y with
  | rt e =>
    have hne : e≠d := fun z => hn (by rw [z])
    show o = .lst ((List.range m).map fun p : Nat => V.str ((bO S.ds d D' e).rt p).s)
    rw [bC _ _ hne]
    exact h
  | cp e =>
    show o = .lst ((List.range m).map fun p : Nat => V.int ((bO S.ds d D' e).nm p))
    by_cases z : e = d
    ·rw [z,aM,e1,← z]; exact h
    ·rw [bC _ _ z]; exact h
  | dJ =>
    obtain ⟨vs,g,l,k⟩ := h
    refine ⟨vs,g,l,fun e he => ?_⟩
    obtain ⟨v,k1,k2⟩ := k e he
    refine ⟨v,k1,?_⟩
    show rN H v (bO S.ds d D' e).ws
    by_cases z : e = d
    ·rw [z,aM,e2,← z]; exact k2
    ·rw [bC _ _ z]; exact k2
  | _ => exact h
theorem aX.auk (M : aX H A n m S se) {d : Nat} (hd : d < n) {D' : DS} (e1 : D'.rt = (S.ds d).rt) (e2 : D'.ws = (S.ds d).ws) : aX (upd H (A (.cp d)) (.lst ((List.range m).map fun p : Nat => V.int (D'.nm p)))) A n m { S with ds := bO S.ds d D' } se∧mj H (upd H (A (.cp d)) (.lst ((List.range m).map fun p : Nat => V.int (D'.nm p)))) A n m :=
 M.set (x := .cp d) hd (fun t => by dsimp only [MG]; rw [aM]) fun y hy hn o h => by
  cases y with
  | cp e =>
    have hne : e≠d := fun z => hn (by rw [z])
    show o = .lst ((List.range m).map fun p : Nat => V.int ((bO S.ds d D' e).nm p))
    rw [bC _ _ hne]
    exact h
  | rt e =>
    show o = .lst ((List.range m).map fun p : Nat => V.str ((bO S.ds d D' e).rt p).s)
    by_cases z : e = d
    ·rw [z,aM,e1,← z]; exact h
    ·rw [bC _ _ z]; exact h
  | dJ =>
    obtain ⟨vs,g,l,k⟩ := h
    refine ⟨vs,g,l,fun e he => ?_⟩
    obtain ⟨v,k1,k2⟩ := k e he
    refine ⟨v,k1,?_⟩
    show rN H v (bO S.ds d D' e).ws
    by_cases z : e = d
    ·rw [z,aM,e2,← z]; exact k2
    ·rw [bC _ _ z]; exact k2
  | _ => exact h
theorem aX.ak2 (M : aX H A n m S se) {d : Nat} (hd : d < n) {vs : List V} {v : V} {o : Option W} (hv : H (A .dJ) = some (.lst vs)) (hw : rN H v o) :
 aX (upd H (A .dJ) (.lst (vs.set d v))) A n m { S with ds := bO S.ds d { S.ds d with ws := o } } se∧mj H (upd H (A .dJ) (.lst (vs.set d v))) A n m := by
 obtain ⟨us,h1,h2,h3⟩ := M.dJ
 rw [hv] at h1
 cases h1
 refine M.set (x := .dJ) trivial (fun t => ⟨_,rfl,by rw [List.length_set]; exact h2,fun e he => ?_⟩) fun y hy hn o' h => ?_
 ·show ∃ v',(vs.set d v)[e]? = some v'∧rN _ v' (bO S.ds d { S.ds d with ws := o } e).ws
  by_cases z : e = d
  ·subst z
   exact ⟨v,by rw [List.getElem?_set_self (by lia)],by rw [aM]; exact hw.aU t⟩
  ·obtain ⟨v',k1,k2⟩ := h3 e he
   exact ⟨v',by rw [List.getElem?_set_ne (Ne.symm z)]; exact k1,by rw [bC _ _ z]; exact k2.aU t⟩
 ·cases y with
  | dJ => exact absurd rfl hn
  | rt e =>
    show o' = .lst ((List.range m).map fun p : Nat => V.str ((bO S.ds d { S.ds d with ws := o } e).rt p).s)
    by_cases z : e = d
    ·rw [z,aM,← z]; exact h
    ·rw [bC _ _ z]; exact h
  | cp e =>
    show o' = .lst ((List.range m).map fun p : Nat => V.int ((bO S.ds d { S.ds d with ws := o } e).nm p))
    by_cases z : e = d
    ·rw [z,aM,← z]; exact h
    ·rw [bC _ _ z]; exact h
  | _ => exact h
theorem aX.yG (M : aX H A n m S se) {p : Nat} (hp : p < m) {g : PG} (e1 : g.rd = (S.pg p).rd) (e2 : g.ask = (S.pg p).ask) : aX (upd H (A (.bN p)) (.dK (yp g (A (.iD p)) (A (.jx p))))) A n m { S with pg := bO S.pg p g } se∧mj H (upd H (A (.bN p)) (.dK (yp g (A (.iD p)) (A (.jx p))))) A n m :=
 M.set (x := .bN p) hp (fun t => by dsimp only [MG]; rw [aM]) fun y hy hn o h => by
  cases y with
  | bN e =>
    have hne : e≠p := fun z => hn (by rw [z])
    show o = .dK (yp (bO S.pg p g e) _ _)
    rw [bC _ _ hne]; exact h
  | iD e =>
    show o = .lst ((bO S.pg p g e).rd.map nV)
    by_cases z : e = p
    ·rw [z,aM,e1,← z]; exact h
    ·rw [bC _ _ z]; exact h
  | jx e =>
    show ∃ vs,o = .lst vs∧aG H vs ((bO S.pg p g e).ask.map Bp)
    by_cases z : e = p
    ·rw [z,aM,e2,← z]; exact h
    ·rw [bC _ _ z]; exact h
  | _ => exact h
theorem aX.apw (M : aX H A n m S se) {p : Nat} (hp : p < m) {l : List Nat} : aX (upd H (A (.iD p)) (.lst (l.map nV))) A n m { S with pg := bO S.pg p { S.pg p with rd := l } } se∧mj H (upd H (A (.iD p)) (.lst (l.map nV))) A n m :=
 M.set (x := .iD p) hp (fun t => by dsimp only [MG]; rw [aM]) fun y hy hn o h => by
  cases y with
  | iD e =>
    have hne : e≠p := fun z => hn (by rw [z])
    show o = .lst ((bO S.pg p _ e).rd.map nV)
    rw [bC _ _ hne]; exact h
  | bN e =>
    show o = .dK (yp (bO S.pg p _ e) _ _)
    by_cases z : e = p
    ·rw [z,aM,← z]; exact h
    ·rw [bC _ _ z]; exact h
  | jx e =>
    show ∃ vs,o = .lst vs∧aG H vs ((bO S.pg p _ e).ask.map Bp)
    by_cases z : e = p
    ·rw [z,aM,← z]; exact h
    ·rw [bC _ _ z]; exact h
  | _ => exact h
theorem aX.apx (M : aX H A n m S se) {p : Nat} (hp : p < m) {vs : List V} {l : List (Nat×Rt)} (r : aG H vs (l.map Bp)) : aX (upd H (A (.jx p)) (.lst vs)) A n m { S with pg := bO S.pg p { S.pg p with ask := l } } se∧mj H (upd H (A (.jx p)) (.lst vs)) A n m :=
 M.set (x := .jx p) hp (fun t => ⟨vs,rfl,by dsimp only; rw [aM]; exact r.aU t (jU _)⟩) fun y hy hn o h => by
  cases y with
  | jx e =>
    have hne : e≠p := fun z => hn (by rw [z])
    show ∃ vs,o = .lst vs∧aG H vs ((bO S.pg p _ e).ask.map Bp)
    rw [bC _ _ hne]; exact h
  | bN e =>
    show o = .dK (yp (bO S.pg p _ e) _ _)
    by_cases z : e = p
    ·rw [z,aM,← z]; exact h
    ·rw [bC _ _ z]; exact h
  | iD e =>
    show o = .lst ((bO S.pg p _ e).rd.map nV)
    by_cases z : e = p
    ·rw [z,aM,← z]; exact h
    ·rw [bC _ _ z]; exact h
  | _ => exact h
theorem aX.move (M : aX H A n m S se) {x y : Mb} (hx : x.ok n m) (hy : y.ok n m) (hxy : x≠y) {a : Addr} {o o' : HO} (ha : H a = none)
 (gx : MG (jA A x a) H n m S' se' x o) (gy : MG (jA A x a) H n m S' se' y o')
 (ho : ∀ z : Mb,z.ok n m→z≠x→z≠y→∀ o,MG A H n m S se z o→MG (jA A x a) H n m S' se' z o) :
 aX (upd (upd H a o) (A y) o') (jA A x a) n m S' se'∧mj H (upd (upd H a o) (A y) o') A n m∧∀ z : Mb,z.ok n m→jA A x a z = A z∨(z = x∧H (jA A x a z) = none) := by
 have na : ∀ z : Mb,z.ok n m→A z≠a := fun z hz => M.yF hz ha
 have t1 : bY H (upd H a o) := aY (aA ha)
 have t2 : bY H (upd (upd H a o) (A y) o') := fun b xs e => by rw [aq (M.tup_ne hy e)]; exact t1 b xs e
 refine ⟨⟨Vc M.inj na fun z hz => .inr hz,fun z hz => ?_⟩,⟨fun b u e hn => ?_,Lv.upd.trans Lv.upd⟩,fun z hz => ?_⟩
 ·by_cases e1 : z = x
  ·subst e1
   refine ⟨o,?_,gx.mono t2⟩
   rw [cV,aq (na y hy).symm,aj]
  ·rw [bH _ _ e1]
   by_cases e2 : z = y
   ·subst e2
    exact ⟨o',aj,gy.mono t2⟩
   ·obtain ⟨u,h1,h2⟩ := M.at_ z hz
    refine ⟨u,?_,(ho z hz e1 e2 u h2).mono t2⟩
    rw [aq fun q => e2 (M.inj z y hz hy q),aq (na z hz)]
    exact h1
 ·rw [aq (hn y hy),aq (aF e ha)]; exact e
 ·by_cases e1 : z = x
  ·rw [e1,cV]; exact .inr ⟨rfl,ha⟩
  ·rw [bH _ _ e1]; exact .inl rfl
theorem aX.aq2 (M : aX H A n m S se) {p : Nat} (hp : p < m) {a : Addr} (ha : H a = none) {l : List Nat} :
 aX (upd (upd H a (.lst (l.map nV))) (A (.bN p)) (.dK (yp { S.pg p with rd := l } a (A (.jx p))))) (jA A (.iD p) a) n m { S with pg := bO S.pg p { S.pg p with rd := l } } se∧
 mj H (upd (upd H a (.lst (l.map nV))) (A (.bN p)) (.dK (yp { S.pg p with rd := l } a (A (.jx p))))) A n m∧Mv H A (jA A (.iD p) a) n m := by
 have q := M.move (S' := { S with pg := bO S.pg p { S.pg p with rd := l } }) (se' := se) (x := .iD p) (y := .bN p) hp hp (by intro z; cases z) ha (o := .lst (l.map nV)) (o' := .dK (yp { S.pg p with rd := l } a (A (.jx p)))) ?_ ?_ fun z hz n1 n2 o h => ?_
 ·exact ⟨q.1,q.2.1,fun z hz => (q.2.2 z hz).imp id fun e => ⟨⟨p,e.1⟩,e.2⟩⟩
 ·dsimp only [MG]; rw [aM]
 ·dsimp only [MG]; rw [aM,cV,bH _ _ (by intro z; cases z)]
 ·cases z with
  | iD e =>
    have hne : e≠p := fun z => n1 (by rw [z])
    show o = .lst ((bO S.pg p _ e).rd.map nV)
    rw [bC _ _ hne]; exact h
  | bN e =>
    have hne : e≠p := fun z => n2 (by rw [z])
    show o = .dK (yp (bO S.pg p _ e) _ _)
    rw [bC _ _ hne,bH _ _ (by intro z; cases z; exact hne rfl),bH _ _ (by intro z; cases z)]; exact h
  | jx e =>
    show ∃ vs,o = .lst vs∧aG H vs ((bO S.pg p _ e).ask.map Bp)
    by_cases z : e = p
    ·rw [z,aM,← z]; exact h
    ·rw [bC _ _ z]; exact h
  | _ => exact h
end
end iz
namespace iz
open PySem L2
theorem aaK : ∀ (k : Nat) (g : PG) (p : Nat),(ou k g p).1.mu≤g.mu
 | 0,g,p => Nat.le_refl _
 | k + 1,g,p => by
   rw [ou]
   split
   ·exact Nat.le_trans (aaK k g.lent p) g.qR
   ·exact Nat.le_refl _
theorem PG.aeS (g : PG) (p : Nat) : (g.serve p).1.mu≤g.mu := aaK _ g p
theorem ag4 (g : PG) (p d : Nat) (x : Rt) : (pC g p d x).length≤1 := by
 unfold pC
 split
 ·split <;> simp
 ·simp
theorem ajq (g : PG) (p : Nat) : (g.dH p).length≤g.rd.length + 1 := by
 unfold PG.dH
 split
 ·simp
 ·rename_i a r l _
  rw [List.length_append]
  have h1 := ag4 g p a r
  have h2 : (pD g p a r).length≤g.rd.length := by
   unfold pD
   split
   ·rw [List.length_map]; exact List.length_filter_le _ _
   ·simp
  lia
theorem VJ : ∀ (k : Nat) (g : PG) (p : Nat),(ou k g p).2.length≤k + g.mu + 1
 | 0,g,p => by simp [ou]
 | k + 1,g,p => by
   rw [ou]
   split
   ·have := VJ k g.lent p
    have h2 := g.qR
    have h3 : (g.dX p).length≤1 := by unfold PG.dX; split <;> simp
    simp only [List.length_append]
    lia
   ·have := ajq g p
    simp only
    unfold PG.mu
    lia
theorem VL (g : PG) (p : Nat) : (g.serve p).2.length≤2 * g.mu + 1 := by
 have := VJ g.ask.length g p
 unfold PG.serve
 have h2 : g.ask.length≤g.mu := by unfold PG.mu; lia
 lia
theorem PG.air (g : PG) (p d : Nat) (l : UL) : (g.take p d l).1.mu≤g.mu + 2∧(g.take p d l).2.length≤2 * g.mu + 6 := by
 cases l with
 | ask q r =>
   simp only [PG.take]
   split
   ·rename_i e
    have e1 : ({ g with ask := [(d,r)] } : PG).mu = g.mu + 2 := by unfold PG.mu; rw [e]; simp
    have h1 := PG.aeS { g with ask := [(d,r)] } p
    have h2 := VL { g with ask := [(d,r)] } p
    lia
   ·refine ⟨?_,by simp⟩
    unfold PG.mu; simp; lia
 | ans q o =>
   simp only [PG.take]
   split
   ·generalize hg : ({ g with num := o.getD g.num,miss := g.miss - 1 } : PG) = g2
    have e1 : g2.mu = g.mu := by rw [← hg]; rfl
    have h1 := PG.aeS g2.lent p
    have h2 := VL g2.lent p
    have h3 := g2.qR
    have h4 : (g2.dX p).length≤1 := by unfold PG.dX; split <;> simp
    simp only [List.length_append]
    lia
   ·refine ⟨?_,by simp⟩
    show g.mu≤_; lia
 | gave q x =>
   simp only [PG.take]
   refine ⟨?_,by simp⟩
   show g.mu≤_; lia
def Bt (t : Nat) : Nat := 4 * (t * t) + 20 * t
theorem ais (t : Nat) : Bt (t + 1) = Bt t + 8 * t + 24 := by
 by_cases h : True
 ·unfold Bt
  have e : (t + 1) * (t + 1) = t * t + 2 * t + 1 := by rw [Nat.add_mul,Nat.mul_add]; lia
  rw [e]; lia
 ·exact absurd trivial h
theorem apy {t : Nat} (h : t≤1500) : Bt t≤9030000 := by
 unfold Bt
 have : t * t≤1500 * 1500 := Nat.mul_le_mul h h
 lia
structure Bd (t : Nat) (S : TS) (se : List (Nat×Let)) : Prop where
 mu : ∀ p,(S.pg p).mu≤2 * t
 up : ∀ d,(S.up d).length≤t
 row : S.row.length≤t
 dn : ∀ d,(S.dn d).length≤Bt t
 se : se.length≤Bt t
theorem Bd.more {t t' : Nat} {S : TS} {se : List (Nat×Let)} (b : Bd t S se) (h : t≤t') : Bd t' S se := by
 have hm : Bt t≤Bt t' := by unfold Bt; have := Nat.mul_le_mul h h; lia
 exact ⟨fun p => Nat.le_trans (b.mu p) (by lia),fun d => Nat.le_trans (b.up d) h,Nat.le_trans b.row h,fun d => Nat.le_trans (b.dn d) hm,Nat.le_trans b.se hm⟩
def TS.j9 (S : TS) (n : Nat) : cA→List (Nat×Let)
 | .up d => if inR d n then (match S.up d.toNat with | [] => [] | l :: _ => ((S.pg l.pg).take l.pg d.toNat l).2) else []
 | _ => []
theorem Bd.kW {t d : Nat} {S : TS} {se : List (Nat×Let)} {z : DS×List Ev×List UL} (b : Bd t S se) (h1 : z.2.1.length≤1) (h2 : z.2.2.length≤1) : Bd (t + 1) (S.kW d z) se := by
 have b' := b.more (Nat.le_succ t)
 refine ⟨b'.mu,fun e => ?_,?_,b'.dn,b'.se⟩
 ·show (bO S.up d (S.up d ++ z.2.2) e).length≤_
  by_cases y : e = d
  ·rw [y,aM,List.length_append]; have := b.up d; lia
  ·rw [bC _ _ y]; exact b'.up e
 ·show (fU S.row d z.2.1).length≤_
  unfold fU
  rw [List.length_append,List.length_map]
  have := b.row; lia
theorem DS.lH (S : DS) (w : W) (p : Nat) : (S.iC w p).2.1.length≤1∧(S.iC w p).2.2.length≤1 := by unfold DS.iC; split <;> simp
theorem DS.ajr (S : DS) (p : Int) (r : Rt) (x : Int) : (S.pG p r x).2.length≤1 := by
 unfold DS.pG
 split
 ·simp
 ·split <;> simp
theorem DS.Gs (S : DS) (l : Let) : (S.wN l).2.1.length≤1∧(S.wN l).2.2.length≤1 := by
 cases l with
 | lend p r x => exact ⟨S.ajr p r x,by simp [DS.wN]⟩
 | back p r => simp [DS.wN]
theorem Bd.step {t n m : Nat} {S : TS} {se : List (Nat×Let)} (b : Bd t S se) (x : cA) : Bd (t + 1) (S.step n m x).1 (se ++ S.j9 n x) := by
 have b' := b.more (Nat.le_succ t)
 have bn : ∀ {T : TS},Bd (t + 1) T se→Bd (t + 1) T (se ++ []) := fun {T} h => by rw [List.append_nil]; exact h
 cases x with
 | up d =>
   simp only [TS.step,TS.j9]
   split
   ·unfold TS.upD
    cases e : S.up d.toNat with
    | nil => exact bn b'
    | cons l r =>
      obtain ⟨h1,h2⟩ := (S.pg l.pg).air l.pg d.toNat l
      have hm := b.mu l.pg
      refine ⟨fun p => ?_,fun e' => ?_,b'.row,fun e' => ?_,?_⟩
      ·show (bO S.pg l.pg _ p).mu≤_
       by_cases y : p = l.pg
       ·rw [y,aM]; lia
       ·rw [bC _ _ y]; exact b'.mu p
      ·show (bO S.up d.toNat r e').length≤_
       by_cases y : e' = d.toNat
       ·rw [y,aM]; have := b.up d.toNat; rw [e] at this; simp at this; lia
       ·rw [bC _ _ y]; exact b'.up e'
      ·show (post S.dn _ e').length≤_
       have h3 := Kf S.dn ((S.pg l.pg).take l.pg d.toNat l).2 e'
       have h4 := b.dn e'
       rw [ais]; lia
      ·show (se ++ ((S.pg l.pg).take l.pg d.toNat l).2).length≤_
       rw [List.length_append]
       have h4 := b.se
       rw [ais]; lia
   ·exact bn b'
 | down d =>
   simp only [TS.step,TS.j9]
   split
   ·unfold TS.QM
    cases e : S.dn d.toNat with
    | nil => exact bn b'
    | cons l r =>
      have b1 : Bd t { S with dn := bO S.dn d.toNat r } se := ⟨b.mu,b.up,b.row,fun e' => by
       show (bO S.dn d.toNat r e').length≤_
       by_cases y : e' = d.toNat
       ·rw [y,aM]; have := b.dn d.toNat; rw [e] at this; simp at this; lia
       ·rw [bC _ _ y]; exact b.dn e',b.se⟩
      exact bn (b1.kW (DS.Gs _ _).1 (DS.Gs _ _).2)
   ·exact bn b'
 | rest d p =>
   simp only [TS.step,TS.j9]
   refine bn ?_
   split
   ·split
    ·split
     ·exact b'
     ·exact b.kW (by simp) (by dsimp only; split <;> simp)
    ·exact b'
   ·exact b'
 | look d p =>
   simp only [TS.step,TS.j9]
   refine bn ?_
   split
   ·split
    ·unfold TS.wish
     split
     ·exact b'
     ·exact b.kW (DS.lH _ _ _).1 (DS.lH _ _ _).2
    ·exact b'
   ·exact b'
 | put d p y =>
   simp only [TS.step,TS.j9]
   refine bn ?_
   split
   ·split
    ·unfold TS.wish
     split
     ·exact b'
     ·exact b.kW (DS.lH _ _ _).1 (DS.lH _ _ _).2
    ·exact b'
   ·exact b'
end iz
namespace L2
open PySem
variable {X : Cx}
end L2
namespace iz
open PySem L2
theorem Kh {us : List Value} (h : us.length = 1) : ∃ a0,us = [a0] := by
 match us,h with
 | [_],_ => exact ⟨_,rfl⟩
theorem ji {us : List Value} (h : us.length = 2) : ∃ a0 a1,us = [a0,a1] := by
 match us,h with
 | [_,_],_ => exact ⟨_,_,rfl⟩
theorem Ov {us : List Value} (h : us.length = 3) : ∃ a0 a1 a2,us = [a0,a1,a2] := by
 match us,h with
 | [_,_,_],_ => exact ⟨_,_,_,rfl⟩
theorem aq3 {us : List Value} (h : us.length = 4) : ∃ a0 a1 a2 a3,us = [a0,a1,a2,a3] := by
 match us,h with
 | [_,_,_,_],_ => exact ⟨_,_,_,_,rfl⟩
end iz
namespace iz
open PySem L2
section
variable {K : PySem.W.Frag} {i j : Nat} {x y v : V} {σ : St} {H : Hp} {Q : VK} {a b : Addr} {xs : List V} {k : Int}
theorem zt (h : σ[i]? = some (some (.ref b))) (hb : dq K H b xs) (hv : Ol xs k = some v) (q : Q v H) : Vk (agJ K) (iY i) (tC (.int k)) σ H Q := ⟨_,h,b,xs,k,v,rfl,rfl,hb,hv,q⟩
theorem zd (h : σ[i]? = some (some (.ref a))) (hd : Gw H a y (some v)) (q : Q v H) : Vu (iY i) (tC y) σ H Q := ⟨_,h,a,v,rfl,hd,q⟩
theorem RX (h : σ[i]? = some (some (.ref a))) (hd : Gw H a y (some (.ref b))) (hj : σ[j]? = some (some (.int k))) (hl : cz K H b xs) (hv : Ol xs k = some v) (q : Q v H) : Vk (ajc K) (Vu (iY i) (tC y)) (iY j) σ H Q := ⟨_,h,a,_,rfl,hd,_,hj,b,xs,k,v,rfl,rfl,hl,hv,q⟩
theorem zl (hj : σ[j]? = some (some (.int k))) (hl : cz K H b xs) (hv : Ol xs k = some v) (q : Q v H) : iY j σ H (fun y H2 => ajc K (.ref b) y H2 Q) := ⟨_,hj,b,xs,k,v,rfl,rfl,hl,hv,q⟩
end
end iz
namespace iz
open PySem L2
def ang (C X : Addr) : Sp := fun vs H Q E => ∃ p d S c a w,vs = [.ref p,.ref a]∧cg C H p d S c∧c≤900000∧H a = some (.tup (W.vs w))∧
 match S.ws with
 | none => ∀ v H',cg C H' p d (S.want w).1 (c + 2)→DF H H' p d→Rep (nw H H') v (S.want w).2→Q v H'
 | some _ => E (.ref X) none H
def anh (C X : Addr) : Sp := fun vs H Q E => ∃ p d S c n,vs = [.ref p,.int n]∧cg C H p d S c∧c≤900000∧
 if S.rt n = .no then E (.ref X) none H else ∀ v H',cg C H' p d (S.rest n).1 (c + 2)→DF H H' p d→Rep (nw H H') v (S.rest n).2→Q v H'
theorem cg.congr {C : Addr} {H : Hp} {p d : Addr} {S S' : DS} {c : Nat} (D : cg C H p d S c) (e1 : ∀ n,S'.rt n = S.rt n) (e2 : ∀ n,S.rt n≠.no→S'.nm n = S.nm n) (e3 : S'.ws = S.ws) : cg C H p d S' c := by
 obtain ⟨⟨dx,v,h1,h2⟩,⟨kvs,h3,h4,h5⟩⟩ := D
 refine ⟨⟨dx,v,h1,by rw [e3]; exact h2⟩,⟨kvs,h3,h4,fun n => ?_⟩⟩
 have := h5 n
 unfold rO at this ⊢
 rw [e1]
 split
 ·rename_i e; rw [if_pos e] at this; exact this
 ·rename_i e; rw [if_neg e] at this; rw [e2 n e]; exact this
theorem Kept.lv {H H' : Hp} (h : Kept H H') : Lv H H' := fun _ e => h.free e
inductive Tb where
 | bx | lJ | ups | downs | row | up (d : Nat) | dn (d : Nat) | dk (d : Nat) | cp (d : Nat) | h (x : Hb)
 deriving DecidableEq
def Tb.ok (n m : Nat) : Tb→Prop
 | .up d => d < n
 | .dn d => d < n
 | .dk d => d < n
 | .cp d => d < n
 | .h x => x.ok m
 | _ => True
def RZ (m : Nat) (h d u o r : Addr) : List (Str×V) := [("page_count",.int m),("hall",.ref h),("desks",.ref d),("roads_up",.ref u),("roads_down",.ref o),("row",.ref r)]
section
variable {m : Nat} {h d u o r : Addr}
theorem ak3 : fW "row" (.ref r) (fW "roads_down" (.ref o) (fW "roads_up" (.ref u) (fW "desks" (.ref d) (fW "hall" (.ref h) (fW "page_count" (.int m) []))))) = RZ m h d u o r := by kernel_rfl
theorem ajs : (RZ m h d u o r).lookup ("page_count" : Str) = some (.int m) := by kernel_rfl
theorem ak4 : (RZ m h d u o r).lookup ("hall" : Str) = some (.ref h) := by kernel_rfl
theorem wU : (RZ m h d u o r).lookup ("desks" : Str) = some (.ref d) := by kernel_rfl
theorem abv : (RZ m h d u o r).lookup ("roads_up" : Str) = some (.ref u) := by kernel_rfl
theorem aaL : (RZ m h d u o r).lookup ("roads_down" : Str) = some (.ref o) := by kernel_rfl
theorem ani : (RZ m h d u o r).lookup ("row" : Str) = some (.ref r) := by kernel_rfl
theorem aq4 : (RZ m h d u o r).lookup ("check_desk" : Str) = none := by kernel_rfl
theorem ag5 : (RZ m h d u o r).lookup ("check_page" : Str) = none := by kernel_rfl
theorem aq5 : (RZ m h d u o r).lookup ("do_deed" : Str) = none := by kernel_rfl
theorem aq6 : (RZ m h d u o r).lookup ("look_at" : Str) = none := by kernel_rfl
theorem aq7 : (RZ m h d u o r).lookup ("put_on" : Str) = none := by kernel_rfl
theorem aq8 : (RZ m h d u o r).lookup ("give_up" : Str) = none := by kernel_rfl
theorem aq9 : (RZ m h d u o r).lookup ("bring_up" : Str) = none := by kernel_rfl
theorem ara : (RZ m h d u o r).lookup ("bring_down" : Str) = none := by kernel_rfl
theorem ak5 : (RZ m h d u o r).lookup ("first_letter" : Str) = none := by kernel_rfl
theorem ag6 : (RZ m h d u o r).lookup ("carry_out" : Str) = none := by kernel_rfl
end
structure C4 where
 T : Addr
 D : Addr
 H : Addr
 P : Addr
structure cF (c : C4) (H : Hp) (B : Tb→Addr) (n m : Nat) (S : TS) (k : Nat) : Prop where
 inj : ∀ x y : Tb,x.ok n m→y.ok n m→B x = B y→x = y
 ob : ∃ dx,H (B .bx) = some (.ins c.T dx (RZ m (B (.h .hall)) (B .lJ) (B .ups) (B .downs) (B .row)))
 ds : H (B .lJ) = some (.lst ((List.range n).map fun d => V.ref (B (.dk d))))
 us : H (B .ups) = some (.lst ((List.range n).map fun d => V.ref (B (.up d))))
 os : H (B .downs) = some (.lst ((List.range n).map fun d => V.ref (B (.dn d))))
 row : ∃ vs,H (B .row) = some (.lst vs)∧aG H vs (S.row.map RE.d)
 up : ∀ d,d < n→∃ vs,H (B (.up d)) = some (.lst vs)∧aG H vs ((S.up d).map UL.d)
 dn : ∀ d,d < n→∃ vs,H (B (.dn d)) = some (.lst vs)∧aG H vs ((S.dn d).map Let.d)
 dk : ∀ d,d < n→cg c.D H (B (.dk d)) (B (.cp d)) (S.ds d) k
 hl : kY c.H c.P H (fun x => B (.h x)) m S.pg
structure TF (H H' : Hp) (B : Tb→Addr) (n m : Nat) : Prop where
 kp : ∀ b o,H b = some o→(∀ x : Tb,x.ok n m→b≠B x)→H' b = some o
 lv : Lv H H'
theorem TF.refl (H : Hp) (B : Tb→Addr) (n m : Nat) : TF H H B n m := ⟨fun _ _ h _ => h,Lv.refl _⟩
def Tv (H : Hp) (B B1 : Tb→Addr) (n m : Nat) : Prop := ∀ x : Tb,x.ok n m→B1 x = B x∨H (B1 x) = none
theorem Tv.refl (H : Hp) (B : Tb→Addr) (n m : Nat) : Tv H B B n m := fun _ _ => .inl rfl
theorem TF.trans {H H1 H2 : Hp} {B B1 : Tb→Addr} {n m : Nat} (x : TF H H1 B n m) (y : TF H1 H2 B1 n m) (h : Tv H B B1 n m) : TF H H2 B n m := ⟨fun b o hb hn => y.kp b o (x.kp b o hb hn) fun z hz => by
 rcases h z hz with e | e
 ·rw [e]; exact hn z hz
 ·exact aF hb e,x.lv.trans y.lv⟩
section
variable {c : C4} {H H' : Hp} {B : Tb→Addr} {n m : Nat} {S S' : TS} {k k' : Nat}
theorem cF.live (T : cF c H B n m S k) (x : Tb) (hx : x.ok n m) : ∃ o,H (B x) = some o∧∀ xs,o≠.tup xs := by
 cases x with
 | bx => obtain ⟨dx,e⟩ := T.ob; exact ⟨_,e,fun _ z => by cases z⟩
 | lJ => exact ⟨_,T.ds,fun _ z => by cases z⟩
 | ups => exact ⟨_,T.us,fun _ z => by cases z⟩
 | downs => exact ⟨_,T.os,fun _ z => by cases z⟩
 | row => obtain ⟨vs,e,_⟩ := T.row; exact ⟨_,e,fun _ z => by cases z⟩
 | up d => obtain ⟨vs,e,_⟩ := T.up d hx; exact ⟨_,e,fun _ z => by cases z⟩
 | dn d => obtain ⟨vs,e,_⟩ := T.dn d hx; exact ⟨_,e,fun _ z => by cases z⟩
 | dk d => obtain ⟨⟨dx,v,e,_⟩,_⟩ := T.dk d hx; exact ⟨_,e,fun _ z => by cases z⟩
 | cp d => obtain ⟨_,⟨kvs,e,_⟩⟩ := T.dk d hx; exact ⟨_,e,fun _ z => by cases z⟩
 | h x => exact T.hl.live x hx
theorem cF.ne (T : cF c H B n m S k) {x : Tb} (hx : x.ok n m) {b : Addr} (h : H b = none) : B x≠b := fun z => by
 obtain ⟨o,e,_⟩ := T.live x hx
 rw [z,h] at e; cases e
theorem cF.tne (T : cF c H B n m S k) {x : Tb} (hx : x.ok n m) {b : Addr} {xs : List V} (h : H b = some (.tup xs)) : b≠B x := fun z => by
 obtain ⟨o,e,g⟩ := T.live x hx
 rw [← z,h] at e; exact g xs (Option.some.inj e).symm
theorem TF.tups (T : cF c H B n m S k) (f : TF H H' B n m) : bY H H' := fun b xs e => f.kp b _ e fun _ hx => T.tne hx e
theorem TF.of_same (s : bZ H H') : TF H H' B n m := ⟨fun b o e _ => s b o e,Lv.same s⟩
theorem cF.but (T : cF c H B n m S k) (t : bY H H') (ch : Tb→Prop) (kp : ∀ x : Tb,x.ok n m→¬ ch x→∀ o,H (B x) = some o→H' (B x) = some o) (hk : k≤k')
 (c1 : ¬ ch .bx) (c2 : ¬ ch .lJ) (c3 : ¬ ch .ups) (c4 : ¬ ch .downs)
 (row : (¬ ch .row∧S'.row = S.row)∨∃ vs,H' (B .row) = some (.lst vs)∧aG H' vs (S'.row.map RE.d))
 (up : ∀ d,d < n→(¬ ch (.up d)∧S'.up d = S.up d)∨∃ vs,H' (B (.up d)) = some (.lst vs)∧aG H' vs ((S'.up d).map UL.d))
 (dn : ∀ d,d < n→(¬ ch (.dn d)∧S'.dn d = S.dn d)∨∃ vs,H' (B (.dn d)) = some (.lst vs)∧aG H' vs ((S'.dn d).map Let.d))
 (dk : ∀ d,d < n→(¬ ch (.dk d)∧¬ ch (.cp d)∧S'.ds d = S.ds d)∨cg c.D H' (B (.dk d)) (B (.cp d)) (S'.ds d) k')
 (hl : ((∀ x : Hb,¬ ch (.h x))∧S'.pg = S.pg)∨kY c.H c.P H' (fun x => B (.h x)) m S'.pg) : cF c H' B n m S' k' := by
 refine ⟨T.inj,?_,kp .lJ trivial c2 _ T.ds,kp .ups trivial c3 _ T.us,kp .downs trivial c4 _ T.os,?_,fun d hd => ?_,fun d hd => ?_,fun d hd => ?_,?_⟩
 ·obtain ⟨dx,e⟩ := T.ob
  exact ⟨dx,kp .bx trivial c1 _ e⟩
 ·rcases row with ⟨a,b⟩ | z
  ·obtain ⟨vs,e,r⟩ := T.row
   exact ⟨vs,kp .row trivial a _ e,by rw [b]; exact r.aU t (bU RE.flat _)⟩
  ·exact z
 ·rcases up d hd with ⟨a,b⟩ | z
  ·obtain ⟨vs,e,r⟩ := T.up d hd
   exact ⟨vs,kp (.up d) hd a _ e,by rw [b]; exact r.aU t (bU UL.flat _)⟩
  ·exact z
 ·rcases dn d hd with ⟨a,b⟩ | z
  ·obtain ⟨vs,e,r⟩ := T.dn d hd
   exact ⟨vs,kp (.dn d) hd a _ e,by rw [b]; exact r.aU t (bU Let.flat _)⟩
  ·exact z
 ·rcases dk d hd with ⟨a,a',b⟩ | z
  ·rw [b]
   exact ((T.dk d hd).keep t (kp (.dk d) hd a) (kp (.cp d) hd a')).mono hk
  ·exact z
 ·rcases hl with ⟨a,b⟩ | z
  ·rw [b]
   exact T.hl.keep t fun x hx => kp (.h x) hx (a x)
  ·exact z
theorem cF.keep (T : cF c H B n m S k) (t : bY H H') (kp : ∀ x : Tb,x.ok n m→∀ o,H (B x) = some o→H' (B x) = some o) : cF c H' B n m S k :=
 T.but t (fun _ => False) (fun x hx _ => kp x hx) (Nat.le_refl _) id id id id (.inl ⟨id,rfl⟩) (fun _ _ => .inl ⟨id,rfl⟩) (fun _ _ => .inl ⟨id,rfl⟩) (fun _ _ => .inl ⟨id,id,rfl⟩) (.inl ⟨fun _ => id,rfl⟩)
theorem cF.same (T : cF c H B n m S k) (s : bZ H H') : cF c H' B n m S k := T.keep (aY s) fun x _ o e => s _ o e
theorem cF.new {a : Addr} {o : HO} (T : cF c H B n m S k) (h : H a = none) : cF c (upd H a o) B n m S k := T.same (aA h)
theorem cF.more (T : cF c H B n m S k) (h : k≤k') : cF c H B n m S k' := { T with dk := fun d hd => (T.dk d hd).mono h }
theorem TF.wr {x : Tb} (hx : x.ok n m) {o : HO} : TF H (upd H (B x) o) B n m := ⟨fun b u e hn => by rw [aq (hn x hx)]; exact e,Lv.upd⟩
theorem cF.arb (T : cF c H B n m S k) {x : Tb} (hx : x.ok n m) {o : HO} : bY H (upd H (B x) o) := fun b xs e => by rw [aq (T.tne hx e)]; exact e
theorem cF.kp1 (T : cF c H B n m S k) {x : Tb} (hx : x.ok n m) {o : HO} : ∀ y : Tb,y.ok n m→¬ y = x→∀ u,H (B y) = some u→upd H (B x) o (B y) = some u := fun y hy hn u e => by
 rw [aq fun z => hn (T.inj y x hy hx z)]; exact e
theorem cF.ak1 (T : cF c H B n m S k) {vs : List V} {l : List RE} (r : aG H vs (l.map RE.d)) : cF c (upd H (B .row) (.lst vs)) B n m { S with row := l } k :=
 have t := T.arb (x := .row) trivial
 T.but t (· = .row) (T.kp1 (x := .row) trivial) (Nat.le_refl _) nofun nofun nofun nofun (.inr ⟨vs,aj,r.aU t (bU RE.flat _)⟩)
  (fun d _ => .inl ⟨nofun,rfl⟩) (fun d _ => .inl ⟨nofun,rfl⟩) (fun d _ => .inl ⟨nofun,nofun,rfl⟩) (.inl ⟨fun _ => nofun,rfl⟩)
theorem cF.aeR (T : cF c H B n m S k) {d : Nat} (hd : d < n) {vs : List V} {l : List UL} (r : aG H vs (l.map UL.d)) : cF c (upd H (B (.up d)) (.lst vs)) B n m { S with up := bO S.up d l } k :=
 have t := T.arb (x := .up d) hd
 T.but t (· = .up d) (T.kp1 (x := .up d) hd) (Nat.le_refl _) nofun nofun nofun nofun (.inl ⟨nofun,rfl⟩)
  (fun e _ => by
    by_cases y : e = d
    ·subst y; exact .inr ⟨vs,aj,by dsimp only; rw [aM]; exact r.aU t (bU UL.flat _)⟩
    ·exact .inl ⟨fun z => y (by cases z; rfl),bC _ _ y⟩)
  (fun d _ => .inl ⟨nofun,rfl⟩) (fun d _ => .inl ⟨nofun,nofun,rfl⟩) (.inl ⟨fun _ => nofun,rfl⟩)
theorem cF.ajp (T : cF c H B n m S k) {d : Nat} (hd : d < n) {vs : List V} {l : List Let} (r : aG H vs (l.map Let.d)) : cF c (upd H (B (.dn d)) (.lst vs)) B n m { S with dn := bO S.dn d l } k :=
 have t := T.arb (x := .dn d) hd
 T.but t (· = .dn d) (T.kp1 (x := .dn d) hd) (Nat.le_refl _) nofun nofun nofun nofun (.inl ⟨nofun,rfl⟩)
  (fun d _ => .inl ⟨nofun,rfl⟩)
  (fun e _ => by
    by_cases y : e = d
    ·subst y; exact .inr ⟨vs,aj,by dsimp only; rw [aM]; exact r.aU t (bU Let.flat _)⟩
    ·exact .inl ⟨fun z => y (by cases z; rfl),bC _ _ y⟩)
  (fun d _ => .inl ⟨nofun,nofun,rfl⟩) (.inl ⟨fun _ => nofun,rfl⟩)
theorem cF.kW (T : cF c H B n m S k) {d : Nat} (hd : d < n) {D' : DS} (DA : cg c.D H' (B (.dk d)) (B (.cp d)) D' k') (f : DF H H' (B (.dk d)) (B (.cp d))) (hk : k≤k') :
 cF c H' B n m { S with ds := bO S.ds d D' } k'∧TF H H' B n m := by
 have t := f.tups (T.dk d hd)
 refine ⟨T.but t (fun x => x = .dk d∨x = .cp d) (fun x hx hn o e => f _ o e (fun z => hn (.inl (T.inj x (.dk d) hx hd z))) fun z => hn (.inr (T.inj x (.cp d) hx hd z))) hk (fun z => z.elim nofun nofun) (fun z => z.elim nofun nofun) (fun z => z.elim nofun nofun) (fun z => z.elim nofun nofun)
  (.inl ⟨fun z => z.elim nofun nofun,rfl⟩) (fun e _ => .inl ⟨fun z => z.elim nofun nofun,rfl⟩) (fun e _ => .inl ⟨fun z => z.elim nofun nofun,rfl⟩) (fun e he => ?_) (.inl ⟨fun _ z => z.elim nofun nofun,rfl⟩),⟨fun b o e hn => f b o e (hn (.dk d) hd) (hn (.cp d) hd),((f.kept (T.dk d hd) DA)).lv⟩⟩
 by_cases y : e = d
 ·subst y; exact .inr (by dsimp only; rw [aM]; exact DA)
 ·exact .inl ⟨fun z => z.elim (fun z => y (Tb.dk.inj z)) nofun,fun z => z.elim nofun (fun z => y (Tb.cp.inj z)),bC _ _ y⟩
def mvB (B : Tb→Addr) (A : Hb→Addr) : Tb→Addr
 | .h x => A x
 | x => B x
theorem cF.hall (T : cF c H B n m S k) {A : Hb→Addr} {G : Nat→PG} (HA : kY c.H c.P H' A m G) (f : HF H H' (fun x => B (.h x)) m) (mv : ∀ x : Hb,x.ok m→A x = B (.h x)∨H (A x) = none) (eh : A .hall = B (.h .hall)) :
 cF c H' (mvB B A) n m { S with pg := G } k∧TF H H' B n m∧Tv H B (mvB B A) n m := by
 have t : bY H H' := f.tups T.hl
 have kp : ∀ x : Tb,x.ok n m→(∀ y : Hb,x≠.h y)→∀ o,H (B x) = some o→H' (B x) = some o := fun x hx hn o e => f.kp _ o e fun y hy z => hn y (T.inj x (.h y) hx hy z)
 refine ⟨⟨fun x y hx hy e => ?_,?_,kp .lJ trivial (by intro y z; cases z) _ T.ds,kp .ups trivial (by intro y z; cases z) _ T.us,kp .downs trivial (by intro y z; cases z) _ T.os,?_,fun d hd => ?_,fun d hd => ?_,fun d hd => ?_,HA⟩,⟨fun b o e hn => f.kp b o e fun y hy => hn (.h y) hy,f.lv⟩,fun x hx => ?_⟩
 ·have key : ∀ (u : Tb) (v : Hb),u.ok n m→(∀ y : Hb,u≠.h y)→v.ok m→B u≠A v := fun u v hu hn hv z => by
   rcases mv v hv with q | q
   ·rw [q] at z; exact hn v (T.inj u (.h v) hu hv z)
   ·rw [← z] at q; obtain ⟨o,e,_⟩ := T.live u hu; rw [q] at e; cases e
  cases x with
  | h x' => cases y with
    | h y' => rw [HA.inj x' y' hx hy e]
    | _ => exact absurd e.symm (key _ x' hy (by intro y z; cases z) hx)
  | _ => cases y with
    | h y' => exact absurd e (key _ y' hx (by intro y z; cases z) hy)
    | _ => exact T.inj _ _ hx hy e
 ·obtain ⟨dx,e⟩ := T.ob
  refine ⟨dx,?_⟩
  have := kp .bx trivial (by intro y z; cases z) _ e
  rw [← eh] at this
  exact this
 ·obtain ⟨vs,e,r⟩ := T.row
  exact ⟨vs,kp .row trivial (by intro y z; cases z) _ e,r.aU t (bU RE.flat _)⟩
 ·obtain ⟨vs,e,r⟩ := T.up d hd
  exact ⟨vs,kp (.up d) hd (by intro y z; cases z) _ e,r.aU t (bU UL.flat _)⟩
 ·obtain ⟨vs,e,r⟩ := T.dn d hd
  exact ⟨vs,kp (.dn d) hd (by intro y z; cases z) _ e,r.aU t (bU Let.flat _)⟩
 ·exact (T.dk d hd).keep t (kp (.dk d) hd (by intro y z; cases z)) (kp (.cp d) hd (by intro y z; cases z))
 ·cases x with
  | h y => exact mv y hx
  | _ => exact .inl rfl
end
end iz
namespace iz
open PySem L2
def top (i : Nat) : Stmt := PySem.Challenge.pw_copydesks_k01_answers.main.body.getD i (.Pass ⟨0,0,0,0⟩)
abbrev ait : Stmt := top 0
abbrev yH : Stmt := top 12
abbrev qb : Stmt := top 13
abbrev vI : Stmt := top 14
abbrev vJ : Stmt := top 15
abbrev vK : Stmt := top 16
abbrev Dm : Stmt := top 19
abbrev rT : Stmt := top 20
abbrev Dn : Stmt := inClass (top 21) 0
abbrev qe : Stmt := inClass (top 21) 1
abbrev yI : Stmt := inClass (top 21) 2
abbrev Dp : Stmt := inClass (top 21) 3
abbrev Dq : Stmt := inClass (top 21) 4
abbrev Dr : Stmt := inClass (top 21) 5
abbrev vL : Stmt := inClass (top 21) 6
abbrev rW : Stmt := inClass (top 21) 7
abbrev oE : Stmt := inClass (top 21) 8
abbrev rY : Stmt := inClass (top 21) 9
abbrev jj : Stmt := inClass (top 21) 10
abbrev Ds : Stmt := inClass (top 21) 11
abbrev oF : Stmt := inClass (top 23) 0
abbrev jK : Stmt := inClass (top 23) 1
abbrev iJ : Stmt := inClass (top 23) 2
abbrev jl : Stmt := inClass (top 23) 3
abbrev mq : Stmt := inClass (top 23) 4
abbrev gD : Stmt := inClass (top 23) 5
abbrev oG : Stmt := inClass (top 23) 6
abbrev jm : Stmt := inClass (top 23) 7
abbrev jL : Stmt := inClass (top 23) 8
abbrev Dt : Stmt := inClass (top 24) 0
abbrev Du : Stmt := inClass (top 24) 1
abbrev Dv : Stmt := inClass (top 28) 0
abbrev rZ : Stmt := inClass (top 28) 1
abbrev my : Stmt := inClass (top 28) 2
abbrev mz : Stmt := inClass (top 28) 3
abbrev su : Stmt := inClass (top 28) 4
abbrev vM : Stmt := inClass (top 28) 5
abbrev sE : Stmt := inClass (top 28) 6
abbrev qg : Stmt := inClass (top 28) 7
abbrev mC : Stmt := inClass (top 28) 8
abbrev jX : Stmt := inClass (top 28) 9
abbrev oH : Stmt := inClass (top 28) 10
abbrev uG : Stmt := inClass (top 28) 11
abbrev wV : Stmt := inClass (top 28) 12
abbrev pH : Stmt := inClass (top 28) 13
abbrev Dw : Stmt := top 30
abbrev Ow : Stmt := top 31
abbrev Ox : Stmt := top 33
abbrev ag7 : Stmt := top 34
abbrev VM : Stmt := top 35
abbrev Dy : Stmt := top 36
abbrev abw : Stmt := top 37
abbrev yJ : Stmt := top 38
abbrev Oz : Stmt := top 39
abbrev Dz : Stmt := top 40
abbrev Ib : Stmt := top 41
abbrev vN : Stmt := top 42
abbrev vO : Stmt := top 43
abbrev sG : Stmt := top 44
abbrev yK : Stmt := top 45
abbrev sH : Stmt := top 46
abbrev qi : Stmt := top 47
abbrev yL : Stmt := top 48
abbrev ak6 : Stmt := top 49
theorem YQ : bz ["page","right"] ["page","right"] (aN yH) := ⟨rfl,rfl,rfl,by decide +kernel,rfl,by decide +kernel,by decide +kernel⟩
theorem OD : bz ["page","number"] ["page","number"] (aN qb) := ⟨rfl,rfl,rfl,by decide +kernel,rfl,by decide +kernel,by decide +kernel⟩
theorem VN : bz ["page","number"] ["page","number"] (aN vI) := ⟨rfl,rfl,rfl,by decide +kernel,rfl,by decide +kernel,by decide +kernel⟩
theorem VP : bz ["page","right","number"] ["page","right","number"] (aN vJ) := ⟨rfl,rfl,rfl,by decide +kernel,rfl,by decide +kernel,by decide +kernel⟩
theorem VR : bz ["page","right"] ["page","right"] (aN vK) := ⟨rfl,rfl,rfl,by decide +kernel,rfl,by decide +kernel,by decide +kernel⟩
theorem abx : bz ["right","needed"] ["right","needed"] (aN Dm) := ⟨rfl,rfl,rfl,by decide +kernel,rfl,by decide +kernel,by decide +kernel⟩
theorem R0 : bz ["wish"] ["wish"] (aN rT) := ⟨rfl,rfl,rfl,by decide +kernel,rfl,by decide +kernel,by decide +kernel⟩
theorem aby : bz ["self"] ["self"] (aN Dn) := ⟨rfl,rfl,rfl,by decide +kernel,rfl,by decide +kernel,by decide +kernel⟩
theorem OJ : bz ["self","page"] ["self","page"] (aN qe) := ⟨rfl,rfl,rfl,by decide +kernel,rfl,by decide +kernel,by decide +kernel⟩
theorem YS : bz ["self"] ["self"] (aN yI) := ⟨rfl,rfl,rfl,by decide +kernel,rfl,by decide +kernel,by decide +kernel⟩
theorem abz : bz ["self","wish"] ["self","wish"] (aN Dp) := ⟨rfl,rfl,rfl,by decide +kernel,rfl,by decide +kernel,by decide +kernel⟩
theorem abA : bz ["self","letter"] ["self","letter"] (aN Dq) := ⟨rfl,rfl,rfl,by decide +kernel,rfl,by decide +kernel,by decide +kernel⟩
theorem Kl : bz ["self","page","number"] ["self","page"] (aN Dr) := ⟨rfl,rfl,rfl,by decide +kernel,rfl,by decide +kernel,by decide +kernel⟩
theorem V0 : bz ["self","wish"] ["self","wish"] (aN vL) := ⟨rfl,rfl,rfl,by decide +kernel,rfl,by decide +kernel,by decide +kernel⟩
theorem Ab : bz ["self","wish","page"] ["self","wish"] (aN rW) := ⟨rfl,rfl,rfl,by decide +kernel,rfl,by decide +kernel,by decide +kernel⟩
theorem uH : bz ["self","page","right","number","wish"] ["self","page","right","number"] (aN oE) := ⟨rfl,rfl,rfl,by decide +kernel,rfl,by decide +kernel,by decide +kernel⟩
theorem Ac : bz ["self","page","right","number"] ["self","page","right"] (aN rY) := ⟨rfl,rfl,rfl,by decide +kernel,rfl,by decide +kernel,by decide +kernel⟩
theorem yM : bz ["self","page"] ["self","page"] (aN jj) := ⟨rfl,rfl,rfl,by decide +kernel,rfl,by decide +kernel,by decide +kernel⟩
theorem abB : bz ["self","page","right","number"] ["self","page","right","number"] (aN Ds) := ⟨rfl,rfl,rfl,by decide +kernel,rfl,by decide +kernel,by decide +kernel⟩
theorem Km : bz ["self","page","number"] ["self","page","number"] (aN oF) := ⟨rfl,rfl,rfl,by decide +kernel,rfl,by decide +kernel,by decide +kernel⟩
theorem Bq : bz ["self","desk","right"] ["self","desk","right"] (aN jK) := ⟨rfl,rfl,rfl,by decide +kernel,rfl,by decide +kernel,by decide +kernel⟩
theorem vP : bz ["self","number"] ["self","number"] (aN iJ) := ⟨rfl,rfl,rfl,by decide +kernel,rfl,by decide +kernel,by decide +kernel⟩
theorem yN : bz ["self","desk","number"] ["self","desk","number"] (aN jl) := ⟨rfl,rfl,rfl,by decide +kernel,rfl,by decide +kernel,by decide +kernel⟩
theorem lg : bz ["self","sent","bids"] ["self"] (aN mq) := ⟨rfl,rfl,rfl,by decide +kernel,rfl,by decide +kernel,by decide +kernel⟩
theorem d9 : bz ["self","asking","right","bids"] ["self"] (aN gD) := ⟨rfl,rfl,rfl,by decide +kernel,rfl,by decide +kernel,by decide +kernel⟩
theorem uI : bz ["self","first"] ["self"] (aN oG) := ⟨rfl,rfl,rfl,by decide +kernel,rfl,by decide +kernel,by decide +kernel⟩
theorem yO : bz ["self","desk"] ["self","desk"] (aN jm) := ⟨rfl,rfl,rfl,by decide +kernel,rfl,by decide +kernel,by decide +kernel⟩
theorem Br : bz ["self","desk"] ["self","desk"] (aN jL) := ⟨rfl,rfl,rfl,by decide +kernel,rfl,by decide +kernel,by decide +kernel⟩
theorem abC : bz ["self","numbers"] ["self","numbers"] (aN Dt) := ⟨rfl,rfl,rfl,by decide +kernel,rfl,by decide +kernel,by decide +kernel⟩
theorem Ko : bz ["self","desk","letter","loans"] ["self","desk","letter"] (aN Du) := ⟨rfl,rfl,rfl,by decide +kernel,rfl,by decide +kernel,by decide +kernel⟩
theorem abD : bz ["self","count","numbers"] ["self","count","numbers"] (aN Dv) := ⟨rfl,rfl,rfl,by decide +kernel,rfl,by decide +kernel,by decide +kernel⟩
theorem kJ : bz ["self","deed","word","desk","page"] ["self","deed"] (aN rZ) := ⟨rfl,rfl,rfl,by decide +kernel,rfl,by decide +kernel,by decide +kernel⟩
theorem Ie : bz ["self","desk"] ["self","desk"] (aN my) := ⟨rfl,rfl,rfl,by decide +kernel,rfl,by decide +kernel,by decide +kernel⟩
theorem Ig : bz ["self","page"] ["self","page"] (aN mz) := ⟨rfl,rfl,rfl,by decide +kernel,rfl,by decide +kernel,by decide +kernel⟩
theorem Ad : bz ["self","desk","page","done"] ["self","desk","page"] (aN su) := ⟨rfl,rfl,rfl,by decide +kernel,rfl,by decide +kernel,by decide +kernel⟩
theorem DG : bz ["self","desk","page","number","done"] ["self","desk","page","number"] (aN vM) := ⟨rfl,rfl,rfl,by decide +kernel,rfl,by decide +kernel,by decide +kernel⟩
theorem R1 : bz ["self","desk","page"] ["self","desk","page"] (aN sE) := ⟨rfl,rfl,rfl,by decide +kernel,rfl,by decide +kernel,by decide +kernel⟩
theorem iK : bz ["self","desk","letter","pairs","receiver","sent"] ["self","desk"] (aN qg) := ⟨rfl,rfl,rfl,by decide +kernel,rfl,by decide +kernel,by decide +kernel⟩
theorem sI : bz ["self","desk","letter"] ["self","desk"] (aN mC) := ⟨rfl,rfl,rfl,by decide +kernel,rfl,by decide +kernel,by decide +kernel⟩
theorem DK : bz ["self","road"] ["self","road"] (aN jX) := ⟨rfl,rfl,rfl,by decide +kernel,rfl,by decide +kernel,by decide +kernel⟩
theorem jy : bz ["self","desk","told","word","page","number"] ["self","desk","told"] (aN oH) := ⟨rfl,rfl,rfl,by decide +kernel,rfl,by decide +kernel,by decide +kernel⟩
theorem abE : bz ["town","deed"] ["town","deed"] (aN Dw) := ⟨rfl,rfl,rfl,by decide +kernel,rfl,by decide +kernel,by decide +kernel⟩
theorem V1 : bz ["count","numbers","deeds","town"] ["count","numbers","deeds"] (aN Ow) := ⟨rfl,rfl,rfl,by decide +kernel,rfl,by decide +kernel,by decide +kernel⟩
theorem ag8 : bz ["_law_found"] ["_law_found"] (aN Ox) := ⟨rfl,rfl,rfl,by decide +kernel,rfl,by decide +kernel,by decide +kernel⟩
theorem anj : bz ["_law_script","_law_k"] ["_law_script","_law_k"] (aN ag7) := ⟨rfl,rfl,rfl,by decide +kernel,rfl,by decide +kernel,by decide +kernel⟩
theorem wW : bz ["_law_found","_law_due","_law_left","_law_right","_law_one","_law_two"] ["_law_found","_law_due"] (aN VM) := ⟨rfl,rfl,rfl,by decide +kernel,rfl,by decide +kernel,by decide +kernel⟩
theorem qT : bz ["_law_count","_law_numbers","_law_town","_law_number","_law_shelf"] ["_law_count","_law_numbers"] (aN Dy) := ⟨rfl,rfl,rfl,by decide +kernel,rfl,by decide +kernel,by decide +kernel⟩
theorem pI : bz ["_law_town","_law_page","_law_shelf","_law_desk","_law_right","_law_bids","_law_one","_law_low"] ["_law_town","_law_page"] (aN abw) := ⟨rfl,rfl,rfl,by decide +kernel,rfl,by decide +kernel,by decide +kernel⟩
theorem kh : bz ["_law_town","_law_page","_law_shelf","_law_desk","_law_right","_law_letter"] ["_law_town","_law_page"] (aN yJ) := ⟨rfl,rfl,rfl,by decide +kernel,rfl,by decide +kernel,by decide +kernel⟩
theorem V2 : bz ["_law_town","_law_page","_law_shelf"] ["_law_town","_law_page"] (aN Oz) := ⟨rfl,rfl,rfl,by decide +kernel,rfl,by decide +kernel,by decide +kernel⟩
theorem yP : bz ["_law_town","_law_desk","_law_letter","_law_shelf"] ["_law_town","_law_desk"] (aN Dz) := ⟨rfl,rfl,rfl,by decide +kernel,rfl,by decide +kernel,by decide +kernel⟩
theorem aeT : bz ["_law_right","_law_wish"] ["_law_right","_law_wish"] (aN Ib) := ⟨rfl,rfl,rfl,by decide +kernel,rfl,by decide +kernel,by decide +kernel⟩
theorem DN : bz ["_law_town","_law_desk","_law_wish","_law_number"] ["_law_town","_law_desk","_law_wish"] (aN vN) := ⟨rfl,rfl,rfl,by decide +kernel,rfl,by decide +kernel,by decide +kernel⟩
theorem gF : bz ["_law_town","_law_desk","_law_letter","_law_page","_law_held","_law_wish","_law_number"] ["_law_town","_law_desk"] (aN vO) := ⟨rfl,rfl,rfl,by decide +kernel,rfl,by decide +kernel,by decide +kernel⟩
theorem Ae : bz ["_law_town","_law_deed","_law_desk"] ["_law_town","_law_deed"] (aN sG) := ⟨rfl,rfl,rfl,by decide +kernel,rfl,by decide +kernel,by decide +kernel⟩
theorem jh : bz ["_law_town","_law_deed","_law_word","_law_desk","_law_right","_law_wish","_law_number"] ["_law_town","_law_deed"] (aN yK) := ⟨rfl,rfl,rfl,by decide +kernel,rfl,by decide +kernel,by decide +kernel⟩
theorem qj : bz ["_law_cell","_law_pages","_law_far","_law_some"] ["_law_cell","_law_pages"] (aN sH) := ⟨rfl,rfl,rfl,by decide +kernel,rfl,by decide +kernel,by decide +kernel⟩
theorem cQ : bz ["_law_count","_law_cell","_law_last","_law_flush","_law_desk","_law_deeds"] ["_law_count","_law_cell"] (aN qi) := ⟨rfl,rfl,rfl,by decide +kernel,rfl,by decide +kernel,by decide +kernel⟩
theorem cj : bz ["_law_cells","_law_count","_law_pages","_law_words","_law_asked","_law_k","_law_rest","_law_salt","_law_far","_law_word","_law_desk","_law_page","_law_odd","_law_number","_law_much"] ["_law_cells","_law_count","_law_pages"] (aN yL) := ⟨rfl,rfl,rfl,by decide +kernel,rfl,by decide +kernel,by decide +kernel⟩
theorem qm : bz ["_law_script","_law_head","_law_count","_law_pages","_law_numbers","_law_asked","_law_ones","_law_handed","_law_found","_law_town","_law_due"] ["_law_script"] (aN ak6) := ⟨rfl,rfl,rfl,by decide +kernel,rfl,by decide +kernel,by decide +kernel⟩
set_option genInjectivity false in
set_option genSizeOf false in
structure JV where
 bc : Addr
 aZ : Addr
 aW : Addr
 aK : Addr
 aV : Addr
 aH : Addr
 bI : Addr
 aD : Addr
 gM : Addr
 bh : Addr
 yQ : Addr
 aeU : FuncData
 gU : Addr
 vQ : FuncData
 eY : Addr
 oJ : FuncData
 gh : Addr
 sJ : FuncData
 gj : Addr
 sO : FuncData
 gk : Addr
 sS : FuncData
 iT : Addr
 yR : FuncData
 fL : Addr
 qp : FuncData
 gW : Addr
 yS : FuncData
 dU : Addr
 oK : FuncData
 gb : Addr
 vR : FuncData
 gY : Addr
 yU : FuncData
 gZ : Addr
 yV : FuncData
 g8 : Addr
 yW : FuncData
 fC : Addr
 sU : FuncData
 eF : Addr
 qt : FuncData
 dB : Addr
 mD : FuncData
 eG : Addr
 qu : FuncData
 cH : Addr
 iZ : FuncData
 ie : Addr
 yX : FuncData
 dC : Addr
 mF : FuncData
 cM : Addr
 jn : FuncData
 cB : Addr
 iB : FuncData
 cI : Addr
 jb : FuncData
 dh : Addr
 lq : FuncData
 bQ : Addr
 gf : FuncData
 dD : Addr
 mG : FuncData
 cJ : Addr
 jc : FuncData
 cN : Addr
 jo : FuncData
 ig : Addr
 yZ : FuncData
 ik : Addr
 za : FuncData
 il : Addr
 zb : FuncData
 eN : Addr
 qw : FuncData
 di : Addr
 lr : FuncData
 dj : Addr
 lu : FuncData
 eO : Addr
 qx : FuncData
 fD : Addr
 sV : FuncData
 eQ : Addr
 qy : FuncData
 dW : Addr
 oM : FuncData
 dm : Addr
 lz : FuncData
 cP : Addr
 jM : FuncData
 dF : Addr
 mH : FuncData
 dI : Addr
 sW : FuncData
 dY : Addr
 uJ : FuncData
 cT : Addr
 nD : FuncData
 iU : Addr
 zc : FuncData
 lK : Addr
 Ih : FuncData
 lL : Addr
 Ii : FuncData
 DP : Addr
 abF : FuncData
 pJ : Addr
 O1 : FuncData
 iV : Addr
 zf : FuncData
 uK : Addr
 V3 : FuncData
 ir : Addr
 vU : FuncData
 lM : Addr
 Ij : FuncData
 iW : Addr
 zg : FuncData
 jN : Addr
 DQ : FuncData
 gn : Addr
 sX : FuncData
 gq : Addr
 sY : FuncData
 fM : Addr
 qz : FuncData
 iu : Addr
 vV : FuncData
 fO : Addr
 qC : FuncData
 eZ : Addr
 oN : FuncData
 iw : Addr
 vW : FuncData
 V4 : Addr
 ag9 : FuncData
 qU : Addr
structure Txt (K : PySem.W.Frag) (w : World) (mg : Str→Option Value) (t : JV) : Prop where
 apz : Exc K t.bc [.type "ValueError",.type "Exception",.type "BaseException",.type "object"]
 apA : mg "CopyError" = some (.ref t.bc)
 V5 : Exc K t.aZ [.ref t.bc,.type "ValueError",.type "Exception",.type "BaseException",.type "object"]
 aeV : mg "NoDesk" = some (.ref t.aZ)
 Kq : Exc K t.aW [.ref t.bc,.type "ValueError",.type "Exception",.type "BaseException",.type "object"]
 aeW : mg "NoPage" = some (.ref t.aW)
 wX : Exc K t.aK [.ref t.bc,.type "ValueError",.type "Exception",.type "BaseException",.type "object"]
 aaM : mg "Waiting" = some (.ref t.aK)
 wY : Exc K t.aV [.ref t.bc,.type "ValueError",.type "Exception",.type "BaseException",.type "object"]
 aeX : mg "NoCopy" = some (.ref t.aV)
 lA : Exc K t.aH [.ref t.bc,.type "ValueError",.type "Exception",.type "BaseException",.type "object"]
 V6 : mg "NoLetter" = some (.ref t.aH)
 asY : Ke K t.aZ
 qH : PySem.W.kitOne K (.ref t.aZ) (.ref t.bc) = some true
 eU : t.aZ≠t.bc
 wZ : PySem.W.kitOne K (.ref t.aZ) (.ref t.aZ) = some true
 w6 : PySem.W.kitOne K (.ref t.aZ) (.ref t.aW) = some false
 oO : t.aZ≠t.aW
 uL : PySem.W.kitOne K (.ref t.aZ) (.ref t.aK) = some false
 mJ : t.aZ≠t.aK
 xf : PySem.W.kitOne K (.ref t.aZ) (.ref t.aV) = some false
 oR : t.aZ≠t.aV
 sZ : PySem.W.kitOne K (.ref t.aZ) (.ref t.aH) = some false
 lB : t.aZ≠t.aH
 pK : PySem.W.kitOne K (.ref t.aZ) (.type "ValueError") = some true
 asZ : Ke K t.aW
 qI : PySem.W.kitOne K (.ref t.aW) (.ref t.bc) = some true
 fX : t.aW≠t.bc
 xg : PySem.W.kitOne K (.ref t.aW) (.ref t.aZ) = some false
 xj : t.aW≠t.aZ
 xm : PySem.W.kitOne K (.ref t.aW) (.ref t.aW) = some true
 uM : PySem.W.kitOne K (.ref t.aW) (.ref t.aK) = some false
 mK : t.aW≠t.aK
 xn : PySem.W.kitOne K (.ref t.aW) (.ref t.aV) = some false
 oU : t.aW≠t.aV
 tu : PySem.W.kitOne K (.ref t.aW) (.ref t.aH) = some false
 lC : t.aW≠t.aH
 pL : PySem.W.kitOne K (.ref t.aW) (.type "ValueError") = some true
 arc : Ke K t.aK
 pM : PySem.W.kitOne K (.ref t.aK) (.ref t.bc) = some true
 iy : t.aK≠t.bc
 uN : PySem.W.kitOne K (.ref t.aK) (.ref t.aZ) = some false
 uO : t.aK≠t.aZ
 uP : PySem.W.kitOne K (.ref t.aK) (.ref t.aW) = some false
 uQ : t.aK≠t.aW
 tD : PySem.W.kitOne K (.ref t.aK) (.ref t.aK) = some true
 uR : PySem.W.kitOne K (.ref t.aK) (.ref t.aV) = some false
 mL : t.aK≠t.aV
 qJ : PySem.W.kitOne K (.ref t.aK) (.ref t.aH) = some false
 jY : t.aK≠t.aH
 nF : PySem.W.kitOne K (.ref t.aK) (.type "ValueError") = some true
 as3 : Ke K t.aV
 qK : PySem.W.kitOne K (.ref t.aV) (.ref t.bc) = some true
 jZ : t.aV≠t.bc
 xq : PySem.W.kitOne K (.ref t.aV) (.ref t.aZ) = some false
 xr : t.aV≠t.aZ
 xu : PySem.W.kitOne K (.ref t.aV) (.ref t.aW) = some false
 xx : t.aV≠t.aW
 uT : PySem.W.kitOne K (.ref t.aV) (.ref t.aK) = some false
 uU : t.aV≠t.aK
 xF : PySem.W.kitOne K (.ref t.aV) (.ref t.aV) = some true
 tE : PySem.W.kitOne K (.ref t.aV) (.ref t.aH) = some false
 lD : t.aV≠t.aH
 pN : PySem.W.kitOne K (.ref t.aV) (.type "ValueError") = some true
 apB : Ke K t.aH
 nG : PySem.W.kitOne K (.ref t.aH) (.ref t.bc) = some true
 nJ : t.aH≠t.bc
 tG : PySem.W.kitOne K (.ref t.aH) (.ref t.aZ) = some false
 tH : t.aH≠t.aZ
 tK : PySem.W.kitOne K (.ref t.aH) (.ref t.aW) = some false
 tL : t.aH≠t.aW
 qL : PySem.W.kitOne K (.ref t.aH) (.ref t.aK) = some false
 qM : t.aH≠t.aK
 tM : PySem.W.kitOne K (.ref t.aH) (.ref t.aV) = some false
 tO : t.aH≠t.aV
 pO : PySem.W.kitOne K (.ref t.aH) (.ref t.aH) = some true
 mO : PySem.W.kitOne K (.ref t.aH) (.type "ValueError") = some true
 dw : Cls K t.bI
 abG : Mk K t.bI t.gW
 ard : mg "Desk" = some (.ref t.bI)
 dM : gK K t.bI "copies"
 jd : gK K t.bI "wish"
 aP : Cls K t.aD
 zj : Mk K t.aD t.dC
 aeY : mg "PageLoans" = some (.ref t.aD)
 fQ : gK K t.aD "page"
 eV : gK K t.aD "number"
 b7 : gK K t.aD "writer"
 cU : gK K t.aD "readers"
 cX : gK K t.aD "asked"
 dZ : gK K t.aD "awaited"
 aha : Cls K t.gM
 abH : Mk K t.gM t.ig
 arf : mg "Hall" = some (.ref t.gM)
 pA : gK K t.gM "pages"
 dN : Cls K t.bh
 abI : Mk K t.bh t.il
 arh : mg "Town" = some (.ref t.bh)
 je : gK K t.bh "page_count"
 qW : gK K t.bh "hall"
 gA : gK K t.bh "desks"
 gC : gK K t.bh "roads_up"
 gG : gK K t.bh "roads_down"
 uV : gK K t.bh "row"
 awf : jF K "_wall" "_wall" ait t.yQ t.aeU
 awg : Binds K t.aeU ["k"] []
 awh : mg "_wall" = some (.ref t.yQ)
 Kr : jF K "ask_letter" "ask_letter" yH t.gU t.vQ
 abJ : Binds K t.vQ ["page","right"] []
 abK : mg "ask_letter" = some (.ref t.gU)
 Af : jF K "answer_letter" "answer_letter" qb t.eY t.oJ
 R3 : Binds K t.oJ ["page","number"] []
 R4 : mg "answer_letter" = some (.ref t.eY)
 GK : jF K "gave_letter" "gave_letter" vI t.gh t.sJ
 YT : Binds K t.sJ ["page","number"] []
 YW : mg "gave_letter" = some (.ref t.gh)
 GP : jF K "lend_letter" "lend_letter" vJ t.gj t.sO
 YX : Binds K t.sO ["page","right","number"] []
 YZ : mg "lend_letter" = some (.ref t.gj)
 vX : jF K "back_letter" "back_letter" vK t.gk t.sS
 GQ : Binds K t.sS ["page","right"] []
 GR : mg "back_letter" = some (.ref t.gk)
 DR : jF K "is_enough" "is_enough" Dm t.iT t.yR
 QR : Binds K t.yR ["right","needed"] []
 QS : mg "is_enough" = some (.ref t.iT)
 tQ : jF K "right_needed" "right_needed" rT t.fL t.qp
 DW : Binds K t.qp ["wish"] []
 DX : mg "right_needed" = some (.ref t.fL)
 aeZ : jF K "__init__" "Desk.__init__" Dn t.gW t.yS
 ae0 : Binds K t.yS ["self"] []
 R5 : jF K "right_of" "Desk.right_of" qe t.dU t.oK
 jg : Binds K t.oK ["self","page"] []
 iM : Meth K t.bI "right_of" t.dU
 abL : jF K "waits" "Desk.waits" yI t.gb t.vR
 abM : Binds K t.vR ["self"] []
 Y0 : Meth K t.bI "waits" t.gb
 ae1 : jF K "want" "Desk.want" Dp t.gY t.yU
 QT : Binds K t.yU ["self","wish"] []
 Ks : Meth K t.bI "want" t.gY
 ae2 : jF K "take" "Desk.take" Dq t.gZ t.yV
 ae3 : Binds K t.yV ["self","letter"] []
 abN : Meth K t.bI "take" t.gZ
 ae4 : jF K "rest" "Desk.rest" Dr t.g8 t.yW
 ae5 : Binds K t.yW ["self","page"] []
 abO : Meth K t.bI "rest" t.g8
 Y4 : jF K "may_do" "Desk.may_do" vL t.fC t.sU
 GX : Binds K t.sU ["self","wish"] []
 DY : Meth K t.bI "may_do" t.fC
 V7 : jF K "do_wish" "Desk.do_wish" rW t.eF t.qt
 Ea : Binds K t.qt ["self","wish"] []
 Ag : Meth K t.bI "do_wish" t.eF
 O2 : jF K "take_loan" "Desk.take_loan" oE t.dB t.mD
 O3 : Binds K t.mD ["self","page","right","number"] []
 Ku : Meth K t.bI "take_loan" t.dB
 V8 : jF K "go_down" "Desk.go_down" rY t.eG t.qu
 V9 : Binds K t.qu ["self","page","right"] []
 R6 : Meth K t.bI "go_down" t.eG
 Bs : jF K "number_to_tell" "Desk.number_to_tell" jj t.cH t.iZ
 nO : Binds K t.iZ ["self","page"] []
 mQ : Meth K t.bI "number_to_tell" t.cH
 ae6 : jF K "hold" "Desk.hold" Ds t.ie t.yX
 uW : Binds K t.yX ["self","page","right","number"] []
 qX : Meth K t.bI "hold" t.ie
 O4 : jF K "__init__" "PageLoans.__init__" oF t.dC t.mF
 O5 : Binds K t.mF ["self","page","number"] []
 Eb : jF K "take_ask" "PageLoans.take_ask" jK t.cM t.jn
 Ec : Binds K t.jn ["self","desk","right"] []
 Bu : Meth K t.aD "take_ask" t.cM
 xG : jF K "take_answer" "PageLoans.take_answer" iJ t.cB t.iB
 xH : Binds K t.iB ["self","number"] []
 vY : Meth K t.aD "take_answer" t.cB
 Bv : jF K "take_gave" "PageLoans.take_gave" jl t.cI t.jb
 Bw : Binds K t.jb ["self","desk","number"] []
 zm : Meth K t.aD "take_gave" t.cI
 Kv : jF K "serve" "PageLoans.serve" mq t.dh t.lq
 uX : Binds K t.lq ["self"] []
 tR : Meth K t.aD "serve" t.dh
 tU : jF K "bids_for_first" "PageLoans.bids_for_first" gD t.bQ t.gf
 tV : Binds K t.gf ["self"] []
 qY : Meth K t.aD "bids_for_first" t.bQ
 O6 : jF K "lend" "PageLoans.lend" oG t.dD t.mG
 xJ : Binds K t.mG ["self"] []
 uY : Meth K t.aD "lend" t.dD
 Bx : jF K "let_write" "PageLoans.let_write" jm t.cJ t.jc
 By : Binds K t.jc ["self","desk"] []
 zp : Meth K t.aD "let_write" t.cJ
 Ed : jF K "let_read" "PageLoans.let_read" jL t.cN t.jo
 Ef : Binds K t.jo ["self","desk"] []
 BJ : Meth K t.aD "let_read" t.cN
 ae7 : jF K "__init__" "Hall.__init__" Dt t.ig t.yZ
 ae8 : Binds K t.yZ ["self","numbers"] []
 ae9 : jF K "take" "Hall.take" Du t.ik t.za
 afa : Binds K t.za ["self","desk","letter"] []
 abP : Meth K t.gM "take" t.ik
 afb : jF K "__init__" "Town.__init__" Dv t.il t.zb
 afc : Binds K t.zb ["self","count","numbers"] []
 Wa : jF K "do_deed" "Town.do_deed" rZ t.eN t.qw
 Wb : Binds K t.qw ["self","deed"] []
 R7 : Meth K t.bh "do_deed" t.eN
 Kw : jF K "check_desk" "Town.check_desk" my t.di t.lr
 Ky : Binds K t.lr ["self","desk"] []
 Ik : Meth K t.bh "check_desk" t.di
 Kz : jF K "check_page" "Town.check_page" mz t.dj t.lu
 KC : Binds K t.lu ["self","page"] []
 Il : Meth K t.bh "check_page" t.dj
 Wc : jF K "look_at" "Town.look_at" su t.eO t.qx
 Wd : Binds K t.qx ["self","desk","page"] []
 R8 : Meth K t.bh "look_at" t.eO
 Y5 : jF K "put_on" "Town.put_on" vM t.fD t.sV
 Y6 : Binds K t.sV ["self","desk","page","number"] []
 We : Meth K t.bh "put_on" t.fD
 Wf : jF K "give_up" "Town.give_up" sE t.eQ t.qy
 Wg : Binds K t.qy ["self","desk","page"] []
 R9 : Meth K t.bh "give_up" t.eQ
 Sd : jF K "bring_up" "Town.bring_up" qg t.dW t.oM
 Sg : Binds K t.oM ["self","desk"] []
 O7 : Meth K t.bh "bring_up" t.dW
 KD : jF K "bring_down" "Town.bring_down" mC t.dm t.lz
 KH : Binds K t.lz ["self","desk"] []
 Im : Meth K t.bh "bring_down" t.dm
 Gx : jF K "first_letter" "Town.first_letter" jX t.cP t.jM
 qN : Binds K t.jM ["self","road"] []
 pP : Meth K t.bh "first_letter" t.cP
 O8 : jF K "carry_out" "Town.carry_out" oH t.dF t.mH
 oW : Binds K t.mH ["self","desk","told"] []
 mR : Meth K t.bh "carry_out" t.dF
 aiu : jF K "all_rights" "Town.all_rights" uG t.dI t.sW
 aiv : Binds K t.sW ["self"] []
 ahb : Meth K t.bh "all_rights" t.dI
 ajt : jF K "rights_of" "Town.rights_of" wV t.dY t.uJ
 aju : Binds K t.uJ ["self","desk"] []
 aiw : Meth K t.bh "rights_of" t.dY
 afd : jF K "waiting_desks" "Town.waiting_desks" pH t.cT t.nD
 afe : Binds K t.nD ["self"] []
 aeb : Meth K t.bh "waiting_desks" t.cT
 QV : jF K "answer_of" "answer_of" Dw t.iU t.zc
 afg : Binds K t.zc ["town","deed"] []
 afh : mg "answer_of" = some (.ref t.iU)
 aaN : jF K "answers" "answers" Ow t.lK t.Ih
 ajv : Binds K t.Ih ["count","numbers","deeds"] []
 ajw : mg "answers" = some (.ref t.lK)
 aaO : jF K "_law_whole" "_law_whole" Ox t.lL t.Ii
 ajx : Binds K t.Ii ["_law_found"] []
 ajy : mg "_law_whole" = some (.ref t.lL)
 Wh : jF K "_law_at" "_law_at" ag7 t.DP t.abF
 abQ : Binds K t.abF ["_law_script","_law_k"] []
 abR : mg "_law_at" = some (.ref t.DP)
 KJ : jF K "_law_same" "_law_same" VM t.pJ t.O1
 Wi : Binds K t.O1 ["_law_found","_law_due"] []
 Wj : mg "_law_same" = some (.ref t.pJ)
 QW : jF K "_law_town_of" "_law_town_of" Dy t.iV t.zf
 afi : Binds K t.zf ["_law_count","_law_numbers"] []
 afj : mg "_law_town_of" = some (.ref t.iV)
 aix : jF K "_law_bid" "_law_bid" abw t.uK t.V3
 ank : Binds K t.V3 ["_law_town","_law_page"] []
 anl : mg "_law_bid" = some (.ref t.uK)
 zq : jF K "_law_lend_out" "_law_lend_out" yJ t.ir t.vU
 KN : Binds K t.vU ["_law_town","_law_page"] []
 KQ : mg "_law_lend_out" = some (.ref t.ir)
 O9 : jF K "_law_serve" "_law_serve" Oz t.lM t.Ij
 aaP : Binds K t.Ij ["_law_town","_law_page"] []
 aaQ : mg "_law_serve" = some (.ref t.lM)
 QX : jF K "_law_came_up" "_law_came_up" Dz t.iW t.zg
 afk : Binds K t.zg ["_law_town","_law_desk"] []
 afl : mg "_law_came_up" = some (.ref t.iW)
 Io : jF K "_law_enough" "_law_enough" Ib t.jN t.DQ
 Wk : Binds K t.DQ ["_law_right","_law_wish"] []
 Wl : mg "_law_enough" = some (.ref t.jN)
 vZ : jF K "_law_fulfilled" "_law_fulfilled" vN t.gn t.sX
 GZ : Binds K t.sX ["_law_town","_law_desk","_law_wish"] []
 G8 : mg "_law_fulfilled" = some (.ref t.gn)
 G9 : jF K "_law_came_down" "_law_came_down" vO t.gq t.sY
 Y7 : Binds K t.sY ["_law_town","_law_desk"] []
 Y8 : mg "_law_came_down" = some (.ref t.gq)
 Eg : jF K "_law_refusal_of" "_law_refusal_of" sG t.fM t.qz
 Wm : Binds K t.qz ["_law_town","_law_deed"] []
 Wn : mg "_law_refusal_of" = some (.ref t.fM)
 KR : jF K "_law_answered" "_law_answered" yK t.iu t.vV
 abS : Binds K t.vV ["_law_town","_law_deed"] []
 abT : mg "_law_answered" = some (.ref t.iu)
 Eh : jF K "_law_numbers_of" "_law_numbers_of" sH t.fO t.qC
 Wo : Binds K t.qC ["_law_cell","_law_pages"] []
 Wq : mg "_law_numbers_of" = some (.ref t.fO)
 Ai : jF K "_law_first_deeds" "_law_first_deeds" qi t.eZ t.oN
 Sh : Binds K t.oN ["_law_count","_law_cell"] []
 Sq : mg "_law_first_deeds" = some (.ref t.eZ)
 KY : jF K "_law_asked_of" "_law_asked_of" yL t.iw t.vW
 abU : Binds K t.vW ["_law_cells","_law_count","_law_pages"] []
 abV : mg "_law_asked_of" = some (.ref t.iw)
 aul : jF K "law" "law" ak6 t.V4 t.ag9
 ayW : Binds K t.ag9 ["_law_script"] []
 ayX : mg "law" = some (.ref t.V4)
 Pa : ∃ u,mg "NONE" = some (.str "none" u)
 ahc : ∃ u,mg "READ" = some (.str "read" u)
 Vd : ∃ u,mg "WRITE" = some (.str "write" u)
 aiy : mg "RANKS" = some (.ref t.qU)
 aiz : KDict K w t.qU [("none",V.int 0),("read",V.int 1),("write",V.int 2)]
 ak7 : ∃ u,mg "DONE" = some (.str "done" u)
 aiA : ∃ u,mg "WAITS" = some (.str "waits" u)
 Aj : mg "len" = none
 afm : mg "enumerate" = none
 mU : mg "range" = none
 fG : mg "isinstance" = none
 KZ : mg "int" = none
 ari : mg "bool" = none
 Ip : mg "list" = none
 abW : mg "tuple" = none
 apC : mg "str" = none
end iz
namespace iz
open PySem L2
theorem afn (r : Rt) : ([("none",V.int 0),("read",V.int 1),("write",V.int 2)] : List (Str×V)).lookup r.s = some (.int r.k) := by cases r <;> rfl
theorem ajz {kvs : List (Key×V)} {k j : Key} : fJ (wI kvs k) j = if j = k then none else fJ kvs j := by
 induction kvs with
 | nil => simp [wI,fJ]
 | cons p r ih =>
   by_cases e : p.1 = k
   ·rw [ajh e,ih]
    by_cases ej : j = k
    ·rw [if_pos ej,if_pos ej]
    ·rw [if_neg ej,if_neg ej]
     have : p.1≠j := fun z => ej (z.symm.trans e)
     simp [fJ,List.find?_cons,this]
   ·rw [aji e]
    by_cases ej : j = k
    ·rw [if_pos ej]
     subst ej
     rw [if_pos rfl] at ih
     simp only [fJ,List.find?_cons,e,decide_false] at ih ⊢
     exact ih
    ·rw [if_neg ej] at ih ⊢
     by_cases ep : p.1 = j
     ·simp [fJ,List.find?_cons,ep]
     ·simp only [fJ,List.find?_cons,ep,decide_false] at ih ⊢
      exact ih
section
variable {P : Program} {w : World} {K : PySem.W.Frag} {mg : Str→Option Value} {base : Heap} {t : JV}
theorem Y9 (T : Txt K w mg t) : cZ P w K mg base n8 1 t.gU t.vQ ["page","right"] (aeJ "ask") := by
 refine T.Kr.ok YQ (fun vs H Q E h => ?_) (fun cdv A outer s H vs Q E hr h => ?_)
 ·obtain ⟨x,y,rfl,_⟩ := h; rfl
 ·obtain ⟨x,y,rfl,k⟩ := h
  refine ⟨_,(aB (bj (b8 (aa aC (aa (pv 0) (aa (pv 1) ao)))))),?_⟩
  try dsimp only [du,Cx.j6]
  exact ⟨_,rfl,_,rfl,zz3,fun a ha => k a ha⟩
theorem Pb (T : Txt K w mg t) : cZ P w K mg base n8 1 t.eY t.oJ ["page","number"] (aeJ "answer") := by
 refine T.Af.ok OD (fun vs H Q E h => ?_) (fun cdv A outer s H vs Q E hr h => ?_)
 ·obtain ⟨x,y,rfl,_⟩ := h; rfl
 ·obtain ⟨x,y,rfl,k⟩ := h
  refine ⟨_,(aB (bj (b8 (aa aC (aa (pv 0) (aa (pv 1) ao)))))),?_⟩
  try dsimp only [du,Cx.j6]
  exact ⟨_,rfl,_,rfl,zz3,fun a ha => k a ha⟩
theorem Wr (T : Txt K w mg t) : cZ P w K mg base n8 1 t.gh t.sJ ["page","number"] (aeJ "gave") := by
 refine T.GK.ok VN (fun vs H Q E h => ?_) (fun cdv A outer s H vs Q E hr h => ?_)
 ·obtain ⟨x,y,rfl,_⟩ := h; rfl
 ·obtain ⟨x,y,rfl,k⟩ := h
  refine ⟨_,(aB (bj (b8 (aa aC (aa (pv 0) (aa (pv 1) ao)))))),?_⟩
  try dsimp only [du,Cx.j6]
  exact ⟨_,rfl,_,rfl,zz3,fun a ha => k a ha⟩
theorem K7 (T : Txt K w mg t) : cZ P w K mg base n8 1 t.iT t.yR ["right","needed"] akQ := by
 refine T.DR.ok abx (fun vs H Q E h => ?_) (fun cdv A outer s H vs Q E hr h => ?_)
 ·obtain ⟨x,y,rfl,_⟩ := h; rfl
 ·obtain ⟨r,n,rfl,k⟩ := h
  refine ⟨_,(aB (bj (lR Vl (aih (by rfl) T.aiy T.aiz (pv 0) (fun _ _ => rfl)) (aih (by rfl) T.aiy T.aiz (pv 1) (fun _ _ => rfl)) (bf _)))),?_⟩
  try dsimp only [du,Cx.j6]
  exact ⟨_,rfl,_,_,rfl,afn r,_,rfl,_,_,rfl,afn n,_,_,rfl,rfl,k⟩
theorem Ak (T : Txt K w mg t) : cZ P w K mg base n8 1 t.fL t.qp ["wish"] (aqI K) := by
 refine T.tQ.ok R0 (fun vs H Q E h => ?_) (fun cdv A outer s H vs Q E hr h => ?_)
 ·obtain ⟨x,y,rfl,_⟩ := h; rfl
 ·obtain ⟨a,w,rfl,ha,k⟩ := h
  refine ⟨_,(aB (bj (pB (aR cO (aL bw (pv 0) az (fun _ _ => rfl)) aC (bf _)) (gQ (by rfl) T.Vd) (gQ (by rfl) T.ahc)))),?_⟩
  try dsimp only [du,Cx.j6]
  cases w with
  | look p =>
    refine zt rfl (dq.of ha) rfl ⟨rfl,_,rfl,?_⟩
    rw [c7 (by decide +kernel)]
    exact wJ k
  | put p n =>
    refine zt rfl (dq.of ha) rfl ⟨rfl,_,rfl,?_⟩
    rw [fu]
    exact oh k
theorem abX (T : Txt K w mg t) : cZ P w K mg base n8 1 t.gW t.yS ["self"] (aqJ t.bI) := by
 refine T.aeZ.ok aby (fun vs H Q E h => ?_) (fun cdv A outer s H vs Q E hr h => ?_)
 ·obtain ⟨x,y,rfl,_⟩ := h; rfl
 ·obtain ⟨p,dx,rfl,hp,k⟩ := h
  refine ⟨_,(ak (fZ (pv 0) akA (by rfl))
   (aB (fZ (pv 0) rK (by rfl)))),?_⟩
  try dsimp only [du,Cx.j6]
  show let Z1 : L2.TS := _; let Z2 : L2.TS := _; let D0 : Ends := _; (aQ Z1 (Z2)) D0 _ _
  intro Z1 Z2 D0
  intro d hd
  have npd : p≠d := aF hp hd
  refine ⟨_,rfl,p,t.bI,dx,[],rfl,(by rw [aq npd]; exact hp),T.dw,T.dM,(by show 0 < 1000; decide),_,rfl,p,t.bI,dx,_,rfl,aj,T.dw,T.jd,(by show 1 < 1000; decide),?_⟩
  refine k d _ hd ⟨⟨dx,.non,aj,rfl⟩,⟨[],by rw [aq npd.symm,aq npd.symm,aj],Nat.le_refl _,fun n => rfl⟩⟩ fun b o e hb => ?_
  rw [aq hb,aq hb,aq (aF e hd)]
  exact e
theorem iQ (T : Txt K w mg t) : cZ P w K mg base n8 1 t.dU t.oK ["self","page"] (am3 t.bI) := by
 refine T.R5.ok OJ (fun vs H Q E h => ?_) (fun cdv A outer s H vs Q E hr h => ?_)
 ·obtain ⟨p,d,S,c,n,rfl,_⟩ := h; rfl
 ·obtain ⟨p,d,S,c,n,rfl,DA,k⟩ := h
  have hu := j7 hr
  obtain ⟨⟨dx,v,h1,_⟩,⟨kvs,h2,h3,h4⟩⟩ := id DA
  refine ⟨_,(aB (bj (pB (vD (aqp hu (pv 1) (cL (pv 0) (by rfl)))) (aL bw (bG hu (cL (pv 0) (by rfl)) (pv 1) (fun _ _ => rfl)) az (fun _ _ => rfl)) (gQ (by rfl) T.Pa)))),?_⟩
  try dsimp only [du,Cx.j6]
  refine ⟨_,rfl,_,rfl,p,_,dx,_,_,rfl,h1,T.dw,T.dM,jG _ _,d,_,rfl,Gw.k (k := Sum.inl n) h2,_,rfl,?_⟩
  have h5 := h4 n
  unfold rO at h5
  split at h5
  ·rename_i e
   rw [h5]
   refine wJ ?_
   rw [e] at k
   exact k
  ·rename_i e
   obtain ⟨tt,e1,e2⟩ := h5
   rw [e1]
   refine oh ?_
   exact ⟨_,rfl,p,_,dx,_,_,rfl,h1,T.dw,T.dM,jG _ _,_,rfl,d,.ref tt,rfl,(by rw [← e1]; exact Gw.k (k := Sum.inl n) h2),tt,_,0,_,rfl,rfl,dq.of e2,rfl,k⟩
theorem W.at1 (w : W) : Ol w.vs 1 = some (.int w.pg) := by cases w <;> rfl
theorem W.at0 (w : W) : Ol w.vs 0 = some (.str w.tag) := by cases w <;> rfl
theorem Ei (T : Txt K w mg t) : cZ P w K mg base n8 2 t.fC t.sU ["self","wish"] (auc t.bI) := by
 refine T.Y4.ok V0 (fun vs H Q E h => ?_) (fun cdv A outer s H vs Q E hr h => ?_)
 ·obtain ⟨p,d,S,c,a,w,rfl,_⟩ := h; rfl
 ·obtain ⟨p,d,S,c,a,w,rfl,DA,ha,k⟩ := h
  have hu := j7 hr
  obtain ⟨⟨dx,v,h1,_⟩,_⟩ := id DA
  refine ⟨_,(aB (bj (cG (K7 T) (hr.mono (by decide) : bR 1 _) (by rfl) T.QS T.DR.kp T.QR .nil bW (aa (cC (pv 0) T.dw T.iM (iQ T) (hr.mono (by decide) : bR 1 _) T.jg .nil bW (aa (aL bw (pv 1) az (fun _ _ => rfl)) ao)) (aa (cG (Ak T) (hr.mono (by decide) : bR 1 _) (by rfl) T.DX T.tQ.kp T.DW .nil bW (aa (pv 1) ao)) ao))))),?_⟩
  try dsimp only [du,Cx.j6]
  exact ⟨_,rfl,p,dx,_,rfl,h1,fj _ _ (by decide +kernel) (by decide +kernel),zt rfl (dq.of ha) (W.at1 w) ⟨p,d,S,c,w.pg,rfl,DA,_,rfl,a,w,rfl,ha,S.rt w.pg,w.need,rfl,k⟩⟩
theorem mV (T : Txt K w mg t) : cZ P w K mg base n8 2 t.cH t.iZ ["self","page"] (aqK t.bI) := by
 refine T.Bs.ok yM (fun vs H Q E h => ?_) (fun cdv A outer s H vs Q E hr h => ?_)
 ·obtain ⟨p,d,S,c,n,rfl,_⟩ := h; rfl
 ·obtain ⟨p,d,S,c,n,rfl,DA,k⟩ := h
  have hu := j7 hr
  obtain ⟨⟨dx,v,h1,_⟩,⟨kvs,h2,h3,h4⟩⟩ := id DA
  refine ⟨_,(aB (bj (pB (aR cO (cC (pv 0) T.dw T.iM (iQ T) (hr.mono (by decide) : bR 1 _) T.jg .nil bW (aa (pv 1) ao)) (gQ (by rfl) T.Vd) (bf _)) (aL bw (bG hu (cL (pv 0) (by rfl)) (pv 1) (fun _ _ => rfl)) az (fun _ _ => rfl)) rK))),?_⟩
  try dsimp only [du,Cx.j6]
  refine ⟨_,rfl,p,dx,_,rfl,h1,fj _ _ (by decide +kernel) (by decide +kernel),_,rfl,p,d,S,c,n,rfl,DA,rfl,_,rfl,?_⟩
  unfold DS.tell at k
  by_cases e : S.rt n = .wr
  ·have h5 := h4 n
   unfold rO at h5
   rw [e,if_neg (by intro z; cases z)] at h5
   rw [if_pos e] at k
   rw [e]
   obtain ⟨tt,e1,e2⟩ := h5
   refine oh ?_
   exact ⟨_,rfl,p,_,dx,_,_,rfl,h1,T.dw,T.dM,jG _ _,_,rfl,d,.ref tt,rfl,(by rw [← e1]; exact Gw.k (k := Sum.inl n) h2),tt,_,1,_,rfl,rfl,dq.of e2,rfl,k⟩
  ·rw [if_neg e] at k
   exact aO (nC (x := "write") (q := .wr) rfl e) k
theorem qZ (T : Txt K w mg t) : cZ P w K mg base n8 1 t.ie t.yX ["self","page","right","number"] (aqL t.bI) := by
 refine T.ae6.ok abB (fun vs H Q E h => ?_) (fun cdv A outer s H vs Q E hr h => ?_)
 ·obtain ⟨p,d,S,c,n,r,k,v,rfl,_⟩ := h; rfl
 ·obtain ⟨p,d,S,c,n,r,z,v,rfl,DA,hc,hv,k⟩ := h
  have hu := j7 hr
  have npd := DA.npd
  obtain ⟨⟨dx,u,h1,hw⟩,⟨kvs,h2,h3,h4⟩⟩ := id DA
  refine ⟨_,(aB (cu (aR cO (pv 2) (gQ (by rfl) T.Pa) (bf _)) (aB (bM (akB (cL (pv 0) (by rfl)) (pv 1) rK ⟨rfl,rfl,rfl,rfl⟩))) (aB (km hu (cL (pv 0) (by rfl)) (pv 1) (b8 (aa (pv 2) (aa (pv 3) ao))) (by rfl))))),?_⟩
  try dsimp only [du,Cx.j6]
  show let Z1 : L2.TS := _; let Z2 : L2.TS := _; let Z3 : L2.TS := cY _ Z1 Z2; let D0 : Ends := _; (Z3) D0 _ _
  intro Z1 Z2 Z3 D0
  refine ⟨_,rfl,rfl,_,rfl,?_⟩
  by_cases e : r = .no
  ·subst e
   refine oh ?_
   have fin : ∀ kvs',kvs'.length≤c→(∀ j : Int,fJ kvs' (Sum.inl j : Key) = if (Sum.inl j : Key) = Sum.inl n then none else fJ kvs (Sum.inl j : Key))→Q V.non (upd H d (.dK kvs')) := fun kvs' hl hval => by
    have ts : bY H (upd H d (.dK kvs')) := fun b xs e => by rw [aq (jf e h2 (by intro z; cases z))]; exact e
    refine k _ ⟨⟨dx,u,by rw [aq npd]; exact h1,hw.aU ts⟩,⟨kvs',aj,Nat.le_succ_of_le hl,fun j => ?_⟩⟩ fun b o e hp hd => by rw [aq hd]; exact e
    rw [hval j]
    by_cases ej : j = n
    ·subst ej
     rw [DS.abp,DS.aii,if_pos rfl]
     unfold rO
     rw [if_pos rfl]
    ·have := (h4 j).aU ts
     rw [if_neg (fun z => ej (Sum.inl.inj z)),DS.aeF _ _ _ ej,DS.aeG _ _ _ ej]
     exact this
   refine ⟨_,rfl,p,_,dx,_,_,rfl,h1,T.dw,T.dM,jG _ _,d,rfl,.inl ⟨kvs,.inl h2⟩,_,rfl,kvs,Sum.inl n,h2,rfl,fun v' hv' => ?_,fun hn => ?_⟩
   ·exact fin _ (Nat.le_trans (aet _ _) h3) fun j => ajz
   ·have q := fin kvs h3 fun j => by
     by_cases ej : (Sum.inl j : Key) = Sum.inl n
     ·rw [if_pos ej,ej]; exact hn
     ·rw [if_neg ej]
    have eq : upd H d (.dK kvs) = H := by
     funext b
     by_cases hb : b = d
     ·rw [hb,aj,h2]
     ·rw [aq hb]
    rw [eq] at q
    exact q
  ·refine aO (nC (x := "none") (q := .no) rfl e) ?_
   have hv' : v = .int z := hv.resolve_left e
   subst hv'
   refine ⟨_,rfl,_,rfl,uo,fun tt htt => ?_⟩
   have ntd : d≠tt := aF h2 htt
   have ntp : p≠tt := aF h1 htt
   refine ⟨_,rfl,p,_,dx,_,_,rfl,(by rw [aq ntp]; exact h1),T.dw,T.dM,jG _ _,_,rfl,d,_,rfl,agN.k (k := Sum.inl n) (by rw [aq ntd]; exact h2) (Nat.lt_of_le_of_lt (Nat.le_trans h3 hc) (by decide)),?_⟩
   have ts : bY H (upd (upd H tt (.tup [.str r.s,.int z])) d (.dK (putK kvs (Sum.inl n) (.ref tt)))) := fun b xs e => by
    rw [aq (jf e h2 (by intro z; cases z)),aq (aF e htt)]
    exact e
   refine k _ ⟨⟨dx,u,by rw [aq npd,aq ntp]; exact h1,hw.aU ts⟩,⟨_,aj,Nat.le_trans (uy _ _ _) (Nat.succ_le_succ h3),fun j => ?_⟩⟩ fun b o e hp hd => by rw [aq hd,aq (aF e htt)]; exact e
   rw [aky]
   by_cases ej : j = n
   ·subst ej
    rw [DS.abp,DS.aii,if_pos rfl]
    unfold rO
    rw [if_neg e]
    exact ⟨tt,rfl,by rw [aq ntd.symm,aj]⟩
   ·have := (h4 j).aU ts
    rw [if_neg (fun z => ej (Sum.inl.inj z)),DS.aeF _ _ _ ej,DS.aeG _ _ _ ej]
    exact this
end
end iz
namespace iz
open PySem L2
section
variable {P : Program} {w : World} {K : PySem.W.Frag} {mg : Str→Option Value} {base : Heap} {t : JV}
theorem cg.new {C : Addr} {H : Hp} {p d a : Addr} {o : HO} {S : DS} {c : Nat} (D : cg C H p d S c) (h : H a = none) : cg C (upd H a o) p d S c := D.same (aA h)
theorem cg.copy {C : Addr} {H : Hp} {p d : Addr} {S : DS} {c : Nat} (D : cg C H p d S c) {n : Int} (h : S.rt n≠.no) : ∃ kvs tt,H d = some (.dK kvs)∧fJ kvs (Sum.inl n : Key) = some (.ref tt)∧H tt = some (.tup [.str (S.rt n).s,.int (S.nm n)]) := by
 obtain ⟨_,⟨kvs,h2,_,h4⟩⟩ := D
 have h5 := h4 n
 unfold rO at h5
 rw [if_neg h] at h5
 obtain ⟨tt,e1,e2⟩ := h5
 exact ⟨kvs,tt,h2,e1,e2⟩
theorem DS.aum {S : DS} {w : W} (h : S.ok w) : S.rt w.pg≠.no := fun e => by
 unfold DS.ok at h
 rw [e] at h
 cases w <;> simp [W.need,Rt.k] at h
theorem DS.anm (S : DS) (w : W) (q : Int) : (S.done w).rt q = S.rt q := by
 cases w with
 | look p => rfl
 | put p n => show (if q = p then S.rt p else S.rt q) = S.rt q; split <;> simp_all
theorem DS.ano (S : DS) (w : W) : (S.done w).nm w.pg = S.num w := by
 cases w with
 | look p => rfl
 | put p n => show (if p = p then n else S.nm p) = n; rw [if_pos rfl]
theorem Al (T : Txt K w mg t) : cZ P w K mg base n8 2 t.eF t.qt ["self","wish"] (axo t.bI) := by
 refine T.V7.ok Ab (fun vs H Q E h => ?_) (fun cdv A outer s H vs Q E hr h => ?_)
 ·obtain ⟨p,d,S,c,a,w,rfl,_⟩ := h; rfl
 ·obtain ⟨p,d,S,c,a,w,rfl,DA,hc,ha,hok,k⟩ := h
  have hu := j7 hr
  obtain ⟨⟨dx,v,h1,_⟩,_⟩ := id DA
  refine ⟨_,(ak (bu (i := 2) Ab.nd rfl (Or.inl rfl) (aL bw (pv 1) az (fun _ _ => rfl)))
   (ak (cu (aR cO (aL bw (pv 1) az (fun _ _ => rfl)) aC (bf _)) (aB (bM (cC (pv 0) T.dw T.qX (qZ T) (hr.mono (by decide) : bR 1 _) T.uW .nil bW (aa (pv 2) (aa (cC (pv 0) T.dw T.iM (iQ T) (hr.mono (by decide) : bR 1 _) T.jg .nil bW (aa (pv 2) ao)) (aa (aL bw (pv 1) az (fun _ _ => rfl)) ao)))))) bB)
   (aB (bj (b8 (aa (aL bw (pv 1) az (fun _ _ => rfl)) (aa (pv 2) (aa (aL bw (bG hu (cL (pv 0) (by rfl)) (pv 2) (fun _ _ => rfl)) az (fun _ _ => rfl)) ao)))))))),?_⟩
  try dsimp only [du,Cx.j6]
  show let Z1 : L2.TS := _; let Z2 : L2.TS := _; let Z3 : L2.TS := cY _ Z2 bJ; let Z4 : L2.TS := _; let D0 : Ends := _; (aQ Z1 (aQ Z3 (Z4))) D0 _ _
  intro Z1 Z2 Z3 Z4 D0
  refine zt rfl (dq.of ha) (W.at1 w) (zt rfl (dq.of ha) (W.at0 w) ⟨rfl,_,rfl,?_⟩)
  have fin : ∀ H1 : Hp,cg t.bI H1 p d (S.done w) (c + 1)→DF H H1 p d→
   (ap6 (akn (lF (Vk (agJ K) (iY 1) (tC (.int 0))) (lF (iY 2) (lF (Vk (agJ K) (Vu (abj K (iY 0) "copies") (iY 2)) (tC (.int 1))) Gv)))))
     { nx := fun _ H' => Q .non H',rt := Q } [some (.ref p),some (.ref a),some (.int w.pg)] H1 := fun H1 D1 f1 => by
   have ha1 := (f1.tups DA) a _ ha
   obtain ⟨⟨yo,v1,g1,_⟩,_⟩ := id D1
   have hno : (S.done w).rt w.pg≠.no := by rw [DS.anm]; exact DS.aum hok
   obtain ⟨kvs,tt,h2,e1,e2⟩ := D1.copy hno
   refine zt rfl (dq.of ha1) (W.at0 w) ⟨_,rfl,_,rfl,p,_,yo,_,_,rfl,g1,T.dw,T.dM,jG _ _,_,rfl,d,.ref tt,rfl,(by rw [← e1]; exact Gw.k (k := Sum.inl w.pg) h2),tt,_,1,.int (S.num w),rfl,rfl,dq.of e2,(by rw [DS.ano]; rfl),zz3,fun u hu => ?_⟩
   exact k u _ (D1.new hu) (f1.trans (DF.new hu)) aj
  cases w with
  | look q =>
    refine aO (c7 (show ("look" : Str)≠"put" by decide +kernel)) ?_
    exact fin H (DA.mono (Nat.le_succ _)) (DF.refl _ _ _)
  | put q n =>
    refine bF fu ?_
    refine ⟨_,rfl,p,dx,_,rfl,h1,fj _ _ (by decide +kernel) (by decide +kernel),_,rfl,_,rfl,p,dx,_,rfl,h1,fj _ _ (by decide +kernel) (by decide +kernel),_,rfl,p,d,S,c,q,rfl,DA,zt rfl (dq.of ha) rfl ⟨p,d,S,c,q,S.rt q,n,.int n,rfl,DA,hc,.inr rfl,fun H1 D1 f1 => ?_⟩⟩
    exact fin H1 D1 f1
theorem K8 (T : Txt K w mg t) : cZ P w K mg base n8 3 t.dB t.mD ["self","page","right","number"] (aqM t.bI) := by
 refine T.O2.ok uH (fun vs H Q E h => ?_) (fun cdv A outer s H vs Q E hr h => ?_)
 ·obtain ⟨p,d,S,c,n,r,z,rfl,_⟩ := h; rfl
 ·obtain ⟨p,d,S,c,n,r,z,rfl,DA,hc,k⟩ := h
  have hu := j7 hr
  obtain ⟨⟨dx,v,h1,_⟩,_⟩ := id DA
  refine ⟨_,(ak (bM (cC (pv 0) T.dw T.qX (qZ T) (hr.mono (by decide) : bR 1 _) T.uW .nil bW (aa (pv 1) (aa (pv 2) (aa (pv 3) ao)))))
   (ak (bu (i := 4) uH.nd rfl (Or.inl rfl) (cL (pv 0) (by rfl)))
   (ak (cu (PW.pt (wG (vD (agw (pv 4))) (wG (aR z7 (aL bw (pv 4) az (fun _ _ => rfl)) (pv 1) (bf _)) (p8 (HQ (p7 (cC (pv 0) T.dw T.DY (Ei T) (hr.mono (by decide) : bR 2 _) T.GX .nil bW (aa (pv 4) ao)))))))) (aB (bj (bL ao))) bB)
   (ak (fZ (pv 0) rK (by rfl))
   (aB (bj (bL (aa (cC (pv 0) T.dw T.Ag (Al T) (hr.mono (by decide) : bR 2 _) T.Ea .nil bW (aa (pv 4) ao)) ao)))))))),?_⟩
  try dsimp only [du,Cx.j6]
  show let Z1 : L2.TS := _; let Z2 : L2.TS := _; let Z3 : L2.TS := _; let Z4 : L2.TS := cY _ Z3 bJ; let Z5 : L2.TS := _; let Z6 : L2.TS := _; let D0 : Ends := _; (aQ Z1 (aQ Z2 (aQ Z4 (aQ Z5 (Z6))))) D0 _ _
  intro Z1 Z2 Z3 Z4 Z5 Z6 D0
  refine ⟨_,rfl,p,dx,_,rfl,h1,fj _ _ (by decide +kernel) (by decide +kernel),_,rfl,_,rfl,_,rfl,p,d,S,c,n,r,z,.int z,rfl,DA,by lia,.inr rfl,fun H1 D1 f1 => ?_⟩
  obtain ⟨⟨yo,v1,g1,gw⟩,⟨axr,g2,g3,g4⟩⟩ := id D1
  have npd := D1.npd
  refine ⟨_,rfl,p,_,yo,_,_,rfl,g1,T.dw,T.jd,aaH _ _,?_⟩
  have gw' : rN H1 v1 S.ws := gw
  have none_ : (S.f9 n r z).2 = []→(S.f9 n r z).1 = S.hold n r z→∀ l,H1 l = none→Q (.ref l) (upd H1 l (.lst [])) := fun e1 e2 l hl => by
   refine k _ _ ?_ (f1.trans (DF.new hl)) ?_
   ·rw [e2]; exact (D1.new hl).mono (Nat.le_succ _)
   ·rw [e1]; exact jH ((f1.kept DA D1).free hl) hl (by simp only [aG])
  cases hws : S.ws with
  | none =>
    rw [hws] at gw'
    have ev : v1 = .non := gw'
    subst ev
    have e : S.f9 n r z = (S.hold n r z,[]) := by unfold DS.f9; rw [hws]
    refine ⟨_,rfl,_,rfl,?_⟩
    refine bF rfl (oh ?_)
    exact ⟨CZ,fun l hl => none_ (by rw [e]) (by rw [e]) l hl⟩
  | some w =>
    rw [hws] at gw'
    obtain ⟨a,ev,ha⟩ := gw'
    subst ev
    refine ⟨_,rfl,_,rfl,?_⟩
    refine aO (decide_eq_false fun z => by cases z) ?_
    refine zt rfl (dq.of ha) (W.at1 w) ⟨_,rfl,rfl,_,rfl,?_⟩
    by_cases epg : w.pg = n
    ·refine aO (by rw [epg]; simp) ?_
     refine ⟨_,rfl,p,yo,_,rfl,g1,fj _ _ (by decide +kernel) (by decide +kernel),_,rfl,p,d,_,_,a,w,rfl,D1,ha,_,rfl,?_⟩
     by_cases hok : (S.hold n r z).ok w
     ·refine aO (by rw [decide_eq_true hok]; rfl) ?_
      refine ⟨_,rfl,p,_,yo,_,rfl,g1,T.dw,T.jd,(by rw [aeI]; show 2 < 1000; decide),?_⟩
      rw [aeH]
      have D2 : cg t.bI (upd H1 p (.ins t.bI yo (Bo d .non))) p d ({ S.hold n r z with ws := none }) (c + 1) := by
       have ts : bY H1 (upd H1 p (.ins t.bI yo (Bo d .non))) := fun b xs e => by rw [aq (jf e g1 (by intro z; cases z))]; exact e
       exact ⟨⟨yo,.non,aj,rfl⟩,⟨axr,by rw [aq npd.symm]; exact g2,g3,fun j => (g4 j).aU ts⟩⟩
      have f2 : DF H1 (upd H1 p (.ins t.bI yo (Bo d .non))) p d := fun b o e hp hd => by rw [aq hp]; exact e
      have ha2 := (f2.tups D1) a _ ha
      obtain ⟨⟨dx2,v2,k1,_⟩,_⟩ := id D2
      refine ⟨_,rfl,p,dx2,_,rfl,k1,fj _ _ (by decide +kernel) (by decide +kernel),_,rfl,p,d,_,_,a,w,rfl,D2,by lia,ha2,hok,fun u H3 D3 f3 hu3 => ?_⟩
      refine ⟨zz1,fun l hl => ?_⟩
      have e : S.f9 n r z = (({ S.hold n r z with ws := none } : DS).done w,[.t [.s w.tag,.i w.pg,.i ((S.hold n r z).num w)]]) := by
       unfold DS.f9
       rw [hws]
       dsimp only
       rw [if_pos ⟨epg,hok⟩]
      refine k _ _ ?_ ((f1.trans f2).trans (f3.trans (DF.new hl))) ?_
      ·rw [e]; exact D3.new hl
      ·rw [e]
       have k3 := ((f1.trans f2).trans f3).kept DA D3
       refine jH (k3.free hl) hl ?_
       simp only [aG,Rep]
       refine ⟨_,_,rfl,⟨u,_,rfl,VB hu3 (k3.tup hu3),_,_,rfl,rfl,_,_,rfl,rfl,_,_,rfl,?_,rfl⟩,rfl⟩
       cases w <;> rfl
     ·refine bF (by rw [decide_eq_false hok]; rfl) ?_
      have e : S.f9 n r z = (S.hold n r z,[]) := by
       unfold DS.f9
       rw [hws]
       dsimp only
       rw [if_neg fun q => hok q.2]
      exact ⟨CZ,fun l hl => none_ (by rw [e]) (by rw [e]) l hl⟩
    ·refine bF (by rw [decide_eq_false fun z => epg (V.int.inj z)]; rfl) (oh ?_)
     have e : S.f9 n r z = (S.hold n r z,[]) := by
      unfold DS.f9
      rw [hws]
      dsimp only
      rw [if_neg fun q => epg q.1]
     exact ⟨CZ,fun l hl => none_ (by rw [e]) (by rw [e]) l hl⟩
end
end iz
namespace iz
open PySem L2
section
variable {P : Program} {w : World} {K : PySem.W.Frag} {mg : Str→Option Value} {base : Heap} {t : JV}
theorem ak8 (H : Hp) (S : DS) (n : Int) : Rep H (S.tell n) (VD (S.tell n)) := by
 unfold DS.tell
 split <;> simp [Rep,VD]
theorem Ss (T : Txt K w mg t) : cZ P w K mg base n8 3 t.eG t.qu ["self","page","right"] (aqN t.bI) := by
 refine T.V8.ok Ac (fun vs H Q E h => ?_) (fun cdv A outer s H vs Q E hr h => ?_)
 ·obtain ⟨p,d,S,c,n,r,rfl,_⟩ := h; rfl
 ·obtain ⟨p,d,S,c,n,r,rfl,DA,hc,k⟩ := h
  have hu := j7 hr
  obtain ⟨⟨dx,v,h1,_⟩,_⟩ := id DA
  refine ⟨_,(ak (bu (i := 3) Ac.nd rfl (Or.inl rfl) (cC (pv 0) T.dw T.mQ (mV T) (hr.mono (by decide) : bR 2 _) T.nO .nil bW (aa (pv 1) ao)))
   (ak (cu (HQ (p7 (cG (K7 T) (hr.mono (by decide) : bR 1 _) (by rfl) T.QS T.DR.kp T.QR .nil bW (aa (pv 2) (aa (cC (pv 0) T.dw T.iM (iQ T) (hr.mono (by decide) : bR 1 _) T.jg .nil bW (aa (pv 1) ao)) ao))))) (aB (bM (cC (pv 0) T.dw T.qX (qZ T) (hr.mono (by decide) : bR 1 _) T.uW .nil bW (aa (pv 1) (aa (pv 2) (aa (aL bw (bG hu (cL (pv 0) (by rfl)) (pv 1) (fun _ _ => rfl)) az (fun _ _ => rfl)) ao)))))) bB)
   (aB (bj (cG (Pb T) (hr.mono (by decide) : bR 1 _) (by rfl) T.R4 T.Af.kp T.R3 .nil bW (aa (pv 1) (aa (pv 3) ao))))))),?_⟩
  try dsimp only [du,Cx.j6]
  show let Z1 : L2.TS := _; let Z2 : L2.TS := _; let Z3 : L2.TS := cY _ Z2 bJ; let Z4 : L2.TS := _; let D0 : Ends := _; (aQ Z1 (aQ Z3 (Z4))) D0 _ _
  intro Z1 Z2 Z3 Z4 D0
  refine ⟨_,rfl,p,dx,_,rfl,h1,fj _ _ (by decide +kernel) (by decide +kernel),_,rfl,p,d,S,c,n,rfl,DA,?_⟩
  refine ⟨_,rfl,_,rfl,p,dx,_,rfl,h1,fj _ _ (by decide +kernel) (by decide +kernel),_,rfl,p,d,S,c,n,rfl,DA,r,S.rt n,rfl,_,rfl,?_⟩
  have fin : ∀ H1 : Hp,cg t.bI H1 p d (S.down n r) (c + 1)→DF H H1 p d→∀ a,H1 a = none→Q (.ref a) (upd H1 a (.tup [.str "answer",.int n,S.tell n])) := fun H1 D1 f1 a ha => by
   refine k _ _ ((D1.new ha).mono (Nat.le_succ _)) (f1.trans (DF.new ha)) (am2 ha ?_)
   simp only [aG]
   exact ⟨_,_,rfl,by simp only [Rep],_,_,rfl,by simp only [Rep],_,_,rfl,ak8 _ _ _,rfl⟩
  by_cases e : (S.rt n).k≤r.k
  ·refine aO (by rw [decide_eq_true e]; rfl) ?_
   exact ⟨_,rfl,_,rfl,_,_,rfl,fin H (by unfold DS.down; rw [if_pos e]; exact DA.mono (Nat.le_succ _)) (DF.refl _ _ _)⟩
  ·refine bF (by rw [decide_eq_false e]; rfl) ?_
   have hno : S.rt n≠.no := fun z => by rw [z] at e; cases r <;> simp [Rt.k] at e
   obtain ⟨kvs,tt,h2,e1,e2⟩ := DA.copy hno
   refine ⟨_,rfl,p,dx,_,rfl,h1,fj _ _ (by decide +kernel) (by decide +kernel),_,rfl,_,rfl,_,rfl,p,_,dx,_,_,rfl,h1,T.dw,T.dM,jG _ _,_,rfl,d,.ref tt,rfl,(by rw [← e1]; exact Gw.k (k := Sum.inl n) h2),tt,_,1,_,rfl,rfl,dq.of e2,rfl,p,d,S,c,n,r,S.nm n,.int (S.nm n),rfl,DA,by lia,.inr rfl,fun H1 D1 f1 => ?_⟩
   exact ⟨_,rfl,_,rfl,_,_,rfl,fin H1 (by unfold DS.down; rw [if_neg e]; exact D1) f1⟩
theorem abY (T : Txt K w mg t) : cZ P w K mg base n8 4 t.gZ t.yV ["self","letter"] (aqO t.bI) := by
 refine T.ae2.ok abA (fun vs H Q E h => ?_) (fun cdv A outer s H vs Q E hr h => ?_)
 ·obtain ⟨p,d,S,c,a,l,rfl,_⟩ := h; rfl
 ·obtain ⟨p,d,S,c,a,l,rfl,DA,hc,ha,k⟩ := h
  have hu := j7 hr
  obtain ⟨⟨dx,v,h1,_⟩,_⟩ := id DA
  refine ⟨_,(ak (cu (aR cO (aL bw (pv 1) az (fun _ _ => rfl)) aC (bf _)) (aB (bj (b8 (aa (cC (pv 0) T.dw T.Ku (K8 T) (hr.mono (by decide) : bR 3 _) T.O3 .nil bW (aa (aL bw (pv 1) az (fun _ _ => rfl)) (aa (aL bw (pv 1) az (fun _ _ => rfl)) (aa (aL bw (pv 1) az (fun _ _ => rfl)) ao)))) (aa (bL ao) ao))))) bB)
   (aB (bj (b8 (aa (bL ao) (aa (bL (aa (cC (pv 0) T.dw T.R6 (Ss T) (hr.mono (by decide) : bR 3 _) T.V9 .nil bW (aa (aL bw (pv 1) az (fun _ _ => rfl)) (aa (aL bw (pv 1) az (fun _ _ => rfl)) ao))) ao)) ao)))))),?_⟩
  try dsimp only [du,Cx.j6]
  show let Z1 : L2.TS := _; let Z2 : L2.TS := cY _ Z1 bJ; let Z3 : L2.TS := _; let D0 : Ends := _; (aQ Z2 (Z3)) D0 _ _
  intro Z1 Z2 Z3 D0
  cases l with
  | lend n r z =>
    refine zt rfl (dq.of ha) rfl ⟨rfl,_,rfl,?_⟩
    refine bF fu ?_
    refine ⟨_,rfl,p,dx,_,rfl,h1,fj _ _ (by decide +kernel) (by decide +kernel),zt rfl (dq.of ha) rfl (zt rfl (dq.of ha) rfl (zt rfl (dq.of ha) rfl ⟨p,d,S,c,n,r,z,rfl,DA,hc,fun v H1 D1 f1 r1 => ?_⟩))⟩
    refine ⟨CZ,fun l hl => ⟨uo,fun u hu => ?_⟩⟩
    refine k _ _ ((D1.new hl).new hu) (f1.trans ((DF.new hl).trans (DF.new hu))) ?_
    have k1 := f1.kept DA D1
    refine wM ((k1.new hl).free hu) hu ?_
    simp only [aG]
    exact ⟨_,_,rfl,r1.mono (uA (uz hl)),_,_,rfl,jH (k1.free hl) hl (by simp only [aG]),rfl⟩
  | back n r =>
    refine zt rfl (dq.of ha) rfl ⟨rfl,_,rfl,?_⟩
    refine aO (c7 (by decide +kernel)) ?_
    refine ⟨CZ,fun l hl => ?_⟩
    have D0 := DA.new (o := .lst []) hl
    obtain ⟨⟨dx0,v0,h10,_⟩,_⟩ := id D0
    have ha0 : upd H l (.lst []) a = some (.tup (Let.vs (.back n r))) := abr hl a _ ha
    refine ⟨_,rfl,p,dx0,_,rfl,h10,fj _ _ (by decide +kernel) (by decide +kernel),zt rfl (dq.of ha0) rfl (zt rfl (dq.of ha0) rfl ⟨p,d,S,c,n,r,rfl,D0,hc,fun v H1 D1 f1 r1 => ?_⟩)⟩
    refine ⟨zz1,fun l2 hl2 => ⟨uo,fun u hu => ?_⟩⟩
    refine k _ _ ((D1.new hl2).new hu) ((DF.new hl).trans (f1.trans ((DF.new hl2).trans (DF.new hu)))) ?_
    have k0 : Kept H (upd H l (.lst [])) := (Kept.refl H).new hl
    have k1 : Kept H H1 := ((DF.new hl).trans f1).kept DA D1
    refine wM ((k1.new hl2).free hu) hu ?_
    simp only [aG]
    have rl : Rep (nw H (upd H l (.lst []))) (.ref l) (.l []) := jH hl hl (by simp only [aG])
    refine ⟨_,_,rfl,(rl.mono (uA (f1.seqs D0))).mono (uA (uz hl2)),_,_,rfl,jH (k1.free hl2) hl2 ?_,rfl⟩
    simp only [aG]
    refine ⟨_,_,rfl,?_,rfl⟩
    simp only [Rep,aG] at r1 ⊢
    obtain ⟨b,xs,e1,e2,e3⟩ := r1
    refine ⟨b,xs,e1,VB e2 (k1.tup e2),?_⟩
    obtain ⟨v1,q1,e4,e5,v2,q2,e6,e7,v3,q3,e8,e9,e10⟩ := e3
    refine ⟨v1,q1,e4,e5,v2,q2,e6,e7,v3,q3,e8,?_,e10⟩
    unfold DS.tell at e9 ⊢
    split
    ·rename_i z; rw [if_pos z] at e9; simpa only [VD,Rep] using e9
    ·rename_i z; rw [if_neg z] at e9; simpa only [VD,Rep] using e9
theorem Za (T : Txt K w mg t) : cZ P w K mg base n8 1 t.gb t.vR ["self"] (am4 t.bI) := by
 refine T.abL.ok YS (fun vs H Q E h => ?_) (fun cdv A outer s H vs Q E hr h => ?_)
 ·obtain ⟨p,d,S,c,rfl,_⟩ := h; rfl
 ·obtain ⟨p,d,S,c,rfl,DA,k⟩ := h
  have hu := j7 hr
  obtain ⟨⟨dx,v,h1,hw⟩,_⟩ := id DA
  refine ⟨_,(aB (bj (akh (ur (cL (pv 0) (by rfl)))))),?_⟩
  try dsimp only [du,Cx.j6]
  refine ⟨_,rfl,p,_,dx,_,_,rfl,h1,T.dw,T.jd,aaH _ _,?_⟩
  have e : (!decide (v = V.non)) = S.ws.isSome := by
   cases hws : S.ws with
   | none => rw [hws] at hw; have e : v = .non := hw; rw [e]; rfl
   | some w' => rw [hws] at hw; obtain ⟨a,e,_⟩ := hw; rw [e]; rfl
  rw [← e] at k
  exact k
theorem K9 (T : Txt K w mg t) : cZ P w K mg base (CX1 P w) 3 t.gY t.yU ["self","wish"] (ang t.bI t.aK) := by
 refine T.ae1.okX abz (fun vs H Q E h => ?_) (fun cdv A outer s H vs Q E hr h => ?_)
 ·obtain ⟨p,d,S,c,a,w,rfl,_⟩ := h; rfl
 ·obtain ⟨p,d,S,c,a,w,rfl,DA,hc,ha,k⟩ := h
  have hu := j7 hr
  obtain ⟨⟨dx,v,h1,hw⟩,⟨kvs,h2,h3,h4⟩⟩ := id DA
  have npd := DA.npd
  refine ⟨_,(ak (cu (p7 (wH (pv 0) T.dw T.Y0 (Za T) (hr.mono (by decide) : bR 1 _) T.abM .nil bW)) (aB (Df T.wX (by rfl) T.aaM rfl Ka (aa aC ao))) bB)
   (ak (cu (p7 (cC (pv 0) T.dw T.DY (Ei T) (hr.mono (by decide) : bR 2 _) T.GX .nil bW (aa (pv 1) ao))) (aB (bj (b8 (aa (bL (aa (cC (pv 0) T.dw T.Ag (Al T) (hr.mono (by decide) : bR 2 _) T.Ea .nil bW (aa (pv 1) ao)) ao)) (aa (bL ao) ao))))) bB)
   (ak (fZ (pv 0) (pv 1) (by rfl))
   (aB (bj (b8 (aa (bL ao) (aa (bL (aa (cG (Y9 T) (hr.mono (by decide) : bR 1 _) (by rfl) T.abK T.Kr.kp T.abJ .nil bW (aa (aL bw (pv 1) az (fun _ _ => rfl)) (aa (cG (Ak T) (hr.mono (by decide) : bR 1 _) (by rfl) T.DX T.tQ.kp T.DW .nil bW (aa (pv 1) ao)) ao))) ao)) ao)))))))),?_⟩
  try dsimp only [du,Cx.j6]
  show let Z1 : L2.TS := _; let Z2 : L2.TS := cY _ Z1 bJ; let Z3 : L2.TS := _; let Z4 : L2.TS := cY _ Z3 bJ; let Z5 : L2.TS := _; let Z6 : L2.TS := _; let D0 : Ends := _; (aQ Z2 (aQ Z4 (aQ Z5 (Z6)))) D0 _ _
  intro Z1 Z2 Z3 Z4 Z5 Z6 D0
  refine ⟨_,rfl,p,dx,_,rfl,h1,fj _ _ (by decide +kernel) (by decide +kernel),p,d,S,c,rfl,DA,_,rfl,?_⟩
  cases hws : S.ws with
  | some w' =>
    rw [hws] at hw k
    obtain ⟨a',ev,_⟩ := hw
    subst ev
    refine oh ?_
    exact ⟨zz1,k⟩
  | none =>
    rw [hws] at hw k
    have ev : v = .non := hw
    subst ev
    refine wJ ?_
    refine ⟨_,rfl,p,dx,_,rfl,h1,fj _ _ (by decide +kernel) (by decide +kernel),_,rfl,p,d,S,c,a,w,rfl,DA,ha,_,rfl,?_⟩
    by_cases hok : S.ok w
    ·refine bF (decide_eq_true hok) ?_
     refine ⟨_,rfl,p,dx,_,rfl,h1,fj _ _ (by decide +kernel) (by decide +kernel),_,rfl,p,d,S,c,a,w,rfl,DA,by lia,ha,hok,fun u H1 D1 f1 hu1 => ?_⟩
     refine ⟨zz1,fun l hl => ⟨CZ,fun l2 hl2 => ⟨uo,fun z hz => ?_⟩⟩⟩
     refine k _ _ ?_ (f1.trans ((DF.new hl).trans ((DF.new hl2).trans (DF.new hz)))) ?_
     ·unfold DS.want; rw [if_pos hok]; exact (((D1.new hl).new hl2).new hz).mono (Nat.le_succ _)
     ·unfold DS.want
      rw [if_pos hok]
      have k1 := f1.kept DA D1
      refine wM (((k1.new hl).new hl2).free hz) hz ?_
      simp only [aG]
      refine ⟨_,_,rfl,(jH (k1.free hl) hl ?_).mono (uA (uz hl2)),_,_,rfl,jH ((k1.new hl).free hl2) hl2 (by simp only [aG]),rfl⟩
      simp only [aG,Rep]
      exact ⟨_,_,rfl,⟨u,_,rfl,VB hu1 (k1.tup hu1),_,_,rfl,rfl,_,_,rfl,rfl,_,_,rfl,rfl,rfl⟩,rfl⟩
    ·refine aO (decide_eq_false hok) ?_
     refine ⟨_,rfl,_,rfl,p,_,dx,_,rfl,h1,T.dw,T.jd,(by rw [aeI]; show 2 < 1000; decide),?_⟩
     rw [aeH]
     have ts : bY H (upd H p (.ins t.bI dx (Bo d (.ref a)))) := fun b xs e => by rw [aq (jf e h1 (by intro z; cases z))]; exact e
     have ha1 := ts a _ ha
     have D1 : cg t.bI (upd H p (.ins t.bI dx (Bo d (.ref a)))) p d { S with ws := some w } c :=
      ⟨⟨dx,.ref a,aj,a,rfl,ha1⟩,⟨kvs,by rw [aq npd.symm]; exact h2,h3,fun j => (h4 j).aU ts⟩⟩
     have f1 : DF H (upd H p (.ins t.bI dx (Bo d (.ref a)))) p d := fun b o e hp hd => by rw [aq hp]; exact e
     refine ⟨CZ,fun l hl => ?_⟩
     have ha2 : upd (upd H p (.ins t.bI dx (Bo d (.ref a)))) l (.lst []) a = some (.tup w.vs) := abr hl a _ ha1
     refine zt rfl (dq.of ha2) (W.at1 w) ⟨_,rfl,a,w,rfl,ha2,_,_,rfl,fun z hz => ?_⟩
     refine ⟨zz1,fun l2 hl2 => ⟨uo,fun y hy => ?_⟩⟩
     refine k _ _ ?_ (f1.trans ((DF.new hl).trans ((DF.new hz).trans ((DF.new hl2).trans (DF.new hy))))) ?_
     ·unfold DS.want; rw [if_neg hok]; exact ((((D1.new hl).new hz).new hl2).new hy).mono (by lia)
     ·unfold DS.want
      rw [if_neg hok]
      have k1 := f1.kept DA D1
      refine wM ((((k1.new hl).new hz).new hl2).free hy) hy ?_
      simp only [aG]
      refine ⟨_,_,rfl,((jH (k1.free hl) hl (by simp only [aG])).mono (uA (uz hz))).mono (uA (uz hl2)),_,_,rfl,jH (((k1.new hl).new hz).free hl2) hl2 ?_,rfl⟩
      simp only [aG]
      refine ⟨_,_,rfl,wM ((k1.new hl).free hz) hz ?_,rfl⟩
      simp only [aG,Rep]
      exact ⟨_,_,rfl,rfl,_,_,rfl,rfl,_,_,rfl,rfl,rfl⟩
theorem abZ (T : Txt K w mg t) : cZ P w K mg base (CX1 P w) 3 t.g8 t.yW ["self","page"] (anh t.bI t.aV) := by
 refine T.ae4.okX Kl (fun vs H Q E h => ?_) (fun cdv A outer s H vs Q E hr h => ?_)
 ·obtain ⟨p,d,S,c,n,rfl,_⟩ := h; rfl
 ·obtain ⟨p,d,S,c,n,rfl,DA,hc,k⟩ := h
  have hu := j7 hr
  obtain ⟨⟨dx,v,h1,_⟩,_⟩ := id DA
  refine ⟨_,(ak (cu (aR cO (cC (pv 0) T.dw T.iM (iQ T) (hr.mono (by decide) : bR 1 _) T.jg .nil bW (aa (pv 1) ao)) (gQ (by rfl) T.Pa) (bf _)) (aB (Df T.wY (by rfl) T.aeX rfl Ka (aa aC ao))) bB)
   (ak (bu (i := 2) Kl.nd rfl (Or.inl rfl) (cC (pv 0) T.dw T.mQ (mV T) (hr.mono (by decide) : bR 2 _) T.nO .nil bW (aa (pv 1) ao)))
   (ak (bM (cC (pv 0) T.dw T.qX (qZ T) (hr.mono (by decide) : bR 1 _) T.uW .nil bW (aa (pv 1) (aa (gQ (by rfl) T.Pa) (aa rK ao)))))
   (aB (bj (pB (vD (agw (pv 2))) (bL ao) (bL (aa (cG (Wr T) (hr.mono (by decide) : bR 1 _) (by rfl) T.YW T.GK.kp T.YT .nil bW (aa (pv 1) (aa (pv 2) ao))) ao)))))))),?_⟩
  try dsimp only [du,Cx.j6]
  show let Z1 : L2.TS := _; let Z2 : L2.TS := cY _ Z1 bJ; let Z3 : L2.TS := _; let Z4 : L2.TS := _; let Z5 : L2.TS := _; let D0 : Ends := _; (aQ Z2 (aQ Z3 (aQ Z4 (Z5)))) D0 _ _
  intro Z1 Z2 Z3 Z4 Z5 D0
  refine ⟨_,rfl,p,dx,_,rfl,h1,fj _ _ (by decide +kernel) (by decide +kernel),_,rfl,p,d,S,c,n,rfl,DA,rfl,_,rfl,?_⟩
  by_cases e : S.rt n = .no
  ·rw [if_pos e] at k
   rw [e]
   refine oh ?_
   exact ⟨zz1,k⟩
  ·rw [if_neg e] at k
   refine aO (nC (x := "none") (q := .no) rfl e) ?_
   refine ⟨_,rfl,p,dx,_,rfl,h1,fj _ _ (by decide +kernel) (by decide +kernel),_,rfl,p,d,S,c,n,rfl,DA,?_⟩
   refine ⟨_,rfl,p,dx,_,rfl,h1,fj _ _ (by decide +kernel) (by decide +kernel),_,rfl,p,d,S,c,n,.no,S.nm n,.non,rfl,DA,by lia,.inl rfl,fun H1 D1 f1 => ?_⟩
   refine ⟨_,rfl,_,rfl,?_⟩
   by_cases ew : S.rt n = .wr
   ·have et : S.tell n = .int (S.nm n) := by unfold DS.tell; rw [if_pos ew]
    rw [et]
    refine wJ ?_
    refine ⟨_,rfl,_,rfl,_,_,rfl,fun z hz => ⟨zz1,fun l hl => ?_⟩⟩
    refine k _ _ (((D1.new hz).new hl).mono (Nat.le_succ _)) (f1.trans ((DF.new hz).trans (DF.new hl))) ?_
    unfold DS.rest
    rw [if_pos ew]
    have k1 := f1.kept DA D1
    refine jH ((k1.new hz).free hl) hl ?_
    simp only [aG]
    refine ⟨_,_,rfl,wM (k1.free hz) hz ?_,rfl⟩
    simp only [aG,Rep]
    exact ⟨_,_,rfl,rfl,_,_,rfl,rfl,_,_,rfl,rfl,rfl⟩
   ·have et : S.tell n = .non := by unfold DS.tell; rw [if_neg ew]
    rw [et]
    refine oh ?_
    refine ⟨CZ,fun l hl => ?_⟩
    refine k _ _ ((D1.new hl).mono (Nat.le_succ _)) (f1.trans (DF.new hl)) ?_
    unfold DS.rest
    rw [if_neg ew]
    exact jH ((f1.kept DA D1).free hl) hl (by simp only [aG])
end
end iz
namespace iz
open PySem L2
section
variable {P : Program} {w : World} {K : PySem.W.Frag} {mg : Str→Option Value} {base : Heap} {t : JV}
theorem Ej (T : Txt K w mg t) : cZ P w K mg base n8 1 t.gk t.sS ["page","right"] (aeJ "back") := by
 refine T.vX.ok VR (fun vs H Q E h => ?_) (fun cdv A outer s H vs Q E hr h => ?_)
 ·obtain ⟨x,y,rfl,_⟩ := h; rfl
 ·obtain ⟨x,y,rfl,k⟩ := h
  refine ⟨_,(aB (bj (b8 (aa aC (aa (pv 0) (aa (pv 1) ao)))))),?_⟩
  try dsimp only [du,Cx.j6]
  exact ⟨_,rfl,_,rfl,zz3,fun a ha => k a ha⟩
theorem Ws (T : Txt K w mg t) : cZ P w K mg base n8 1 t.gj t.sO ["page","right","number"] aio := by
 refine T.GP.ok VP (fun vs H Q E h => ?_) (fun cdv A outer s H vs Q E hr h => ?_)
 ·obtain ⟨x,y,z,rfl,_⟩ := h; rfl
 ·obtain ⟨x,y,z,rfl,k⟩ := h
  refine ⟨_,(aB (bj (b8 (aa aC (aa (pv 0) (aa (pv 1) (aa (pv 2) ao))))))),?_⟩
  try dsimp only [du,Cx.j6]
  exact ⟨_,rfl,_,rfl,_,rfl,zz4,fun a ha => k a ha⟩
theorem La (T : Txt K w mg t) : cZ P w K mg base n8 1 t.dC t.mF ["self","page","number"] (akV t.aD) := by
 refine T.O4.ok Km (fun vs H Q E h => ?_) (fun cdv A outer s H vs Q E hr h => ?_)
 ·obtain ⟨x,y,p,n,rfl,_⟩ := h; rfl
 ·obtain ⟨a,dx,p,n,rfl,hp,k⟩ := h
  refine ⟨_,(ak (fZ (pv 0) (pv 1) (by rfl))
   (ak (fZ (pv 0) (pv 2) (by rfl))
   (ak (fZ (pv 0) rK (by rfl))
   (ak (fZ (pv 0) (bL ao) (by rfl))
   (ak (fZ (pv 0) (bL ao) (by rfl))
   (aB (fZ (pv 0) az (by rfl)))))))),?_⟩
  try dsimp only [du,Cx.j6]
  show let Z1 : L2.TS := _; let Z2 : L2.TS := _; let Z3 : L2.TS := _; let Z4 : L2.TS := _; let Z5 : L2.TS := _; let Z6 : L2.TS := _; let D0 : Ends := _; (aQ Z1 (aQ Z2 (aQ Z3 (aQ Z4 (aQ Z5 (Z6)))))) D0 _ _
  intro Z1 Z2 Z3 Z4 Z5 Z6 D0
  refine ⟨_,rfl,_,rfl,a,t.aD,dx,[],rfl,hp,T.aP,T.fQ,(by show 0 < 1000; decide),?_⟩
  refine ⟨_,rfl,_,rfl,a,t.aD,dx,_,rfl,aj,T.aP,T.eV,(by show 1 < 1000; decide),?_⟩
  refine ⟨_,rfl,a,t.aD,dx,_,rfl,aj,T.aP,T.b7,(by show 2 < 1000; decide),?_⟩
  rw [ahW,ahW]
  refine ⟨CZ,fun r hr1 => ?_⟩
  have nra : a≠r := fun z => by rw [z,aj] at hr1; cases hr1
  have hr0 : H r = none := by rw [← hr1,aq nra.symm]
  refine ⟨_,rfl,a,t.aD,dx,_,rfl,(by rw [aq nra]; exact aj),T.aP,T.cU,(by show 3 < 1000; decide),?_⟩
  refine ⟨CZ,fun q hq1 => ?_⟩
  have nqa : a≠q := fun z => by rw [z,aj] at hq1; cases hq1
  have nqr : r≠q := fun z => by rw [z,aq nqa.symm,aj] at hq1; cases hq1
  have hq0 : H q = none := by rw [← hq1,aq nqa.symm,aq nqr.symm,aq nqa.symm]
  refine ⟨_,rfl,a,t.aD,dx,_,rfl,(by rw [aq nqa]; exact aj),T.aP,T.cX,(by show 4 < 1000; decide),?_⟩
  refine ⟨_,rfl,a,t.aD,dx,_,rfl,aj,T.aP,T.dZ,(by show 5 < 1000; decide),?_⟩
  rw [akT]
  refine k r q _ hr0 hq0 ⟨⟨dx,aj⟩,?_,⟨[],?_,by simp [aG]⟩,nqr⟩ (fun b o e hb => ?_) ?_
  ·rw [aq nra.symm,aq nra.symm,aq nqr,aq nra.symm,aj]; rfl
  ·rw [aq nqa.symm,aq nqa.symm,aj]
  ·rw [aq hb,aq hb,aq (aF e hq0),aq hb,aq (aF e hr0),aq hb]; exact e
  ·exact Lv.upd.trans (Lv.upd.trans (Lv.upd.trans (Lv.upd.trans (Lv.upd.trans Lv.upd))))
theorem zr (T : Txt K w mg t) : cZ P w K mg base n8 1 t.cJ t.jc ["self","desk"] (aqX t.aD) := by
 refine T.Bx.ok yO (fun vs H Q E h => ?_) (fun cdv A outer s H vs Q E hr h => ?_)
 ·obtain ⟨a,r,q,p,g,d,rfl,_⟩ := h; rfl
 ·obtain ⟨a,r,q,p,g,d,rfl,PA,k⟩ := h
  have nar := PA.nar
  have naq := PA.naq
  obtain ⟨⟨dx,h1⟩,h2,⟨vs,h3,h4⟩,h5⟩ := id PA
  refine ⟨_,(ak (fZ (pv 0) (pv 1) (by rfl))
   (aB (fZ (pv 0) (bL ao) (by rfl)))),?_⟩
  try dsimp only [du,Cx.j6]
  show let Z1 : L2.TS := _; let Z2 : L2.TS := _; let D0 : Ends := _; (aQ Z1 (Z2)) D0 _ _
  intro Z1 Z2 D0
  refine ⟨_,rfl,_,rfl,a,_,dx,_,rfl,h1,T.aP,T.b7,uC,?_⟩
  rw [am8]
  refine ⟨CZ,fun r' hr1 => ?_⟩
  have nra : a≠r' := fun z => by rw [z,aj] at hr1; cases hr1
  have hr0 : H r' = none := by rw [← hr1,aq nra.symm]
  refine ⟨_,rfl,a,_,dx,_,rfl,(by rw [aq nra]; exact aj),T.aP,T.cU,uC,?_⟩
  rw [aqP (l := [])]
  have nqr : q≠r' := aF h3 hr0
  refine k r' _ hr0 ⟨⟨dx,aj⟩,?_,⟨vs,?_,?_⟩,nqr.symm⟩ ⟨fun b o e ha hb hq => ?_,Lv.upd.trans (Lv.upd.trans Lv.upd)⟩
  ·rw [aq nra.symm,aj]; rfl
  ·rw [aq naq.symm,aq nqr,aq naq.symm]; exact h3
  ·refine h4.aU (fun b xs e => ?_) (jU _)
   have hb : b≠a := jf e h1 (by intro z; cases z)
   rw [aq hb,aq (aF e hr0),aq hb]; exact e
  ·rw [aq ha,aq (aF e hr0),aq ha]; exact e
theorem aiB (d : Nat) (l : List Nat) : inV (.int d) (l.map nV) = decide (d∈l) := by
 unfold inV
 induction l with
 | nil => rfl
 | cons x l ih =>
   rw [List.map_cons,List.any_cons,ih]
   show ((x : Int) == (d : Int) || _) = _
   by_cases e : d = x
   ·subst e; simp
   ·have : ((x : Int) == (d : Int)) = false := by simp; lia
    rw [this]; simp [e]
theorem afo (l : List Nat) : (l.map nV).all GC = true := by simp [GC,nV]
theorem BK (T : Txt K w mg t) : cZ P w K mg base n8 1 t.cN t.jo ["self","desk"] (aqW t.aD) := by
 refine T.Ed.ok Br (fun vs H Q E h => ?_) (fun cdv A outer s H vs Q E hr h => ?_)
 ·obtain ⟨a,r,q,p,g,d,rfl,_⟩ := h; rfl
 ·obtain ⟨a,r,q,p,g,d,rfl,PA,hl,k⟩ := h
  have sl : sizeLine = 16777216 := by decide
  refine ⟨_,(ak (cu (vD (ur (cL (pv 0) (by rfl)))) (ak (bM (eX PySem.F.plainAttrs_list PySem.F.slot_list_append PySem.F.type_list_append cD (cL (pv 0) (by rfl)) (aa (cL (pv 0) (by rfl)) ao)))
   (aB (fZ (pv 0) rK (by rfl)))) bB)
   (aB (cu (aR J6 (pv 1) (cL (pv 0) (by rfl)) (by rfl)) (aB (bM (eX PySem.F.plainAttrs_list PySem.F.slot_list_append PySem.F.type_list_append cD (cL (pv 0) (by rfl)) (aa (pv 1) ao)))) bB))),?_⟩
  try dsimp only [du,Cx.j6]
  show let Z1 : L2.TS := _; let Z2 : L2.TS := _; let Z3 : L2.TS := aQ Z1 (Z2); let Z4 : L2.TS := cY _ Z3 bJ; let Z5 : L2.TS := _; let Z6 : L2.TS := cY _ Z5 bJ; let D0 : Ends := _; (aQ Z4 (Z6)) D0 _ _
  intro Z1 Z2 Z3 Z4 Z5 Z6 D0
  have fin : ∀ H1,fV t.aD H1 a r q p { g with wr := none,rd := g.rd ++ g.wr.toList }→PF H H1 a r q→
   (cY (aem (Vk (rIn K true) (iY 1) (abj K (iY 0) "readers"))) (ahY (tBM K "list" J7 (abj K (iY 0) "readers") (lF (iY 1) Gv))) bJ) { nx := fun _ H' => Q .non H',rt := Q } [some (.ref a),some (.int d)] H1 := fun H1 P1 f1 => by
   obtain ⟨⟨dx,h1⟩,h2,_,_⟩ := id P1
   refine ⟨_,rfl,_,rfl,a,_,dx,_,_,rfl,h1,T.aP,T.cU,uB,r,_,rfl,.inl (cz.of h2),rfl,afo _,_,rfl,?_⟩
   have e0 : (if true = true then !inV (.int d) ((g.rd ++ g.wr.toList).map nV) else inV (.int d) ((g.rd ++ g.wr.toList).map nV)) = !decide (d∈g.rd ++ g.wr.toList) := by rw [if_pos rfl,aiB]
   rw [e0]
   by_cases e : d∈g.rd ++ g.wr.toList
   ·refine aO (by rw [decide_eq_true e]; rfl) ?_
    refine k H1 ?_ f1
    unfold kI
    rw [if_pos e]
    exact P1
   ·refine bF (by rw [decide_eq_false e]; rfl) ?_
    refine ⟨_,rfl,a,_,dx,_,_,rfl,h1,T.aP,T.cU,uB,.inl ⟨rfl,_,cz.of h2⟩,_,rfl,r,_,_,rfl,rfl,h2,?_,?_⟩
    ·have hw : g.wr.toList.length≤1 := by cases g.wr <;> simp
     rw [List.length_map,List.length_append]; lia
    ·refine k _ ?_ (f1.trans PF.wrR)
     have := P1.wrR (l := g.rd ++ g.wr.toList ++ [d])
     unfold kI
     rw [if_neg e]
     rw [List.map_append (l₂ := [d])] at this
     exact this
  obtain ⟨⟨dx,h1⟩,h2,⟨vs,h3,h4⟩,h5⟩ := id PA
  refine ⟨_,rfl,a,_,dx,_,_,rfl,h1,T.aP,T.b7,rP,_,rfl,?_⟩
  cases hw : g.wr with
  | none =>
    refine aO rfl ?_
    refine fin H ?_ (PF.refl _ _ _ _)
    have e : ({ g with wr := none,rd := g.rd ++ g.wr.toList } : PG) = g := by rw [hw]; cases g; simp_all
    rw [e]; exact PA
  | some x =>
    refine bF rfl ?_
    have l1 : (Aa p g r q).lookup ("writer" : Str) = some (.int x) := by rw [rP,hw]; rfl
    refine ⟨_,rfl,a,_,dx,_,_,rfl,h1,T.aP,T.cU,uB,.inl ⟨rfl,_,cz.of h2⟩,_,rfl,a,_,dx,_,_,rfl,h1,T.aP,T.b7,l1,r,_,_,rfl,rfl,h2,(by rw [List.length_map]; lia),?_⟩
    have P1 := PA.wrR (l := g.rd ++ [x])
    rw [List.map_append] at P1
    obtain ⟨⟨yo,g1⟩,_⟩ := id P1
    refine ⟨_,rfl,a,_,yo,_,rfl,g1,T.aP,T.b7,uC,?_⟩
    rw [aim]
    refine fin _ ?_ (PF.trans PF.wrR PF.wr)
    rw [hw]
    exact P1.wr rfl rfl
theorem uZ (T : Txt K w mg t) : cZ P w K mg base n8 2 t.dD t.mG ["self"] (am9 t.aD) := by
 refine T.O6.ok uI (fun vs H Q E h => ?_) (fun cdv A outer s H vs Q E hr h => ?_)
 ·obtain ⟨a,r,q,p,g,d,x,l,rfl,_⟩ := h; rfl
 ·obtain ⟨a,r,q,p,g,d,x,l,rfl,PA,ha,hx,hl,k⟩ := h
  refine ⟨_,(ak (bu (i := 1) uI.nd rfl (Or.inl rfl) (eX PySem.F.plainAttrs_list PySem.F.slot_list_pop PySem.F.type_list_pop De (cL (pv 0) (by rfl)) (aa az ao)))
   (ak (cu (aR cO (aL bw (pv 1) az (fun _ _ => rfl)) (gQ (by rfl) T.Vd) (bf _)) (aB (bM (cC (pv 0) T.aP T.zp (zr T) (hr.mono (by decide) : bR 1 _) T.By .nil bW (aa (aL bw (pv 1) az (fun _ _ => rfl)) ao)))) (aB (bM (cC (pv 0) T.aP T.BJ (BK T) (hr.mono (by decide) : bR 1 _) T.Ef .nil bW (aa (aL bw (pv 1) az (fun _ _ => rfl)) ao)))))
   (aB (bj (b8 (aa (aL bw (pv 1) az (fun _ _ => rfl)) (aa (cG (Ws T) (hr.mono (by decide) : bR 1 _) (by rfl) T.YZ T.GP.kp T.YX .nil bW (aa (cL (pv 0) (by rfl)) (aa (aL bw (pv 1) az (fun _ _ => rfl)) (aa (cL (pv 0) (by rfl)) ao)))) ao))))))),?_⟩
  try dsimp only [du,Cx.j6]
  show let Z1 : L2.TS := _; let Z2 : L2.TS := _; let Z3 : L2.TS := _; let Z4 : L2.TS := cY _ Z2 Z3; let Z5 : L2.TS := _; let D0 : Ends := _; (aQ Z1 (aQ Z4 (Z5))) D0 _ _
  intro Z1 Z2 Z3 Z4 Z5 D0
  obtain ⟨⟨dx,h1⟩,h2,⟨vs,h3,h4⟩,h5⟩ := id PA
  rw [ha] at h4
  obtain ⟨tt,us,rfl,h6,h7⟩ := Gp h4
  refine ⟨_,rfl,a,_,dx,_,_,rfl,h1,T.aP,T.cX,rH,.inl ⟨rfl,_,cz.of h3⟩,q,_,0,0,_,rfl,rfl,h3,(by decide),(by decide),akS _ _,rfl,?_⟩
  have P1 := PA.wrQ (l := l) (vs := us) h7
  have t1 : (upd H q (.lst us)) tt = some (.tup [.int d,.str x.s]) := by rw [aq (jf h6 h3 (by intro z; cases z))]; exact h6
  have fin : ∀ r' H1,(r' = r∨H r' = none)→fV t.aD H1 a r' q p g.lent→PF H H1 a r q→g.lent.num = g.num→
   (ap6 (akn (lF (Vk (agJ K) (iY 1) (tC (.int 0))) (lF (ako aio [] E0 (lF (abj K (iY 0) "page") (lF (Vk (agJ K) (iY 1) (tC (.int 1))) (lF (abj K (iY 0) "number") Gv)))) Gv)))) { nx := fun _ H' => Q .non H',rt := Q } [some (.ref a),some (.ref tt)] H1 := fun r' H1 hr' P2 f2 en => by
   have t2 := (f2.tups PA) tt _ h6
   obtain ⟨⟨dx2,g1⟩,_⟩ := id P2
   refine zt rfl (dq.of t2) rfl ⟨_,rfl,a,_,dx2,_,_,rfl,g1,T.aP,T.fQ,VF,zt rfl (dq.of t2) rfl ⟨_,rfl,a,_,dx2,_,_,rfl,g1,T.aP,T.eV,agX,_,_,_,rfl,fun b hb => ?_⟩⟩
   refine ⟨uo,fun c hc => ?_⟩
   refine k _ r' _ hr' ((P2.new hb).new hc) (f2.trans' ((PF.new hb).trans (PF.new hc)) hr') ?_
   simp only [pairD,Let.d,Rep,aG]
   refine ⟨c,_,rfl,aj,_,_,rfl,rfl,_,_,rfl,⟨b,[.str "lend",.int p,.str x.s,.int g.lent.num],rfl,?_,_,_,rfl,rfl,_,_,rfl,rfl,_,_,rfl,rfl,_,_,rfl,?_,rfl⟩,rfl⟩
   ·rw [aq,aj]; intro z; rw [z,aj] at hc; cases hc
   ·rw [en]
  have xK : g.lent = if x = .wr then lY { g with ask := l } d else kI { g with ask := l } d := by unfold PG.lent; rw [ha]
  obtain ⟨⟨yo,g1⟩,_⟩ := id P1
  refine zt rfl (dq.of t1) rfl ⟨rfl,_,rfl,?_⟩
  rcases hx with hx | hx
  ·subst hx
   refine aO (nC (x := "write") (q := .wr) rfl (by intro z; cases z)) ?_
   refine ⟨_,rfl,a,yo,_,rfl,g1,aqR,zt rfl (dq.of t1) rfl ⟨a,r,q,p,_,d,rfl,P1,hl,fun H2 P2 f2 => ?_⟩⟩
   refine fin r H2 (.inl rfl) ?_ (PF.wrQ.trans f2) (by rw [xK]; rfl)
   rw [xK,if_neg (by intro z; cases z)]
   exact P2
  ·subst hx
   refine bF fu ?_
   refine ⟨_,rfl,a,yo,_,rfl,g1,aqQ,zt rfl (dq.of t1) rfl ⟨a,r,q,p,_,d,rfl,P1,fun r' H2 hr' P2 f2 => ?_⟩⟩
   have nq : r'≠q := by intro z; rw [z,aj] at hr'; cases hr'
   refine fin r' H2 (.inr (by rw [← hr',aq nq])) ?_ (PF.wrQ.trans f2) (by rw [xK]; rfl)
   rw [xK,if_pos rfl]
   exact P2
end
end iz
namespace iz
open PySem L2
section
variable {P : Program} {w : World} {K : PySem.W.Frag} {mg : Str→Option Value} {base : Heap} {t : JV}
theorem Ir {H : Hp} {b c : Addr} {d p : Nat} {x : Rt} {vs : List V} (hc : H c = some (.tup [.int d,.ref b])) (hb : H b = some (.tup [.str "back",.int p,.str x.s])) : Rep H (.ref c) (pairD (d,.back p x)) := by
 simp only [pairD,Let.d,Rep,aG]
 exact ⟨c,_,rfl,hc,_,_,rfl,rfl,_,_,rfl,⟨b,_,rfl,hb,_,_,rfl,rfl,_,_,rfl,rfl,_,_,rfl,rfl,rfl⟩,rfl⟩
theorem Wt {g : PG} {p d : Nat} {x : Rt} (h : g.wr = none) : pC g p d x = [] := by unfold pC; rw [h]
theorem aaR {g : PG} {p d : Nat} {x : Rt} (h : g.wr = some d) : pC g p d x = [] := by unfold pC; rw [h]; simp
theorem QZ {g : PG} {p d wv : Nat} {x : Rt} (h : g.wr = some wv) (hn : wv≠d) : pC g p d x = [(wv,.back p (low x))] := by unfold pC; rw [h]; simp [hn]
theorem rm (T : Txt K w mg t) : cZ P w K mg base n8 2 t.bQ t.gf ["self"] (aqY t.aD) := by
 refine T.tU.ok d9 (fun vs H Q E h => ?_) (fun cdv A outer s H vs Q E hr h => ?_)
 ·obtain ⟨a,r,q,p,g,d,x,l,rfl,_⟩ := h; rfl
 ·obtain ⟨a,r,q,p,g,d,x,l,rfl,PA,ha,hx,hl,k⟩ := h
  refine ⟨_,(ak (bu (i := 1) d9.nd rfl (Or.inr rfl) (aL bw (aL bA (cL (pv 0) (by rfl)) az (fun _ _ => rfl)) az (fun _ _ => rfl)))
   (ak (bu (i := 2) d9.nd rfl (Or.inl rfl) (aL bw (aL bA (cL (pv 0) (by rfl)) az (fun _ _ => rfl)) az (fun _ _ => rfl)))
   (ak (bu (i := 3) d9.nd rfl (Or.inl rfl) (bL ao))
   (ak (cu (PW.pt (Oe (vD (ur (cL (pv 0) (by rfl)))) (JZ (aR z7 (cL (pv 0) (by rfl)) (pv 1) (bf _))))) (aB (bM (eX PySem.F.plainAttrs_list PySem.F.slot_list_append PySem.F.type_list_append cD (pv 3) (aa (b8 (aa (cL (pv 0) (by rfl)) (aa (cG (Ej T) (hr.mono (by decide) : bR 1 _) (by rfl) T.GR T.vX.kp T.GQ .nil bW (aa (cL (pv 0) (by rfl)) (aa (pB (aR cO (pv 2) (gQ (by rfl) T.ahc) (bf _)) (gQ (by rfl) T.ahc) (gQ (by rfl) T.Pa)) ao))) ao))) ao)))) bB)
   (ak (cu (aR cO (pv 2) (gQ (by rfl) T.Vd) (bf _)) (aB (bM (eX PySem.F.plainAttrs_list PySem.F.slot_list_extend PySem.F.type_list_extend kO (pv 3) (aa (kE (gB (xs := ["desk"]) (ys := ["self","asking"]) (js := [0,1]) rfl (by decide +kernel) (by decide +kernel) (by decide +kernel) (by rfl) ⟨⟨rfl,Or.inl rfl⟩,⟨⟨rfl,Or.inl rfl⟩,trivial⟩⟩) rfl (ux (cL (pv 0) (by rfl))) (fun _ _ _ _ _ => (dg (i := 0) (show List.Nodup ((["desk"] : List Str) ++ (["self","asking"] : List Str) : List Str) by decide +kernel) rfl (Or.inl rfl))) (fun _ _ _ _ _ => (aie (aR z7 (pv 0) (pv 2) (bf _)))) (fun _ _ _ _ _ => (b8 (aa (pv 0) (aa (cG (Ej T) (hr.mono (by decide) : bR 1 _) (by rfl) T.GR T.vX.kp T.GQ .nil bW (aa (anc (K := K) rfl (pv 1) (by rfl)) (aa (gQ (by rfl) T.Pa) ao))) ao))))) ao)))) bB)
   (aB (bj (pv 3)))))))),?_⟩
  try dsimp only [du,Cx.j6]
  show let Z1 : L2.TS := _; let Z2 : L2.TS := _; let Z3 : L2.TS := _; let Z4 : L2.TS := _; let Z5 : L2.TS := cY _ Z4 bJ; let Z6 : L2.TS := _; let Z7 : L2.TS := cY _ Z6 bJ; let Z8 : L2.TS := _; let D0 : Ends := _; (aQ Z1 (aQ Z2 (aQ Z3 (aQ Z5 (aQ Z7 (Z8)))))) D0 _ _
  intro Z1 Z2 Z3 Z4 Z5 Z6 Z7 Z8 D0
  have sl : sizeLine = 16777216 := by decide
  obtain ⟨⟨dx,h1⟩,h2,⟨vs,h3,h4⟩,h5⟩ := id PA
  rw [ha] at h4
  obtain ⟨tt,us,rfl,h6,h7⟩ := Gp h4
  refine ⟨_,rfl,a,_,dx,_,_,rfl,h1,T.aP,T.cX,rH,q,_,0,_,rfl,rfl,cz.of h3,aq0 _ _,tt,_,0,_,rfl,rfl,dq.of h6,rfl,?_⟩
  refine ⟨_,rfl,a,_,dx,_,_,rfl,h1,T.aP,T.cX,rH,q,_,0,_,rfl,rfl,cz.of h3,aq0 _ _,tt,_,1,_,rfl,rfl,dq.of h6,rfl,?_⟩
  refine ⟨CZ,fun bl hb => ?_⟩
  have hbl : g.dH p = pC g p d x ++ pD g p d x := by unfold PG.dH; rw [ha]
  have s0 := aA (o := .lst []) hb
  try dsimp only
  refine fP (fun σ' H' => σ' = [some (.ref a),some (.int d),some (.str x.s),some (.ref bl)]∧bZ H H'∧∃ us,H' bl = some (.lst us)∧us.length≤1∧aG H' us ((pC g p d x).map pairD)) (fun N hN => ?_) ?_
  ·have l0 := s0 a _ h1
   refine ⟨_,rfl,a,_,dx,_,_,rfl,l0,T.aP,T.b7,rP,_,rfl,?_⟩
   cases hw : g.wr with
   | none =>
     refine aO rfl (wJ ?_)
     exact hN _ _ ⟨rfl,s0,[],aj,Nat.zero_le _,by rw [Wt hw]; simp [aG]⟩
   | some wv =>
     have l1 : (Aa p g r q).lookup ("writer" : Str) = some (.int wv) := by rw [rP,hw]; rfl
     refine bF rfl ?_
     refine ⟨_,rfl,a,_,dx,_,_,rfl,l0,T.aP,T.b7,l1,_,rfl,rfl,_,rfl,?_⟩
     by_cases e : wv = d
     ·subst e
      refine aO (by simp) ?_
      exact hN _ _ ⟨rfl,s0,[],aj,Nat.zero_le _,by rw [aaR hw]; simp [aG]⟩
     ·refine bF (by rw [decide_eq_false fun z => e (by have := V.int.inj z; lia)]; rfl) ?_
      have go : ∀ c,(∀ z : Rt,z = low x→c = V.str z.s)→(tBM K "list" J7 (iY 3) (lF (akn (lF (abj K (iY 0) "writer") (lF (ako (aeJ "back") [] E0 (lF (abj K (iY 0) "page") (lF (tC c) Gv))) Gv))) Gv)) [some (.ref a),some (.int d),some (.str x.s),some (.ref bl)] (upd H bl (.lst [])) fun _ H' => N [some (.ref a),some (.int d),some (.str x.s),some (.ref bl)] H' := fun c hcc => by
       obtain rfl := hcc _ rfl
       refine ⟨_,rfl,.inl ⟨rfl,_,cz.of aj⟩,_,rfl,a,_,dx,_,_,rfl,l0,T.aP,T.b7,l1,_,rfl,a,_,dx,_,_,rfl,l0,T.aP,T.fQ,VF,_,_,rfl,fun b hb1 => ?_⟩
       refine ⟨uo,fun cc hc1 => ?_⟩
       have nb : bl≠b := fun z => by rw [← z,aj] at hb1; cases hb1
       have nc : bl≠cc := fun z => by rw [← z,aq nb,aj] at hc1; cases hc1
       have ncb : b≠cc := fun z => by rw [z,aj] at hc1; cases hc1
       refine ⟨bl,[],_,rfl,rfl,(by rw [aq nc,aq nb,aj]),(by show 0 < sizeLine; decide),?_⟩
       refine hN _ _ ⟨rfl,?_,_,aj,Nat.le_refl _,?_⟩
       ·exact fK ((s0.trans (aA hb1)).trans (aA hc1)) hb
       ·rw [QZ hw e]
        simp only [List.map_cons,List.map_nil,aG]
        refine ⟨_,_,rfl,Ir (b := b) (vs := []) (by rw [aq nc.symm,aj]) (by rw [aq nb.symm,aq ncb,aj]),rfl⟩
      rcases hx with hx | hx
      ·subst hx
       have := go (.str "read") (fun z hz => by rw [hz]; rfl)
       obtain ⟨v0,e0,ty,a1⟩ := this
       refine ⟨v0,e0,ty,?_⟩
       obtain ⟨v1,e1,a',C',dx',fs',v',a2⟩ := a1
       obtain ⟨i1,i2,i3,i4,i5,v2,e2,a'',C'',arj,ark,v'',j1,j2,j3,j4,j5,a3⟩ := a2
       refine ⟨v1,e1,a',C',dx',fs',v',i1,i2,i3,i4,i5,v2,e2,a'',C'',arj,ark,v'',j1,j2,j3,j4,j5,?_⟩
       refine ⟨_,rfl,rfl,_,rfl,?_⟩
       exact bF fu a3
      ·subst hx
       have := go (.str "none") (fun z hz => by rw [hz]; rfl)
       obtain ⟨v0,e0,ty,a1⟩ := this
       refine ⟨v0,e0,ty,?_⟩
       obtain ⟨v1,e1,a',C',dx',fs',v',a2⟩ := a1
       obtain ⟨i1,i2,i3,i4,i5,v2,e2,a'',C'',arj,ark,v'',j1,j2,j3,j4,j5,a3⟩ := a2
       refine ⟨v1,e1,a',C',dx',fs',v',i1,i2,i3,i4,i5,v2,e2,a'',C'',arj,ark,v'',j1,j2,j3,j4,j5,?_⟩
       refine ⟨_,rfl,rfl,_,rfl,?_⟩
       exact aO (nC (r := .wr) (x := "read") (q := .rd) rfl (by intro z; cases z)) a3
  ·rintro σ' H1 ⟨rfl,s1,us1,hb1,hl1,rp1⟩
   have l0 := s1 a _ h1
   try dsimp only
   refine fP (fun σ' H' => σ' = [some (.ref a),some (.int d),some (.str x.s),some (.ref bl)]∧bZ H H'∧∃ us,H' bl = some (.lst us)∧aG H' us ((g.dH p).map pairD)) (fun N hN => ?_) ?_
   ·refine ⟨_,rfl,rfl,_,rfl,?_⟩
    rcases hx with hx | hx
    ·subst hx
     refine aO (nC (x := "write") (q := .wr) rfl (by intro z; cases z)) ?_
     refine hN _ _ ⟨rfl,s1,us1,hb1,?_⟩
     rw [hbl]
     have : pD g p d .rd = [] := by unfold pD; rw [if_neg (by intro z; cases z)]
     rw [this,List.append_nil]
     exact rp1
    ·subst hx
     refine bF fu ?_
     refine ⟨_,rfl,.inl ⟨rfl,_,cz.of hb1⟩,?_⟩
     refine ⟨_,rfl,a,_,dx,_,_,rfl,l0,T.aP,T.cU,uB,r,rfl,⟨_,cz.of (s1 _ _ h2)⟩,fun acc hacc => ?_⟩
     have nbl : bl≠acc := aF hb1 hacc
     have axv : bZ H1 (upd H1 acc (.lst [])) := aA hacc
     let PV1 : Nat→List V→St→Hp→Prop := fun i zs σ' H' => (∃ o,σ' = [o,some (.ref a),some (.int d)])∧bZ H1 H'∧H' acc = some (.lst zs)∧zs.length≤i∧aG H' zs ((((g.rd.take i).filter fun e => decide (e≠d)).map fun e => (e,Let.back p .no)).map pairD)
     refine Gk (xs := g.rd.map nV) PV1 ?_ ?_ ?_ ?_
     ·exact ⟨⟨_,rfl⟩,axv,aj,Nat.le_refl _,by simp [aG]⟩
     ·rintro i zs σ' H' _ ⟨_,s',ha',_⟩
      exact ⟨cz.of (s' _ _ (s1 _ _ h2)),ha'⟩
     ·rintro i y zs σ' H' hy hi ⟨⟨o,rfl⟩,s',ha',hz,rp⟩
      rw [List.length_map] at hi
      have hy' : y = .int (g.rd[i] : Nat) := by
       rw [List.getElem?_map,List.getElem?_eq_getElem hi] at hy
       exact (Option.some.inj hy).symm
      subst hy'
      have htk : g.rd.take (i + 1) = g.rd.take i ++ [g.rd[i]] := by rw [List.take_add_one,List.getElem?_eq_getElem hi]; rfl
      refine ⟨_,rfl,_,rfl,rfl,_,rfl,?_⟩
      by_cases e : g.rd[i] = d
      ·refine aO (by rw [e]; simp) (Vz.mk (by rw [List.length_map]; exact hi) ?_)
       refine ⟨⟨_,rfl⟩,s',ha',by lia,?_⟩
       rw [htk,List.filter_append,List.filter_cons_of_neg (by simp [e])]
       simpa using rp
      ·refine bF (by rw [decide_eq_false fun z => e (by have := V.int.inj z; lia)]; rfl) ?_
       refine ⟨_,rfl,_,rfl,a,_,dx,_,_,rfl,s' _ _ l0,T.aP,T.fQ,VF,_,_,rfl,fun b hb2 => ?_⟩
       refine ⟨uo,fun cc hc2 => ?_⟩
       have nb : acc≠b := aF ha' hb2
       have nc : acc≠cc := fun z => by rw [← z,aq nb] at hc2; rw [hc2] at ha'; cases ha'
       have ncb : b≠cc := fun z => by rw [z,aj] at hc2; cases hc2
       have h6' : upd (upd H' b (.tup [.str "back",.int p,.str "none"])) cc (.tup [.int (g.rd[i] : Nat),.ref b]) acc = some (.lst zs) := by rw [aq nc,aq nb]; exact ha'
       have hz2 : zs.length < sizeLine := by lia
       refine wL.mk (by rw [List.length_map]; exact hi) h6' hz2 ?_
       have sup : bZ H' (upd (upd H' b (.tup [.str "back",.int p,.str "none"])) cc (.tup [.int (g.rd[i] : Nat),.ref b])) := (aA hb2).trans (aA hc2)
       refine ⟨⟨_,rfl⟩,?_,aj,by rw [List.length_append]; simp; lia,?_⟩
       ·exact fK (s'.trans sup) hacc
       ·rw [htk,List.filter_append,List.filter_cons_of_pos (by simp [e]),List.filter_nil,List.map_append,List.map_append]
        have tm := jw (vs := zs ++ [.ref cc]) h6'
        refine aG.snoc ((rp.aU (aY sup) (cW _)).aU tm (cW _)) ?_
        exact Ir (b := b) (x := .no) (vs := []) (by rw [aq nc.symm,aj]) (by rw [aq nb.symm,aq ncb,aj]; rfl)
     ·rintro zs σ' H' ⟨_,s',ha',hz,rp⟩
      rw [List.length_map] at hz rp
      rw [List.take_length] at rp
      have hb' := s' _ _ hb1
      refine ⟨bl,acc,us1,zs,rfl,rfl,hb',.inl (cz.of ha'),by lia,?_⟩
      have hbn : H bl = none := hb
      refine hN _ _ ⟨rfl,fK (s1.trans s') hbn,_,aj,?_⟩
      have tm := jw (vs := us1 ++ zs) hb'
      have hrb : pD g p d .wr = (g.rd.filter fun e => decide (e≠d)).map fun e => (e,Let.back p .no) := by unfold pD; rw [if_pos rfl]
      rw [hbl,List.map_append,hrb]
      exact aG.append ((rp1.aU (aY s') (cW _)).aU tm (cW _)) (rp.aU tm (cW _))
   ·rintro σ' H2 ⟨rfl,s2,us2,hb2,rp2⟩
    exact ⟨_,rfl,k bl us2 H2 hb s2 hb2 rp2⟩
end
end iz
namespace iz
open PySem L2
section
variable {P : Program} {w : World} {K : PySem.W.Frag} {mg : Str→Option Value} {base : Heap} {t : JV}
theorem aG.cons_inv {H : Hp} {vs : List V} {d : D} {ds : List D} (h : aG H vs (d :: ds)) : ∃ v r,vs = v :: r∧Rep H v d∧aG H r ds := by simpa only [aG] using h
theorem aG.nil_inv {H : Hp} {vs : List V} (h : aG H vs []) : vs = [] := by simpa only [aG] using h
theorem aG.isEmpty {H : Hp} {vs : List V} {ds : List D} (h : aG H vs ds) : vs.isEmpty = ds.isEmpty := by
 have := h.length
 cases vs <;> cases ds <;> simp_all
theorem fV.yF {C : Addr} {H : Hp} {a r q l : Addr} {p : Nat} {g : PG} {vs : List V} (PA : fV C H a r q p g) (h : H l = some (.lst vs)) : l≠a := by
 obtain ⟨⟨dx,h1⟩,_⟩ := PA
 exact jf h h1 (by intro z; cases z)
theorem fV.wrL {C : Addr} {H : Hp} {a r q l : Addr} {p : Nat} {g : PG} {us vs : List V} (PA : fV C H a r q p g) (h : H l = some (.lst us)) (nr : l≠r) (nq : l≠q) : fV C (upd H l (.lst vs)) a r q p g :=
 PA.keep (jw h) (fun o e => by rw [aq (PA.yF h).symm]; exact e) (fun o e => by rw [aq nr.symm]; exact e) fun o e => by rw [aq nq.symm]; exact e
theorem ajA (g : PG) (p d : Nat) (x : Rt) : (pC g p d x).length≤1 := by
 unfold pC
 split
 ·split <;> simp
 ·simp
theorem Wu (g : PG) (p : Nat) : (g.dH p).length≤g.rd.length + 1 := by
 unfold PG.dH
 split
 ·simp
 ·rename_i a r l _
  rw [List.length_append]
  have h1 := ajA g p a r
  have h2 : (pD g p a r).length≤g.rd.length := by
   unfold pD
   split
   ·rw [List.length_map]; exact List.length_filter_le _ _
   ·simp
  lia
theorem xM : ∀ (k : Nat) (g : PG) (p : Nat),(ou k g p).2.length≤k + g.mu + 1
 | 0,g,p => by simp [ou]
 | k + 1,g,p => by
   rw [ou]
   split
   ·have := xM k g.lent p
    have h2 := g.qR
    have h3 : (g.dX p).length≤1 := by unfold PG.dX; split <;> simp
    simp only [List.length_append]
    lia
   ·have := Wu g p
    simp only
    unfold PG.mu
    lia
theorem PG.xM (g : PG) (p : Nat) : (g.serve p).2.length≤2 * g.mu + 1 := by
 have := iz.xM g.ask.length g p
 unfold PG.serve
 have h2 : g.ask.length≤g.mu := by unfold PG.mu; lia
 lia
theorem tW (T : Txt K w mg t) : cZ P w K mg base n8 3 t.dh t.lq ["self"] (ana t.aD) := by
 refine T.Kv.ok lg (fun vs H Q E h => ?_) (fun cdv A outer s H vs Q E hr h => ?_)
 ·obtain ⟨a,r,q,p,g,rfl,_⟩ := h; rfl
 ·obtain ⟨a,r,q,p,g0,rfl,PA,hrw,Zb,k⟩ := h
  have sl : sizeLine = 16777216 := by decide
  refine ⟨_,(ak (bu (i := 1) lg.nd rfl (Or.inl rfl) (bL ao))
   (ak (Vi PassesOwn.never (Dd (cL (pv 0) (by rfl)) (fun _ => rfl)) (ak (bu (i := 2) lg.nd rfl (Or.inl rfl) (wH (pv 0) T.aP T.qY (rm T) (hr.mono (by decide) : bR 2 _) T.tV .nil bW))
   (ak (cu (Dd (pv 2) (fun _ => rfl)) (ak (fZ (pv 0) (dG dO (by rfl) T.Aj PySem.boot_len (aa (pv 2) ao)) (by rfl))
   (aB (bj (bD lU (pv 1) (pv 2))))) bB)
   (aB (bM (eX PySem.F.plainAttrs_list PySem.F.slot_list_append PySem.F.type_list_append cD (pv 1) (aa (wH (pv 0) T.aP T.uY (uZ T) (hr.mono (by decide) : bR 2 _) T.xJ .nil bW) ao)))))))
   (aB (bj (pv 1))))),?_⟩
  try dsimp only [du,Cx.j6]
  show let Z1 : L2.TS := _; let Z2 : L2.TS := _; let Z3 : L2.TS := _; let Z4 : L2.TS := _; let Z5 : L2.TS := aQ Z3 (Z4); let Z6 : L2.TS := cY _ Z5 bJ; let Z7 : L2.TS := _; let Z8 : L2.TS := aQ Z2 (aQ Z6 (Z7)); let Z9 : L2.TS := abh _ Z8; let Am : L2.TS := _; let D0 : Ends := _; (aQ Z1 (aQ Z9 (Am))) D0 _ _
  intro Z1 Z2 Z3 Z4 Z5 Z6 Z7 Z8 Z9 Am D0
  refine ⟨CZ,fun l hl => ?_⟩
  have nlr : l≠r := (aF PA.rl hl).symm
  have nlq : l≠q := by obtain ⟨_,_,⟨vs,h3,_⟩,_⟩ := PA; exact (aF h3 hl).symm
  refine ⟨fun m σ H1 => ∃ o g r1 vs acc,σ = [some (.ref a),some (.ref l),o]∧(r1 = r∨H r1 = none)∧l≠r1∧fV t.aD H1 a r1 q p g∧PF H H1 a r q∧H1 l = some (.lst vs)∧aG H1 vs (acc.map pairD)∧Rw g.ask∧g.mu≤1000000∧acc.length + g.ask.length≤g0.ask.length∧
   (g0.serve p).1 = (g.serve p).1∧(g0.serve p).2 = acc ++ (g.serve p).2∧m = g.ask.length,⟨_,none,g0,r,[],[],rfl,.inl rfl,nlr,PA.new hl,PF.new hl,aj,by simp [aG],hrw,Zb,by simp,rfl,by simp,rfl⟩,?_⟩
  rintro m σ H1 ⟨o,g,r1,vs,acc,rfl,hr1,nl1,P1,f1,hl1,rp,rw1,mu1,Kh,se1,se2,rfl⟩
  have ay3 : g0.ask.length≤1000000 := by unfold PG.mu at Zb; lia
  have hvl : vs.length = acc.length := by rw [rp.length,List.length_map]
  obtain ⟨⟨dx,h1⟩,h2,⟨us,h3,h4⟩,h5⟩ := id P1
  refine ⟨_,rfl,a,_,dx,_,_,rfl,h1,T.aP,T.cX,rH,_,.inl ⟨us,cz.of h3,rfl⟩,?_⟩
  cases v5 : g.ask with
  | nil =>
    rw [v5] at h4
    have := aG.nil_inv (by simpa using h4)
    subst this
    refine aO rfl ?_
    refine ⟨_,rfl,k l r1 vs H1 hl hr1 nl1 ?_ f1 hl1 ?_⟩
    ·rw [se1,Gm v5]; exact P1
    ·rw [se2,Gm v5,List.append_nil]; exact rp
  | cons x0 q0 =>
    obtain ⟨d,x⟩ := x0
    have hx : x = .rd∨x = .wr := rw1 (d,x) (by rw [v5]; simp)
    have hne : g.ask≠[] := by rw [v5]; simp
    have hlen : us.length = g.ask.length := by rw [h4.length,List.length_map]
    have ala : g.rd.length≤1000000 := by unfold PG.mu at mu1; lia
    refine bF (by cases us with | nil => rw [v5] at hlen; simp at hlen | cons _ _ => rfl) ?_
    refine ⟨fun σ' H' => ∃ m',m' < q0.length + 1∧∃ o g r1 vs acc,σ' = [some (.ref a),some (.ref l),o]∧(r1 = r∨H r1 = none)∧l≠r1∧fV t.aD H' a r1 q p g∧PF H H' a r q∧H' l = some (.lst vs)∧aG H' vs (acc.map pairD)∧Rw g.ask∧g.mu≤1000000∧acc.length + g.ask.length≤g0.ask.length∧
     (g0.serve p).1 = (g.serve p).1∧(g0.serve p).2 = acc ++ (g.serve p).2∧m' = g.ask.length,fun σ' H' z => z,?_⟩
    refine ⟨_,rfl,a,dx,_,rfl,h1,akU,a,r1,q,p,g,d,x,q0,rfl,P1,v5,hx,ala,fun b bs H2 hb s2 hb2 rpb => ?_⟩
    have P2 := P1.same s2
    have hl2 := s2 _ _ hl1
    have nbl : b≠l := (aF hl1 hb).symm
    obtain ⟨⟨dx2,g1⟩,_⟩ := id P2
    have hbl : bs.length = (g.dH p).length := by rw [rpb.length,List.length_map]
    refine ⟨_,rfl,_,.inl ⟨bs,cz.of hb2,rfl⟩,?_⟩
    by_cases he : g.dH p = []
    ·have e0 : bs = [] := by rw [he] at hbl; exact List.length_eq_zero_iff.mp hbl
     subst e0
     refine aO rfl ?_
     refine ⟨_,rfl,.inl ⟨rfl,_,cz.of hl2⟩,_,rfl,a,dx2,_,rfl,g1,aeM,a,r1,q,p,g,d,x,q0,rfl,P2,v5,hx,ala,fun v r2 H3 hr2 P3 f3 rv => ?_⟩
     have nq : l≠q := nlq
     have hl3 : H3 l = some (.lst vs) := f3.kp l _ hl2 (P2.yF hl2) nl1 nq
     have nl2 : l≠r2 := by
      rcases hr2 with z | z
      ·rw [z]; exact nl1
      ·exact aF hl2 z
     have t3 := f3.tups P2
     refine ⟨l,vs,v,rfl,rfl,hl3,by lia,?_⟩
     refine ⟨_,?_,_,g.lent,r2,vs ++ [v],acc ++ [(d,.lend p x g.num)],rfl,?_,nl2,P3.wrL hl3 nl2 nq,?_,aj,?_,?_,Nat.le_trans g.qR mu1,?_,?_,?_,rfl⟩
     ·rw [PG.Di,v5]; simp
     ·rcases hr2 with z | z
      ·rw [z]; exact hr1
      ·exact .inr (f1.lv _ (Lv.same s2 _ z))
     ·refine ⟨fun b' o' e' h1' h2' h3' => ?_,f1.lv.trans ((Lv.same s2).trans (f3.lv.trans Lv.upd))⟩
      have e2' := s2 _ _ (f1.kp b' o' e' h1' h2' h3')
      have e3' := f3.kp b' o' e2' h1' (by
       rcases hr1 with z | z
       ·rw [z]; exact h2'
       ·exact aF e' z) h3'
      rw [aq (aF e' hl)]
      exact e3'
     ·rw [List.map_append]
      exact aG.snoc (((rp.aU (aY s2) (cW _)).aU t3 (cW _)).aU (jw hl3) (cW _)) (rv.aU (jw hl3) (by simp [pairD,D.flat,D.flats]; exact Let.flat _))
     ·have : g.lent.ask = q0 := by unfold PG.lent; rw [v5]; dsimp only; split <;> rfl
      rw [this]
      intro y hy
      exact rw1 y (by rw [v5]; exact List.mem_cons_of_mem _ hy)
     ·rw [PG.Di,v5,List.length_append]
      rw [v5] at Kh
      simp at Kh ⊢
      lia
     ·rw [se1,yE hne he]
     ·rw [se2,yE hne he]
      have : g.dX p = [(d,.lend p x g.num)] := by unfold PG.dX; rw [v5]
      rw [this,List.append_assoc]
    ·refine bF (by cases bs with | nil => exact absurd (List.length_eq_zero_iff.mp hbl.symm) he | cons _ _ => rfl) ?_
     refine ⟨_,rfl,b,bs,rfl,.inl (cz.of hb2),_,rfl,a,_,dx2,_,rfl,g1,T.aP,T.dZ,uC,?_⟩
     rw [aeL]
     have P3 := P2.wr (dx := dx2) (g' := { g with miss := (bs.length : Int) }) rfl rfl
     have hl3 : upd H2 a (.ins t.aD dx2 (Aa p { g with miss := (bs.length : Int) } r1 q)) l = some (.lst vs) := by rw [aq (P2.yF hl2)]; exact hl2
     have hb3 : upd H2 a (.ins t.aD dx2 (Aa p { g with miss := (bs.length : Int) } r1 q)) b = some (.lst bs) := by rw [aq (P2.yF hb2)]; exact hb2
     have t3 : bY H2 (upd H2 a (.ins t.aD dx2 (Aa p { g with miss := (bs.length : Int) } r1 q))) := fun b' xs e => by rw [aq (jf e g1 (by intro z; cases z))]; exact e
     have bl2 := Wu g p
     refine ⟨_,rfl,_,rfl,l,b,vs,bs,rfl,rfl,hl3,hb3,by lia,fun c hc => ?_⟩
     have hcl : H c = none := f1.lv _ (Lv.same s2 _ (Lv.upd _ hc))
     refine k c r1 (vs ++ bs) _ hcl hr1 ?_ ?_ ?_ aj ?_
     ·exact (aF P3.rl hc).symm
     ·rw [se1,Gn hne he,← hbl]; exact P3.new hc
     ·refine ⟨fun b' o' e' h1' h2' h3' => ?_,f1.lv.trans ((Lv.same s2).trans (Lv.upd.trans Lv.upd))⟩
      have e2' := s2 _ _ (f1.kp b' o' e' h1' h2' h3')
      rw [aq (aF e' hcl),aq h1']
      exact e2'
     ·rw [se2,Gn hne he,List.map_append]
      have tc := aY (aA (o := .lst (vs ++ bs)) hc)
      exact aG.append (((rp.aU (aY s2) (cW _)).aU t3 (cW _)).aU tc (cW _)) ((rpb.aU t3 (cW _)).aU tc (cW _))
theorem zu (T : Txt K w mg t) : cZ P w K mg base n8 1 t.cI t.jb ["self","desk","number"] (aqZ t.aD) := by
 refine T.Bv.ok yN (fun vs H Q E h => ?_) (fun cdv A outer s H vs Q E hr h => ?_)
 ·obtain ⟨a,r,q,p,g,d,n,rfl,_⟩ := h; rfl
 ·obtain ⟨a,r,q,p,g,d,n,rfl,PA,k⟩ := h
  refine ⟨_,(ak (fZ (pv 0) (pv 2) (by rfl))
   (ak (cu (aR cO (cL (pv 0) (by rfl)) (pv 1) (bf _)) (aB (fZ (pv 0) rK (by rfl))) bB)
   (aB (bj (bL ao))))),?_⟩
  try dsimp only [du,Cx.j6]
  show let Z1 : L2.TS := _; let Z2 : L2.TS := _; let Z3 : L2.TS := cY _ Z2 bJ; let Z4 : L2.TS := _; let D0 : Ends := _; (aQ Z1 (aQ Z3 (Z4))) D0 _ _
  intro Z1 Z2 Z3 Z4 D0
  obtain ⟨⟨dx,h1⟩,_⟩ := id PA
  refine ⟨_,rfl,_,rfl,a,_,dx,_,rfl,h1,T.aP,T.eV,uC,?_⟩
  rw [ail]
  have P1 := PA.wr (dx := dx) (g' := { g with num := n }) rfl rfl
  have f1 : PF H (upd H a (.ins t.aD dx (Aa p { g with num := n } r q))) a r q := PF.wr
  generalize upd H a (.ins t.aD dx (Aa p { g with num := n } r q)) = H1 at P1 f1
  try dsimp only [bJ]
  refine fP (fun σ' H' => σ' = [some (.ref a),some (.int d),some (.int n)]∧fV t.aD H' a r q p { g with num := n,wr := if g.wr = some d then none else g.wr }∧PF H H' a r q) (fun N hN => ?_) ?_
  ·obtain ⟨⟨yo,g1⟩,_⟩ := id P1
   have sc : aqc (wrV g.wr) (.int d) = true := by cases g.wr <;> rfl
   refine ⟨_,rfl,a,_,yo,_,_,rfl,g1,T.aP,T.b7,rP,_,rfl,sc,_,rfl,?_⟩
   by_cases e : g.wr = some d
   ·refine bF (by show decide (wrV g.wr = V.int d) = true; rw [e]; exact decide_eq_true rfl) ?_
    refine ⟨_,rfl,a,_,yo,_,rfl,g1,T.aP,T.b7,uC,?_⟩
    rw [aim]
    refine hN _ _ ⟨rfl,?_,f1.trans PF.wr⟩
    rw [if_pos e]
    exact P1.wr rfl rfl
   ·refine aO (decide_eq_false fun z => e ?_) ?_
    ·cases hw : g.wr with
     | none => rw [hw] at z; cases z
     | some x => rw [hw] at z; have := V.int.inj z; exact congrArg some (by lia)
    ·refine hN _ _ ⟨rfl,?_,f1⟩
     rw [if_neg e]
     exact P1
  ·rintro σ' H2 ⟨rfl,P2,f2⟩
   refine ⟨CZ,fun l hl => ?_⟩
   exact k l r [] _ (f2.lv _ hl) (.inl rfl) (aF P2.rl hl).symm (P2.new hl) (f2.trans (PF.new hl)) aj (by simp [PG.take,aG])
theorem BL (T : Txt K w mg t) : cZ P w K mg base n8 4 t.cM t.jn ["self","desk","right"] (auf t.aD) := by
 refine T.Eb.ok Bq (fun vs H Q E h => ?_) (fun cdv A outer s H vs Q E hr h => ?_)
 ·obtain ⟨a,r,q,p,g,x,d,rfl,_⟩ := h; rfl
 ·obtain ⟨a,r,q,p,g,x,d,rfl,PA,hx,hrw,Zb,k⟩ := h
  have sl : sizeLine = 16777216 := by decide
  refine ⟨_,(ak (bM (eX PySem.F.plainAttrs_list PySem.F.slot_list_append PySem.F.type_list_append cD (cL (pv 0) (by rfl)) (aa (b8 (aa (pv 1) (aa (pv 2) ao))) ao)))
   (aB (bj (pB (aR cO (dG dO (by rfl) T.Aj PySem.boot_len (aa (cL (pv 0) (by rfl)) ao)) az (bf _)) (wH (pv 0) T.aP T.tR (tW T) (hr.mono (by decide) : bR 3 _) T.uX .nil bW) (bL ao))))),?_⟩
  try dsimp only [du,Cx.j6]
  show let Z1 : L2.TS := _; let Z2 : L2.TS := _; let D0 : Ends := _; (aQ Z1 (Z2)) D0 _ _
  intro Z1 Z2 D0
  obtain ⟨⟨dx,h1⟩,h2,⟨vs,h3,h4⟩,h5⟩ := id PA
  have hvl : vs.length = g.ask.length := by rw [h4.length,List.length_map]
  have hal : g.ask.length≤900000 := by unfold PG.mu at Zb; lia
  refine ⟨_,rfl,a,_,dx,_,_,rfl,h1,T.aP,T.cX,rH,.inl ⟨rfl,_,cz.of h3⟩,_,rfl,_,rfl,uo,fun tt ht => ?_⟩
  have s1 := aA (o := .tup [.int d,.str x.s]) ht
  refine ⟨q,vs,_,rfl,rfl,s1 _ _ h3,by lia,?_⟩
  have rp : aG (upd H tt (.tup [.int d,.str x.s])) (vs ++ [.ref tt]) ((g.ask ++ [(d,x)]).map Bp) := by
   rw [List.map_append]
   refine aG.snoc (h4.aU (aY s1) (jU _)) ?_
   simp only [Bp,Rep,aG]
   exact ⟨tt,_,rfl,aj,_,_,rfl,rfl,_,_,rfl,rfl,rfl⟩
  have P1 := (PA.same s1).wrQ (l := g.ask ++ [(d,x)]) rp
  have f1 : PF H (upd (upd H tt (.tup [.int d,.str x.s])) q (.lst (vs ++ [.ref tt]))) a r q := (PF.new ht).trans PF.wrQ
  generalize upd (upd H tt (.tup [.int d,.str x.s])) q (.lst (vs ++ [.ref tt])) = H1 at P1 f1
  obtain ⟨⟨yo,g1⟩,_,⟨us,g3,g4⟩,_⟩ := id P1
  have hul : us.length = g.ask.length + 1 := by rw [g4.length,List.length_map]; simp
  refine ⟨_,rfl,a,_,yo,_,_,rfl,g1,T.aP,T.cX,rH,q,us,rfl,.inl (cz.of g3),rfl,_,rfl,?_⟩
  by_cases e : g.ask = []
  ·refine bF (decide_eq_true (by rw [hul,e]; rfl)) ?_
   refine ⟨_,rfl,a,yo,_,rfl,g1,aaJ,a,r,q,p,_,rfl,P1,?_,?_,fun l r' ws H' hl hr' nl P' f' hl' rp' => ?_⟩
   ·intro y hy
    rcases List.mem_append.mp hy with hy | hy
    ·exact hrw y hy
    ·have : y = (d,x) := by simpa using hy
     rw [this]; exact hx
   ·unfold PG.mu at Zb ⊢; simp; lia
   ·have ek : g.take p d (.ask p x) = PG.serve { g with ask := g.ask ++ [(d,x)] } p := by simp only [PG.take]; rw [if_pos e,e]; rfl
    refine k l r' ws H' (f1.lv _ hl) ?_ nl ?_ (f1.trans f') hl' ?_
    ·rcases hr' with z | z
     ·exact .inl z
     ·exact .inr (f1.lv _ z)
    ·rw [ek]; exact P'
    ·rw [ek]; exact rp'
  ·refine aO (decide_eq_false ?_) ?_
   ·intro z
    have z1 := V.int.inj z
    have : g.ask.length≠0 := fun y => e (List.length_eq_zero_iff.mp y)
    lia
   refine ⟨CZ,fun l hl => ?_⟩
   have ek : g.take p d (.ask p x) = ({ g with ask := g.ask ++ [(d,x)] },[]) := by simp only [PG.take]; rw [if_neg e]
   exact k l r [] _ (f1.lv _ hl) (.inl rfl) (aF P1.rl hl).symm (by rw [ek]; exact P1.new hl) (f1.trans (PF.new hl)) aj (by rw [ek]; simp [aG])
theorem v7 (T : Txt K w mg t) : cZ P w K mg base n8 4 t.cB t.iB ["self","number"] (auh t.aD) := by
 refine T.xG.ok vP (fun vs H Q E h => ?_) (fun cdv A outer s H vs Q E hr h => ?_)
 ·obtain ⟨a,r,q,p,g,o,d,rfl,_⟩ := h; rfl
 ·obtain ⟨a,r,q,p,g,o,d,rfl,PA,hms,hrw,Zb,k⟩ := h
  have sl : sizeLine = 16777216 := by decide
  refine ⟨_,(ak (cu (vD (ur (pv 1))) (aB (fZ (pv 0) (pv 1) (by rfl))) bB)
   (ak (ai8 (pv 0) az aqe)
   (ak (cu (aR z7 (cL (pv 0) (by rfl)) az (bf _)) (aB (bj (bL ao))) bB)
   (aB (bj (bD lU (bL (aa (wH (pv 0) T.aP T.uY (uZ T) (hr.mono (by decide) : bR 2 _) T.xJ .nil bW) ao)) (wH (pv 0) T.aP T.tR (tW T) (hr.mono (by decide) : bR 3 _) T.uX .nil bW))))))),?_⟩
  try dsimp only [du,Cx.j6]
  show let Z1 : L2.TS := _; let Z2 : L2.TS := cY _ Z1 bJ; let Z3 : L2.TS := _; let Z4 : L2.TS := _; let Z5 : L2.TS := cY _ Z4 bJ; let Z6 : L2.TS := _; let D0 : Ends := _; (aQ Z2 (aQ Z3 (aQ Z5 (Z6)))) D0 _ _
  intro Z1 Z2 Z3 Z4 Z5 Z6 D0
  try dsimp only [bJ]
  refine fP (fun σ' H' => σ' = [some (.ref a),some (oV o)]∧fV t.aD H' a r q p { g with num := o.getD g.num }∧PF H H' a r q) (fun N hN => ?_) ?_
  ·obtain ⟨⟨dx,h1⟩,_⟩ := id PA
   refine ⟨_,rfl,_,rfl,?_⟩
   cases o with
   | none =>
     refine aO rfl ?_
     exact hN _ _ ⟨rfl,PA,PF.refl _ _ _ _⟩
   | some n =>
     refine bF rfl ?_
     refine ⟨_,rfl,_,rfl,a,_,dx,_,rfl,h1,T.aP,T.eV,uC,?_⟩
     show N _ (upd H a (.ins _ dx (fW "number" (.int n) _)))
     rw [ail]
     exact hN _ _ ⟨rfl,PA.wr rfl rfl,PF.wr⟩
  ·rintro σ' H1 ⟨rfl,P1,f1⟩
   obtain ⟨⟨dx,h1⟩,_⟩ := id P1
   refine ⟨_,rfl,a,_,dx,_,_,rfl,h1,T.aP,T.dZ,QQ,_,_,rfl,rfl,dx,_,h1,uC,?_⟩
   rw [aeL]
   have P2 := P1.wr (dx := dx) (g' := { g with num := o.getD g.num,miss := g.miss - 1 }) rfl rfl
   have f2 : PF H (upd H1 a (.ins t.aD dx (Aa p { g with num := o.getD g.num,miss := g.miss - 1 } r q))) a r q := f1.trans PF.wr
   generalize upd H1 a (.ins t.aD dx (Aa p { g with num := o.getD g.num,miss := g.miss - 1 } r q)) = H2 at P2 f2
   generalize hg : ({ g with num := o.getD g.num,miss := g.miss - 1 } : PG) = g2 at P2
   have hga : g2.ask = g.ask := by rw [← hg]
   have hgr : g2.rd = g.rd := by rw [← hg]
   have hgm : g2.miss = g.miss - 1 := by rw [← hg]
   obtain ⟨⟨dx2,g1⟩,_⟩ := id P2
   refine ⟨_,rfl,a,_,dx2,_,_,rfl,g1,T.aP,T.dZ,QQ,rfl,_,rfl,?_⟩
   have ek : g.take p d (.ans p o) = if g.miss - 1 = 0 then ((g2.lent.serve p).1,g2.dX p ++ (g2.lent.serve p).2) else (g2,[]) := by simp only [PG.take]; rw [hg]
   by_cases e : g.miss - 1 = 0
   ·refine aO (by rw [hgm,e]; rfl) ?_
    rw [if_pos e] at ek
    cases v5 : g2.ask with
    | nil => exact absurd (hga▸v5) (hms e)
    | cons x0 q0 =>
      obtain ⟨d0,x⟩ := x0
      have hx : x = .rd∨x = .wr := hrw (d0,x) (by rw [← hga,v5]; simp)
      have hrl : g2.rd.length≤1000000 := by rw [hgr]; unfold PG.mu at Zb; lia
      refine ⟨_,rfl,a,dx2,_,rfl,g1,aeM,a,r,q,p,g2,d0,x,q0,rfl,P2,v5,hx,hrl,fun v r1 H3 hr1 P3 f3 rv => ?_⟩
      refine ⟨zz1,fun l1 hl1 => ?_⟩
      have P4 := P3.new (o := .lst [v]) hl1
      have f4 : PF H2 (upd H3 l1 (.lst [v])) a r q := f3.trans (PF.new hl1)
      have nl1 : l1≠r1 := (aF P3.rl hl1).symm
      have nq1 : l1≠q := by obtain ⟨_,_,⟨us,g3,_⟩,_⟩ := P3; exact (aF g3 hl1).symm
      have hv1 : upd H3 l1 (.lst [v]) l1 = some (.lst [v]) := aj
      have rv1 := Rep.aU (aY (aA (o := .lst [v]) hl1)) (show (pairD (d0,.lend p x g2.num)).flat by simp only [pairD,D.flat,D.flats]; exact ⟨trivial,Let.flat _,trivial⟩) rv
      have aAs := f3.lv _ hl1
      generalize upd H3 l1 (.lst [v]) = H4 at P4 f4 hv1 rv1
      obtain ⟨⟨dx4,k1⟩,_⟩ := id P4
      have hla : g2.lent.ask = q0 := by unfold PG.lent; rw [v5]; dsimp only; split <;> rfl
      refine ⟨_,rfl,a,dx4,_,rfl,k1,aaJ,a,r1,q,p,_,rfl,P4,?_,?_,fun l r' ws H5 hl hr' nl P5 f5 hl5 rp5 => ?_⟩
      ·rw [hla]; intro y hy; exact hrw y (by rw [← hga,v5]; exact List.mem_cons_of_mem _ hy)
      ·refine Nat.le_trans g2.qR ?_
       unfold PG.mu at Zb ⊢; rw [hga,hgr]; lia
      ·have axx : H5 l1 = some (.lst [v]) := f5.kp l1 _ hv1 (P4.yF hv1) nl1 nq1
       have wl : ws.length≤3000000 := by
        rw [rp5.length,List.length_map]
        have h8 := g2.lent.xM p
        have h9 := g2.qR
        have h10 : g2.mu≤900000 := by unfold PG.mu at Zb ⊢; rw [hga,hgr]; lia
        lia
       refine ⟨l1,l,[v],ws,rfl,rfl,axx,hl5,(by simp only [List.length_singleton]; lia),fun c hc => ?_⟩
       have fr1 : r1 = r∨H r1 = none := by
        rcases hr1 with z | z
        ·exact .inl z
        ·exact .inr (f2.lv _ z)
       refine k c r' ([v] ++ ws) _ (f2.lv _ (f4.lv _ (f5.lv _ hc))) ?_ (aF P5.rl hc).symm (by rw [ek]; exact P5.new hc) ((f2.trans f4).trans' (f5.trans' (PF.new hc) hr') fr1) aj ?_
       ·rcases hr' with z | z
        ·rw [z]; exact fr1
        ·exact .inr (f2.lv _ (f4.lv _ z))
       ·rw [ek]
        have h11 : g2.dX p = [(d0,.lend p x g2.num)] := by unfold PG.dX; rw [v5]
        rw [h11,List.map_append]
        have tc := aY (aA (o := .lst ([v] ++ ws)) hc)
        refine aG.append ?_ (rp5.aU tc (cW _))
        simp only [List.map_cons,List.map_nil,aG]
        have hfl : (pairD (d0,.lend p x g2.num)).flat := by simp only [pairD,D.flat,D.flats]; exact ⟨trivial,Let.flat _,trivial⟩
        exact ⟨v,[],rfl,Rep.aU tc hfl (Rep.aU (f5.tups P4) hfl rv1),rfl⟩
   ·refine bF (by rw [hgm]; rw [decide_eq_false fun z => e (V.int.inj z)]; rfl) ?_
    rw [if_neg e] at ek
    refine ⟨CZ,fun l hl => ?_⟩
    exact k l r [] _ (f2.lv _ hl) (.inl rfl) (aF P2.rl hl).symm (by rw [ek]; exact P2.new hl) (f2.trans (PF.new hl)) aj (by rw [ek]; simp [aG])
end
end iz
namespace iz
open PySem L2
section
variable {P : Program} {w : World} {K : PySem.W.Frag} {mg : Str→Option Value} {base : Heap} {t : JV}
theorem ab1 (T : Txt K w mg t) : cZ P w K mg base n8 5 t.ik t.za ["self","desk","letter"] (agY t.gM t.aD) := by
 refine T.ae9.ok Ko (fun vs H Q E h => ?_) (fun cdv A outer s H vs Q E hr h => ?_)
 ·obtain ⟨A,m,G,b,l,d,rfl,_⟩ := h; rfl
 ·obtain ⟨A0,m,G,b,l,d,rfl,HA,hb,hp,hg,hrw,Zb,k⟩ := h
  refine ⟨_,(ak (bu (i := 3) Ko.nd rfl (Or.inl rfl) (aL bA (cL (pv 0) (by rfl)) (aL bw (pv 2) az (fun _ _ => rfl)) (fun _ _ => rfl)))
   (ak (cu (aR cO (aL bw (pv 2) az (fun _ _ => rfl)) aC (bf _)) (aB (bj (cC (pv 3) T.aP T.Bu (BL T) (hr.mono (by decide) : bR 4 _) T.Ec .nil bW (aa (pv 1) (aa (aL bw (pv 2) az (fun _ _ => rfl)) ao))))) bB)
   (ak (cu (aR cO (aL bw (pv 2) az (fun _ _ => rfl)) aC (bf _)) (aB (bj (cC (pv 3) T.aP T.vY (v7 T) (hr.mono (by decide) : bR 4 _) T.xH .nil bW (aa (aL bw (pv 2) az (fun _ _ => rfl)) ao)))) bB)
   (aB (bj (cC (pv 3) T.aP T.zm (zu T) (hr.mono (by decide) : bR 1 _) T.Bw .nil bW (aa (pv 1) (aa (aL bw (pv 2) az (fun _ _ => rfl)) ao)))))))),?_⟩
  try dsimp only [du,Cx.j6]
  show let Z1 : L2.TS := _; let Z2 : L2.TS := _; let Z3 : L2.TS := cY _ Z2 bJ; let Z4 : L2.TS := _; let Z5 : L2.TS := cY _ Z4 bJ; let Z6 : L2.TS := _; let D0 : Ends := _; (aQ Z1 (aQ Z3 (aQ Z5 (Z6)))) D0 _ _
  intro Z1 Z2 Z3 Z4 Z5 Z6 D0
  obtain ⟨dx,h1⟩ := HA.ob
  have hpl := HA.pl
  have PA := HA.pg l.pg hp
  obtain ⟨⟨yo,g1⟩,_⟩ := id PA
  refine ⟨_,rfl,A0 .hall,_,dx,_,_,rfl,h1,T.aha,T.pA,ajo,zt rfl (dq.of hb) (UL.at1 l) ⟨A0 .pages,_,_,_,rfl,rfl,cz.of hpl,bK hp,?_⟩⟩
  have fin : ∀ lst r' vs H',H lst = none→(r' = A0 (.iD l.pg)∨H r' = none)→lst≠r'→fV t.aD H' (A0 (.f9 l.pg)) r' (A0 (.jx l.pg)) l.pg ((G l.pg).take l.pg d l).1→PF H H' (A0 (.f9 l.pg)) (A0 (.iD l.pg)) (A0 (.jx l.pg))→H' lst = some (.lst vs)→aG H' vs (((G l.pg).take l.pg d l).2.map pairD)→Q (.ref lst) H' := fun lst r' vs H' hl hr' nl P' f' hl' rp => by
   obtain ⟨HA',hf⟩ := HA.page hp P' f' hr'
   refine k lst _ vs H' hl HA' hf (fun x hx => ?_) (fun x hx => ?_) (bH _ _ (by intro z; cases z)) hl' rp
   ·by_cases e : x = .iD l.pg
    ·rw [e,cV]; exact hr'
    ·rw [bH _ _ e]; exact .inl rfl
   ·by_cases e : x = .iD l.pg
    ·rw [e,cV]; exact nl
    ·rw [bH _ _ e]
     intro z
     obtain ⟨o,e1,_⟩ := HA.live x hx
     rw [← z,hl] at e1; cases e1
  cases l with
  | ask p x =>
    refine zt rfl (dq.of hb) rfl ⟨rfl,_,rfl,?_⟩
    refine bF fu ?_
    refine ⟨_,rfl,_,yo,_,rfl,g1,aqS,_,rfl,zt rfl (dq.of hb) rfl ⟨_,_,_,p,G p,x,d,rfl,PA,hg,hrw,Zb,fun lst r' vs H' hl hr' nl P' f' hl' rp => fin lst r' vs H' hl hr' nl P' f' hl' rp⟩⟩
  | ans p o =>
    refine zt rfl (dq.of hb) rfl ⟨rfl,_,rfl,?_⟩
    refine aO (c7 (by decide +kernel)) ?_
    refine zt rfl (dq.of hb) rfl ⟨rfl,_,rfl,?_⟩
    refine bF fu ?_
    refine ⟨_,rfl,_,yo,_,rfl,g1,aqT,zt rfl (dq.of hb) rfl ⟨_,_,_,p,G p,o,d,rfl,PA,hg,hrw,Zb,fun lst r' vs H' hl hr' nl P' f' hl' rp => fin lst r' vs H' hl hr' nl P' f' hl' rp⟩⟩
  | gave p n =>
    refine zt rfl (dq.of hb) rfl ⟨rfl,_,rfl,?_⟩
    refine aO (c7 (by decide +kernel)) ?_
    refine zt rfl (dq.of hb) rfl ⟨rfl,_,rfl,?_⟩
    refine aO (c7 (by decide +kernel)) ?_
    refine ⟨_,rfl,_,yo,_,rfl,g1,aqU,_,rfl,zt rfl (dq.of hb) rfl ⟨_,_,_,p,G p,d,n,rfl,PA,fun lst r' vs H' hl hr' nl P' f' hl' rp => fin lst r' vs H' hl hr' nl P' f' hl' rp⟩⟩
theorem ab2 (T : Txt K w mg t) : cZ P w K mg base n8 3 t.ig t.yZ ["self","numbers"] (ag0 t.gM t.aD) := by
 refine T.ae7.ok abC (fun vs H Q E h => ?_) (fun cdv A outer s H vs Q E hr h => ?_)
 ·obtain ⟨h,dx,l,ns,rfl,_⟩ := h; rfl
 ·obtain ⟨h,dx,l,ns,rfl,hh,hl,hns,k⟩ := h
  have sl : sizeLine = 16777216 := by decide
  refine ⟨_,(aB (fZ (pv 0) (kE (gB (xs := ["page","number"]) (ys := []) (js := []) rfl (by decide +kernel) (by decide +kernel) (by decide +kernel) (by rfl) trivial) rfl (am1 (by rfl) T.afm (aa (pv 1) ao)) (fun _ _ _ _ _ => (ane (K := K) (n := 2) rfl rfl (iG (dg (i := 0) (show List.Nodup ((["page","number"] : List Str) ++ ([] : List Str) : List Str) by decide +kernel) rfl (Or.inl rfl)) (iG (dg (i := 1) (show List.Nodup ((["page","number"] : List Str) ++ ([] : List Str) : List Str) by decide +kernel) rfl (Or.inl rfl)) Gi)))) (fun _ _ _ _ _ => lW) (fun _ _ _ _ _ => (abk T.zj (La T) (hr.mono (by decide) : bR 2 _) (by rfl) T.aeY T.O5 .nil bW (aa (pv 0) (aa (pv 1) ao))))) (by rfl))),?_⟩
  try dsimp only [du,Cx.j6]
  refine ⟨_,rfl,l,rfl,⟨_,cz.of hl⟩,fun acc hacc => ?_⟩
  have nha : h≠acc := aF hh hacc
  refine ajn (xs := ns.map V.int) (fun i zs σ' H' => (∃ o1 o2,σ' = [o1,o2])∧bZ H H'∧H' acc = some (.lst zs)∧∃ A : Hb→Addr,A .pages = acc∧A .hall = h∧(∀ x y : Hb,x.ok i→y.ok i→A x = A y→x = y)∧(∀ x : Hb,x.ok i→x≠.hall→H (A x) = none)∧zs = (List.range i).map (fun p => V.ref (A (.f9 p)))∧
   ∀ p,p < i→fV t.aD H' (A (.f9 p)) (A (.iD p)) (A (.jx p)) p (pg0 ns p)) ?_ ?_ ?_ ?_
  ·refine ⟨⟨_,_,rfl⟩,aA hacc,aj,fun x => if x = .hall then h else acc,rfl,rfl,?_,?_,rfl,fun p hp => absurd hp (Nat.not_lt_zero _)⟩
   ·intro x y hx hy e
    cases x <;> cases y <;> first
     | rfl
     | (exfalso; exact absurd hx (Nat.not_lt_zero _))
     | (exfalso; exact absurd hy (Nat.not_lt_zero _))
     | (exfalso; simp at e; exact nha e)
     | (exfalso; simp at e; exact nha e.symm)
   ·intro x hx hn
    show H (if x = .hall then h else acc) = none
    rw [if_neg hn]; exact hacc
  ·rintro i zs σ' H' _ ⟨_,s',ha',_⟩
   exact ⟨cz.of (s' _ _ hl),ha'⟩
  ·rintro i y zs σ' H' b hy hi ⟨⟨o1,o2,rfl⟩,s',ha',A,eA,eh,inj,fr,rfl,pgs⟩ hb
   rw [List.length_map] at hi
   have hy' : y = .int ns[i] := by
    rw [List.getElem?_map,List.getElem?_eq_getElem hi] at hy
    exact (Option.some.inj hy).symm
   subst hy'
   refine ⟨b,_,rfl,dq.of aj,rfl,_,_,rfl,_,_,rfl,rfl,?_⟩
   refine aif ?_
   refine ⟨_,rfl,_,rfl,fun x dx' hx hdx nx => ?_⟩
   have hx0 : H' x = none := Lv.upd _ hx
   have axy : H' dx' = none := Lv.upd _ hdx
   refine ⟨x,dx',i,ns[i],rfl,aj,fun r q H3 hr3 hq3 P3 f3 lv3 => ⟨rfl,?_⟩⟩
   have fb : ∀ c o,H' c = some o→H3 c = some o := fun c o e => by
    refine f3 c o ?_ (aF e hx0)
    rw [aq (aF e hx0),aq (aF e axy),aq (aF e hb)]
    exact e
   have hr0 : H' r = none := Lv.upd _ (Lv.upd _ (Lv.upd _ hr3))
   have hq0 : H' q = none := Lv.upd _ (Lv.upd _ (Lv.upd _ hq3))
   have ha3 := fb _ _ ha'
   have live : ∀ z : Hb,z.ok i→∃ o,H' (A z) = some o := fun z hz => by
    cases z with
    | hall => rw [eh]; exact ⟨_,s' _ _ hh⟩
    | pages => rw [eA]; exact ⟨_,ha'⟩
    | f9 p => obtain ⟨⟨dz,e⟩,_⟩ := pgs p hz; exact ⟨_,e⟩
    | iD p => exact ⟨_,(pgs p hz).rl⟩
    | jx p => obtain ⟨vs,e,_⟩ := (pgs p hz).al; exact ⟨_,e⟩
   have nxr : x≠r := P3.nar
   have nxq : x≠q := P3.naq
   have nrq : r≠q := P3.ne
   have hzl : ((List.range i).map fun p => V.ref (A (.f9 p))).length < sizeLine := by rw [List.length_map,List.length_range]; lia
   refine wL.mk (by rw [List.length_map]; exact hi) ha3 hzl ?_
   have sn : bZ H (upd H3 acc (.lst ((List.range i).map (fun p => V.ref (A (.f9 p))) ++ [.ref x]))) := fK (fun c o e => fb c o (s' c o e)) hacc
   have tm : bY H' (upd H3 acc (.lst ((List.range i).map (fun p => V.ref (A (.f9 p))) ++ [.ref x]))) := (fun c xs e => jw ha3 c xs (fb c _ e))
   have nn : ∀ (z : Hb) (a : Addr),z.ok i→H' a = none→A z≠a := fun z a hz e e2 => by
    obtain ⟨o,e3⟩ := live z hz; rw [e2,e] at e3; cases e3
   refine ⟨⟨_,_,rfl⟩,sn,aj,jA (jA (jA A (.f9 i) x) (.iD i) r) (.jx i) q,?_,?_,?_,?_,?_,?_⟩
   ·rw [bH _ _ (by intro z; cases z),bH _ _ (by intro z; cases z),bH _ _ (by intro z; cases z)]; exact eA
   ·rw [bH _ _ (by intro z; cases z),bH _ _ (by intro z; cases z),bH _ _ (by intro z; cases z)]; exact eh
   ·refine Vc (ok := fun z => z = .iD i∨z = .f9 i∨z.ok i) (Vc (ok := fun z => z = .f9 i∨z.ok i) (Vc inj (fun z hz => nn z x hz hx0) (fun z hz => hz)) ?_ (fun z hz => hz)) ?_ ?_
    ·intro z hz
     by_cases e : z = .f9 i
     ·rw [e,cV]; exact nxr
     ·rw [bH _ _ e]; exact nn z r (hz.resolve_left e) hr0
    ·intro z hz
     by_cases e : z = .iD i
     ·rw [e,cV]; exact nrq
     ·rw [bH _ _ e]
      by_cases e2 : z = .f9 i
      ·rw [e2,cV]; exact nxq
      ·rw [bH _ _ e2]; exact nn z q ((hz.resolve_left e).resolve_left e2) hq0
    ·intro z hz
     cases z with
     | hall => exact .inr (.inr (.inr trivial))
     | pages => exact .inr (.inr (.inr trivial))
     | f9 p =>
       have hz' : p < i + 1 := hz
       by_cases e : p = i
       ·exact .inr (.inr (.inl (by rw [e])))
       ·exact .inr (.inr (.inr (show p < i by lia)))
     | iD p =>
       have hz' : p < i + 1 := hz
       by_cases e : p = i
       ·exact .inr (.inl (by rw [e]))
       ·exact .inr (.inr (.inr (show p < i by lia)))
     | jx p =>
       have hz' : p < i + 1 := hz
       by_cases e : p = i
       ·exact .inl (by rw [e])
       ·exact .inr (.inr (.inr (show p < i by lia)))
   ·intro z hz hn
    by_cases e1 : z = .jx i
    ·rw [e1,cV]; exact bZ.free s' hq0
    ·rw [bH _ _ e1]
     by_cases e2 : z = .iD i
     ·rw [e2,cV]; exact bZ.free s' hr0
     ·rw [bH _ _ e2]
      by_cases e3 : z = .f9 i
      ·rw [e3,cV]; exact bZ.free s' hx0
      ·rw [bH _ _ e3]
       refine fr z ?_ hn
       cases z with
       | hall => trivial
       | pages => trivial
       | f9 p => have hz' : p < i + 1 := hz; exact show p < i from Nat.lt_of_le_of_ne (Nat.le_of_lt_succ hz') fun y => e3 (by rw [y])
       | iD p => have hz' : p < i + 1 := hz; exact show p < i from Nat.lt_of_le_of_ne (Nat.le_of_lt_succ hz') fun y => e2 (by rw [y])
       | jx p => have hz' : p < i + 1 := hz; exact show p < i from Nat.lt_of_le_of_ne (Nat.le_of_lt_succ hz') fun y => e1 (by rw [y])
   ·rw [List.range_succ,List.map_append]
    congr 1
    ·refine List.map_congr_left fun p hp => ?_
     have hp' : p < i := List.mem_range.mp hp
     rw [bH _ _ (by intro z; cases z),bH _ _ (by intro z; cases z),bH _ _ (by intro z; cases z; exact Nat.lt_irrefl _ hp')]
    ·show [V.ref x] = [V.ref _]
     rw [bH _ _ (by intro z; cases z),bH _ _ (by intro z; cases z),cV]
   ·intro p hp
    have afp : ∀ (c : Addr) (o : HO),H3 c = some o→c≠acc→upd H3 acc (.lst ((List.range i).map (fun p => V.ref (A (.f9 p))) ++ [.ref x])) c = some o := fun c o e n => by rw [aq n]; exact e
    by_cases e : p = i
    ·subst e
     rw [bH _ _ (by intro z; cases z),bH _ _ (by intro z; cases z),cV,bH _ _ (by intro z; cases z),cV,cV]
     have e0 : pg0 ns p = ⟨ns[p],none,[],[],0⟩ := by unfold pg0; rw [List.getElem?_eq_getElem hi]; rfl
     rw [e0]
     exact P3.keep (jw ha3) (fun o e => afp _ o e (aF ha' hx0).symm) (fun o e => afp _ o e (aF ha' hr0).symm) fun o e => afp _ o e (aF ha' hq0).symm
    ·have hp' : p < i := by lia
     rw [bH _ _ (by intro z; cases z),bH _ _ (by intro z; cases z),bH _ _ (by intro z; cases z; exact e rfl),bH _ _ (by intro z; cases z),bH _ _ (by intro z; cases z; exact e rfl),bH _ _ (by intro z; cases z),bH _ _ (by intro z; cases z; exact e rfl),bH _ _ (by intro z; cases z),bH _ _ (by intro z; cases z)]
     have na : ∀ z : Hb,z.ok i→z≠.pages→A z≠acc := fun z hz hn e2 => hn (inj z .pages hz trivial (by rw [e2,eA]))
     exact (pgs p hp').keep tm (fun o e => afp _ o (fb _ o e) (na (.f9 p) hp' (by intro z; cases z))) (fun o e => afp _ o (fb _ o e) (na (.iD p) hp' (by intro z; cases z))) fun o e => afp _ o (fb _ o e) (na (.jx p) hp' (by intro z; cases z))
  ·rintro zs σ' H' ⟨_,s',ha',A,eA,eh,inj,fr,rfl,pgs⟩
   rw [List.length_map] at inj fr ha' pgs
   refine ⟨_,rfl,h,_,dx,[],rfl,s' _ _ hh,T.aha,T.pA,(by show 0 < 1000; decide),?_⟩
   rw [akX]
   have live : ∀ z : Hb,z.ok ns.length→z≠.hall→A z≠h := fun z hz hn e => hn (inj z .hall hz trivial (by rw [e,eh]))
   have tm : bY H' (upd H' h (.ins t.gM dx (hfl acc))) := fun c xs e => by rw [aq (jf e (s' _ _ hh) (by intro z; cases z))]; exact e
   have kk : ∀ z : Hb,z.ok ns.length→z≠.hall→∀ o,H' (A z) = some o→upd H' h (.ins t.gM dx (hfl acc)) (A z) = some o := fun z hz hn o e => by rw [aq (live z hz hn)]; exact e
   refine k A _ eh fr ⟨inj,⟨dx,by rw [eh,eA,aj]⟩,?_,fun p hp => ?_⟩ (fun b o e hb => by rw [aq hb]; exact s' b o e) ((Lv.same s').trans Lv.upd)
   ·rw [eA,aq (by rw [← eA]; exact live .pages trivial (by intro z; cases z))]; exact ha'
   ·exact (pgs p hp).keep tm (kk (.f9 p) hp (by intro z; cases z)) (kk (.iD p) hp (by intro z; cases z)) (kk (.jx p) hp (by intro z; cases z))
end
end iz
namespace iz
open PySem L2
theorem fc {H : Hp} {a : Addr} {kvs : List (Key×V)} {k : Key} {v : V} (h : H a = some (.dK kvs)) (e : fJ kvs k = some v) : Gw H a (kV k) (some v) := by rw [← e]; exact Gw.k h
theorem dput {H : Hp} {a : Addr} {kvs kvs' : List (Key×V)} {k : Key} {v : V} (h : H a = some (.dK kvs)) (hl : kvs.length < sizeLine) (e : putK kvs k v = kvs') : agN H a (kV k) v (upd H a (.dK kvs')) := by rw [← e]; exact agN.k h hl
theorem auq {x y : V} {c : Bool} : Ol [x,y] (if c then 1 else 0) = some (if c then y else x) := by cases c <;> rfl
def An (S : TS) (se : List (Nat×Let)) (k : Nat) : Prop := (∀ d,(S.dn d).length + k≤16000000)∧se.length + k≤16000000
def arp : Sp := fun vs H Q _ => ∃ A n m S se,∃ p : Nat,∃ d x l,vs = [.ref (A .bx),.int p]∧aX H A n m S se∧p < m∧(S.pg p).ask = (d,x) :: l∧(x = .rd∨x = .wr)∧(∀ q∈(S.pg p).dH p,q.1 < n)∧(S.pg p).rd.length≤1000000∧An S se ((S.pg p).dH p).length∧
 ∀ H',aX H' A n m { S with dn := post S.dn ((S.pg p).dH p) } (se ++ (S.pg p).dH p)→mj H H' A n m→Q (.int ((S.pg p).dH p).length) H'
def Wv (x : Nat×Let) : D := match x.2 with
 | .back _ r => .t [.i x.1,.s r.s]
 | .lend _ r _ => .t [.i x.1,.s r.s]
theorem rJ (l : List (Nat×Let)) : D.flats (l.map Wv) := bU (fun x => by obtain ⟨d,l⟩ := x; cases l <;> simp [Wv,D.flat,D.flats]) l
def axz (p : Nat) (x : Nat×Let) : Prop := ∃ r,x.2 = .back p r
theorem anr (g : PG) (p : Nat) : ∀ q∈g.dH p,axz p q := by
 intro q hq
 unfold PG.dH at hq
 split at hq
 ·cases hq
 ·rename_i a r l _
  rcases List.mem_append.mp hq with h | h
  ·unfold pC at h
   split at h
   ·split at h
    ·cases h
    ·have this := List.mem_singleton.mp h
     rw [this]; exact ⟨_,rfl⟩
   ·cases h
  ·unfold pD at h
   split at h
   ·obtain ⟨d,_,e⟩ := List.mem_map.mp h
    rw [← e]; exact ⟨_,rfl⟩
   ·cases h
theorem alc {H : Hp} {vs : List V} {l : List (Nat×Let)} {i : Nat} {v : V} (r : aG H vs (l.map Wv)) (hv : vs[i]? = some v) : ∃ x,l[i]? = some x∧Rep H v (Wv x) := by
 induction l generalizing vs i with
 | nil => have := aG.nil_inv (by simpa using r); subst this; simp at hv
 | cons x l ih =>
   obtain ⟨u,us,rfl,r1,r2⟩ := aG.cons_inv (by simpa using r)
   cases i with
   | zero => simp at hv; subst hv; exact ⟨x,rfl,r1⟩
   | succ i => simp at hv; obtain ⟨y,h1,h2⟩ := ih r2 hv; exact ⟨y,by simpa using h1,h2⟩
section
variable {P : Program} {w : World} {K : PySem.W.Frag} {mg : Str→Option Value} {base : Heap} {t : JV}
theorem ald (T : Txt K w mg t) : cZ P w K mg base n8 1 t.uK t.V3 ["_law_town","_law_page"] arp := by
 refine T.aix.ok pI (fun vs H Q E h => ?_) (fun cdv A outer s H vs Q E hr h => ?_)
 ·obtain ⟨A,n,m,S,se,p,d,x,l,rfl,_⟩ := h; rfl
 ·obtain ⟨A,n,m,S,se,p,d,x,l,rfl,M,hp,ha,hx,hn,hrd,hro,k⟩ := h
  have hu := j7 hr
  have sl : sizeLine = 16777216 := by decide
  refine ⟨_,(ak (bu (i := 2) pI.nd rfl (Or.inl rfl) (aL bA (bG hu (pv 0) aC (fun _ _ => rfl)) (pv 1) (fun _ _ => rfl)))
   (ak (yr (aL bA (bG hu (pv 2) aC (fun _ _ => rfl)) az (fun _ _ => rfl)) (Og rfl (iG (dg (i := 3) pI.nd rfl (Or.inr rfl)) (iG (dg (i := 4) pI.nd rfl (Or.inl rfl)) Gi))))
   (ak (bu (i := 5) pI.nd rfl (Or.inl rfl) (bL ao))
   (ak (cu (PW.pt (Oe (aR Vl (bG hu (pv 2) aC (fun _ _ => rfl)) az (bf _)) (JZ (aR z7 (bG hu (pv 2) aC (fun _ _ => rfl)) (pv 3) (bf _))))) (aB (bM (eX PySem.F.plainAttrs_list PySem.F.slot_list_append PySem.F.type_list_append cD (pv 5) (aa (b8 (aa (bG hu (pv 2) aC (fun _ _ => rfl)) (aa (aL bA (bL (aa aC (aa aC ao))) (iI lE (by rfl) T.KZ PyProof.Rows.Boot.«int» (aa (lR cO (pv 4) aC (bf _)) ao)) (fun _ _ => rfl)) ao))) ao)))) bB)
   (ak (cu (aR cO (pv 4) aC (bf _)) (aB (bu (i := 5) pI.nd rfl (Or.inl rfl) (bD lU (pv 5) (kE (gB (xs := ["_law_one"]) (ys := ["_law_desk"]) (js := [3]) rfl (by decide +kernel) (by decide +kernel) (by decide +kernel) (by rfl) ⟨⟨rfl,Or.inl rfl⟩,trivial⟩) rfl (ux (bG hu (pv 2) aC (fun _ _ => rfl))) (fun _ _ _ _ _ => (dg (i := 0) (show List.Nodup ((["_law_one"] : List Str) ++ (["_law_desk"] : List Str) : List Str) by decide +kernel) rfl (Or.inl rfl))) (fun _ _ _ _ _ => (aie (aR z7 (pv 0) (pv 1) (bf _)))) (fun _ _ _ _ _ => (b8 (aa (pv 0) (aa aC ao)))))))) bB)
   (ak (HS PassesOwn.never rfl (ux (pv 5)) (Og rfl (iG (dg (i := 6) pI.nd rfl (Or.inl rfl)) (iG (dg (i := 7) pI.nd rfl (Or.inl rfl)) Gi))) (ak (bM (eX PySem.F.plainAttrs_list PySem.F.slot_list_append PySem.F.type_list_append cD (aL bA (bG hu (pv 0) aC (fun _ _ => rfl)) (pv 6) (fun _ _ => rfl)) (aa (b8 (aa aC (aa (pv 1) (aa (pv 7) ao)))) ao)))
   (aB (bM (eX PySem.F.plainAttrs_list PySem.F.slot_list_append PySem.F.type_list_append cD (bG hu (pv 0) aC (fun _ _ => rfl)) (aa (b8 (aa (pv 6) (aa (b8 (aa aC (aa (pv 1) (aa (pv 7) ao)))) ao))) ao))))))
   (aB (bj (dG dO (by rfl) T.Aj PySem.boot_len (aa (pv 5) ao)))))))))),?_⟩
  try dsimp only [du,Cx.j6]
  show let Z1 : L2.TS := _; let Z2 : L2.TS := _; let Z3 : L2.TS := _; let Z4 : L2.TS := _; let Z5 : L2.TS := cY _ Z4 bJ; let Z6 : L2.TS := _; let Z7 : L2.TS := cY _ Z6 bJ; let Z8 : L2.TS := _; let Z9 : L2.TS := _; let Am : L2.TS := aQ Z8 (Z9); let Lb : L2.TS := ael _ _ Am; let Ld : L2.TS := _; let D0 : Ends := _; (aQ Z1 (aQ Z2 (aQ Z3 (aQ Z5 (aQ Z7 (aQ Lb (Ld))))))) D0 _ _
  intro Z1 Z2 Z3 Z4 Z5 Z6 Z7 Z8 Z9 Am Lb Ld D0
  obtain ⟨as,h3,h4⟩ := M.jx hp
  rw [ha] at h4
  obtain ⟨tt,us,rfl,h6,h7⟩ := Gp h4
  have hsh := M.bN hp
  refine RX rfl (fc M.bx jJ) rfl (cz.of M.cR) (bK hp) ?_
  refine zd rfl (fc hsh Gr) ⟨A (.jx p),_,0,_,rfl,rfl,cz.of h3,aq0 _ _,tt,_,rfl,dq.of h6,rfl,_,_,rfl,_,_,rfl,rfl,?_⟩
  refine ⟨CZ,fun bl hb => ?_⟩
  generalize hg : S.pg p = g at *
  have hbl : g.dH p = pC g p d x ++ pD g p d x := by unfold PG.dH; rw [ha]
  have s0 := aA (o := .lst []) hb
  try dsimp only [bJ]
  refine fP (fun σ' H' => σ' = [some (.ref (A .bx)),some (.int p),some (.ref (A (.bN p))),some (.int d),some (.str x.s),some (.ref bl),none,none]∧bZ H H'∧∃ us,H' bl = some (.lst us)∧us.length≤1∧aG H' us ((pC g p d x).map Wv)) (fun N hN => ?_) ?_
  ·have l0 := s0 _ _ hsh
   refine zd rfl (fc l0 rR) ⟨_,_,rfl,rfl,_,rfl,?_⟩
   cases hw : g.wr with
   | none =>
     refine aO rfl (wJ ?_)
     exact hN _ _ ⟨rfl,s0,[],aj,Nat.zero_le _,by rw [Wt hw]; simp [aG]⟩
   | some wv =>
     refine bF (decide_eq_true (Int.natCast_nonneg _)) ?_
     have l1 : fJ (yp g (A (.iD p)) (A (.jx p))) (ks "writer") = some (.int wv) := by rw [rR,hw]; rfl
     refine zd rfl (fc l0 l1) ⟨_,rfl,rfl,_,rfl,?_⟩
     by_cases e : wv = d
     ·subst e
      refine aO (by simp) ?_
      exact hN _ _ ⟨rfl,s0,[],aj,Nat.zero_le _,by rw [aaR hw]; simp [aG]⟩
     ·refine bF (by rw [decide_eq_false fun z => e (by have := V.int.inj z; lia)]; rfl) ?_
      refine ⟨_,rfl,.inl ⟨rfl,_,cz.of aj⟩,zd rfl (fc l0 l1) ⟨uo,fun z hz => ?_⟩⟩
      have s1 : bZ (upd H bl (.lst [])) (upd (upd H bl (.lst [])) z (.lst [.str "none",.str "read"])) := aA hz
      refine ⟨_,rfl,rfl,.inr ⟨_,rfl,z,_,_,.str (low x).s,rfl,rfl,cz.of aj,?_,uo,fun c hc => ?_⟩⟩
      ·rcases hx with hx | hx <;> subst hx <;> kernel_rfl
      ·have nz : bl≠z := fun y => by rw [← y,aj] at hz; cases hz
       have nc : bl≠c := fun y => by rw [← y,aq nz,aj] at hc; cases hc
       refine ⟨bl,[],_,rfl,rfl,(by rw [aq nc,aq nz,aj]),(by show 0 < sizeLine; decide),?_⟩
       refine hN _ _ ⟨rfl,fK ((s0.trans s1).trans (aA hc)) hb,_,aj,Nat.le_refl _,?_⟩
       rw [QZ hw e]
       simp only [List.map_cons,List.map_nil,aG,Wv,Rep]
       exact ⟨_,_,rfl,⟨c,_,rfl,by rw [aq nc.symm,aj],_,_,rfl,rfl,_,_,rfl,rfl,rfl⟩,rfl⟩
  ·rintro σ' H1 ⟨rfl,s1,us1,hb1,hl1,rp1⟩
   try dsimp only [bJ]
   refine fP (fun σ' H' => ∃ b2 us,σ' = [some (.ref (A .bx)),some (.int p),some (.ref (A (.bN p))),some (.int d),some (.str x.s),some (.ref b2),none,none]∧bZ H H'∧H b2 = none∧H' b2 = some (.lst us)∧aG H' us ((g.dH p).map Wv)) (fun N hN => ?_) ?_
   ·refine ⟨_,rfl,rfl,_,rfl,?_⟩
    rcases hx with hx | hx
    ·subst hx
     refine aO (nC (x := "write") (q := .wr) rfl (by intro z; cases z)) ?_
     refine hN _ _ ⟨bl,us1,rfl,s1,hb,hb1,?_⟩
     have : pD g p d .rd = [] := by unfold pD; rw [if_neg (by intro z; cases z)]
     rw [hbl,this,List.append_nil]
     exact rp1
    ·subst hx
     refine bF fu ?_
     have hrl : H1 (A (.iD p)) = some (.lst (g.rd.map nV)) := by have := s1 _ _ (M.iD hp); rw [hg] at this; exact this
     refine ⟨_,rfl,zd rfl (fc (s1 _ _ hsh) uD) ⟨A (.iD p),rfl,⟨_,cz.of hrl⟩,fun acc hacc => ?_⟩⟩
     have nbl : bl≠acc := aF hb1 hacc
     let PV1 : Nat→List V→St→Hp→Prop := fun i zs σ' H' => (∃ o,σ' = [o,some (.int d)])∧bZ H1 H'∧H' acc = some (.lst zs)∧zs.length≤i∧aG H' zs ((((g.rd.take i).filter fun e => decide (e≠d)).map fun e => (e,Let.back p .no)).map Wv)
     refine Gk (xs := g.rd.map nV) PV1 ?_ ?_ ?_ ?_
     ·exact ⟨⟨_,rfl⟩,aA hacc,aj,Nat.le_refl _,by simp [aG]⟩
     ·rintro i zs σ' H' _ ⟨_,s',ha',_⟩
      exact ⟨cz.of (s' _ _ hrl),ha'⟩
     ·rintro i y zs σ' H' hy hi ⟨⟨o,rfl⟩,s',ha',hz,rp⟩
      rw [List.length_map] at hi
      have hy' : y = .int (g.rd[i] : Nat) := by
       rw [List.getElem?_map,List.getElem?_eq_getElem hi] at hy
       exact (Option.some.inj hy).symm
      subst hy'
      have htk : g.rd.take (i + 1) = g.rd.take i ++ [g.rd[i]] := by rw [List.take_add_one,List.getElem?_eq_getElem hi]; rfl
      refine ⟨_,rfl,_,rfl,rfl,_,rfl,?_⟩
      by_cases e : g.rd[i] = d
      ·refine aO (by rw [e]; simp) (Vz.mk (by rw [List.length_map]; exact hi) ?_)
       refine ⟨⟨_,rfl⟩,s',ha',by lia,?_⟩
       rw [htk,List.filter_append,List.filter_cons_of_neg (by simp [e])]
       simpa using rp
      ·refine bF (by rw [decide_eq_false fun z => e (by have := V.int.inj z; lia)]; rfl) ?_
       refine ⟨_,rfl,uo,fun cc hc2 => ?_⟩
       have nc : acc≠cc := aF ha' hc2
       have h6' : upd H' cc (.tup [.int (g.rd[i] : Nat),.str "none"]) acc = some (.lst zs) := by rw [aq nc]; exact ha'
       refine wL.mk (by rw [List.length_map]; exact hi) h6' (by lia) ?_
       have sup := aA (o := .tup [.int (g.rd[i] : Nat),.str "none"]) hc2
       refine ⟨⟨_,rfl⟩,fK (s'.trans sup) hacc,aj,by rw [List.length_append]; simp; lia,?_⟩
       rw [htk,List.filter_append,List.filter_cons_of_pos (by simp [e]),List.filter_nil,List.map_append,List.map_append]
       have tm := jw (vs := zs ++ [.ref cc]) h6'
       refine aG.snoc ((rp.aU (aY sup) (rJ _)).aU tm (rJ _)) ?_
       simp only [Wv,Rep,aG]
       exact ⟨cc,_,rfl,by rw [aq nc.symm,aj]; rfl,_,_,rfl,rfl,_,_,rfl,rfl,rfl⟩
     ·rintro zs σ' H' ⟨_,s',ha',hz,rp⟩
      rw [List.length_map] at hz rp
      rw [List.take_length] at rp
      have hb' := s' _ _ hb1
      refine ⟨bl,acc,us1,zs,rfl,rfl,hb',ha',by lia,fun c hc => ?_⟩
      have hcn : H c = none := Lv.same (s1.trans s') _ hc
      refine hN _ _ ⟨c,_,rfl,(s1.trans s').trans (aA hc),hcn,aj,?_⟩
      have hrb : pD g p d .wr = (g.rd.filter fun e => decide (e≠d)).map fun e => (e,Let.back p .no) := by unfold pD; rw [if_pos rfl]
      rw [hbl,List.map_append,hrb]
      have tm := aY (aA (o := .lst (us1 ++ zs)) hc)
      exact aG.append ((rp1.aU (aY s') (rJ _)).aU tm (rJ _)) (rp.aU tm (rJ _))
   ·rintro σ' H2 ⟨b2,us2,rfl,s2,axA,hb2,rp2⟩
    have M2 := M.same s2
    have hlen : us2.length = (g.dH p).length := by rw [rp2.length,List.length_map]
    refine ⟨_,rfl,b2,rfl,⟨_,cz.of hb2⟩,?_⟩
    let PV2 : Nat→St→Hp→Prop := fun i σ' H' => (∃ o1 o2,σ' = [some (.ref (A .bx)),some (.int p),some (.ref (A (.bN p))),some (.int d),some (.str x.s),some (.ref b2),o1,o2])∧i≤us2.length∧aX H' A n m { S with dn := post S.dn ((g.dH p).take i) } (se ++ (g.dH p).take i)∧mj H H' A n m∧H' b2 = some (.lst us2)∧aG H' us2 ((g.dH p).map Wv)
    refine J2 (xs := us2) PV2 ?_ ?_ ?_ ?_
    ·refine ⟨⟨_,_,rfl⟩,Nat.zero_le _,?_,mj.of_same s2,hb2,rp2⟩
     simpa [post] using M2
    ·rintro i σ' H' _ ⟨_,_,_,_,hb',_⟩
     exact cz.of hb'
    ·rintro i y σ' H' hy ⟨⟨o1,o2,rfl⟩,hi,M',f',hb',rp'⟩
     obtain ⟨q,hq,rq⟩ := alc rp' hy
     have hqm : q∈g.dH p := List.mem_of_getElem? hq
     obtain ⟨r,hbk⟩ := anr g p q hqm
     have hqn := hn q hqm
     obtain ⟨qd,ql⟩ := q
     have axB : ql = .back p r := hbk
     subst axB
     have arq : qd < n := hqn
     simp only [Wv,Rep,aG] at rq
     obtain ⟨c,xs,rfl,hc,_,_,rfl,rfl,_,_,rfl,rfl,rfl⟩ := rq
     have hi' : i < us2.length := (List.getElem?_eq_some_iff.mp hy).1
     have htk : (g.dH p).take (i + 1) = (g.dH p).take i ++ [(qd,.back p r)] := by rw [List.take_add_one,hq]; rfl
     refine ⟨c,_,rfl,dq.of hc,rfl,_,_,rfl,_,_,rfl,rfl,?_⟩
     obtain ⟨dv,d1,d2⟩ := M'.dn arq
     have hlb : ((g.dH p).take i).length = i := by rw [List.length_take]; lia
     have hdl : dv.length < sizeLine := by
      rw [d2.length,List.length_map]
      show (post S.dn ((g.dH p).take i) qd).length < _
      have := Kf S.dn ((g.dH p).take i) qd
      have := hro.1 qd
      lia
     refine RX rfl (fc M'.bx Gq) rfl (cz.of M'.downs) (bK arq) ⟨.inl ⟨rfl,_,cz.of d1⟩,_,rfl,_,rfl,zz3,fun b hbn => ?_⟩
     have s3 := aA (o := .tup [.str "back",.int p,.str r.s]) hbn
     refine ⟨A (.dn qd),dv,_,rfl,rfl,s3 _ _ d1,hdl,?_⟩
     have rp3 : aG (upd H' b (.tup [.str "back",.int p,.str r.s])) (dv ++ [.ref b]) ((post S.dn ((g.dH p).take i) qd ++ [Let.back p r]).map Let.d) := by
      rw [List.map_append]
      refine aG.snoc (d2.aU (aY s3) (bU Let.flat _)) ?_
      simp only [Let.d,Rep,aG]
      exact ⟨b,_,rfl,aj,_,_,rfl,rfl,_,_,rfl,rfl,_,_,rfl,rfl,rfl⟩
     obtain ⟨M4,f4⟩ := (M'.same s3).ajp arq rp3
     have f34 : mj H' (upd (upd H' b (.tup [.str "back",.int p,.str r.s])) (A (.dn qd)) (.lst (dv ++ [.ref b]))) A n m := (mj.of_same s3).trans f4 (Mv.refl _ _ _ _)
     generalize upd (upd H' b (.tup [.str "back",.int p,.str r.s])) (A (.dn qd)) (.lst (dv ++ [.ref b])) = H4 at M4 f34
     obtain ⟨sv,e1,e2⟩ := M4.sent
     have hsl : sv.length < sizeLine := by
      rw [e2.length,List.length_map,List.length_append]
      have := hro.2
      lia
     refine zd rfl (fc M4.bx aeQ) ⟨.inl ⟨rfl,_,cz.of e1⟩,_,rfl,_,rfl,_,rfl,zz3,fun b' axC => ⟨uo,fun c' art => ?_⟩⟩
     have s5 := (aA (o := .tup [.str "back",.int p,.str r.s]) axC).trans (aA (o := .tup [.int qd,.ref b']) art)
     have nbc : b'≠c' := fun z => by rw [z,aj] at art; cases art
     refine ⟨A .sent,sv,_,rfl,rfl,s5 _ _ e1,hsl,?_⟩
     have rp5 : aG (upd (upd H4 b' (.tup [.str "back",.int p,.str r.s])) c' (.tup [.int qd,.ref b'])) (sv ++ [.ref c']) ((se ++ (g.dH p).take i ++ [(qd,Let.back p r)]).map pairD) := by
      rw [List.map_append (l₂ := [_])]
      exact aG.snoc (e2.aU (aY s5) (cW _)) (Ir (b := b') (vs := []) aj (by rw [aq nbc,aj]))
     obtain ⟨M6,f6⟩ := (M4.same s5).ak0 rp5
     have f46 := (mj.of_same (A := A) (n := n) (m := m) s5).trans f6 (Mv.refl _ _ _ _)
     have aut : ∀ x : Mb,x.ok n m→b2≠A x := fun x hx z => M.yF hx axA z.symm
     have hb4 := f46.kp b2 _ (f34.kp b2 _ hb' aut) aut
     have t6 : bY H' _ := (f34.tups M').trans (f46.tups M4)
     refine ⟨⟨_,_,rfl⟩,hi',?_,(f'.trans f34 (Mv.refl _ _ _ _)).trans f46 (Mv.refl _ _ _ _),hb4,rp'.aU t6 (rJ _)⟩
     rw [htk,aaI,← List.append_assoc]
     exact M6
    ·rintro σ' H3 ⟨⟨o1,o2,rfl⟩,_,M3,f3,hb3,_⟩
     rw [hlen,List.take_length] at M3
     refine ⟨_,rfl,b2,us2,rfl,.inl (cz.of hb3),?_⟩
     rw [hlen]
     exact k H3 M3 f3
end
end iz
namespace iz
open PySem L2
def TS.v8 (S : TS) (p : Nat) (g : PG) (acc : List (Nat×Let)) : TS := { S with pg := bO S.pg p g,dn := post S.dn acc }
theorem TS.bV (S : TS) (p : Nat) (g : PG) (acc : List (Nat×Let)) : (S.v8 p g acc).pg p = g := aM _ _ _
theorem TS.aru (S : TS) (p : Nat) (g : PG) (acc bs : List (Nat×Let)) : { S.v8 p g acc with dn := post (S.v8 p g acc).dn bs } = S.v8 p g (acc ++ bs) := by unfold TS.v8; simp only [pF]
theorem TS.mW (S : TS) (p : Nat) (g g' : PG) (acc : List (Nat×Let)) : { S.v8 p g acc with pg := bO (S.v8 p g acc).pg p g' } = S.v8 p g' acc := by unfold TS.v8; simp only [lG]
theorem TS.aiC (S : TS) (p : Nat) : S.v8 p (S.pg p) [] = S := by unfold TS.v8; rw [yD]; rfl
def anu : Sp := fun vs H Q _ => ∃ A n m S se,∃ p : Nat,vs = [.ref (A .bx),.int p]∧aX H A n m S se∧p < m∧(S.pg p).ask≠[]∧RW n (S.pg p)∧(S.pg p).rd.length≤1000000∧An S se 1∧
 ∀ A' H',aX H' A' n m (S.v8 p (S.pg p).lent ((S.pg p).dX p)) (se ++ (S.pg p).dX p)→mj H H' A n m→Mv H A A' n m→Q .non H'
def ale : Sp := fun vs H Q _ => ∃ A n m S se,∃ p : Nat,vs = [.ref (A .bx),.int p]∧aX H A n m S se∧p < m∧RW n (S.pg p)∧(S.pg p).mu≤1000000∧An S se (4 * (S.pg p).mu + 4)∧
 ∀ A' H' z,z = (if (S.pg p).miss = 0 then (S.pg p).serve p else (S.pg p,[]))→aX H' A' n m (S.v8 p z.1 z.2) (se ++ z.2)→mj H H' A n m→Mv H A A' n m→Q .non H'
section
variable {P : Program} {w : World} {K : PySem.W.Frag} {mg : Str→Option Value} {base : Heap} {t : JV}
theorem Ha (T : Txt K w mg t) : cZ P w K mg base n8 1 t.ir t.vU ["_law_town","_law_page"] anu := by
 refine T.zq.ok kh (fun vs H Q E h => ?_) (fun cdv A outer s H vs Q E hr h => ?_)
 ·obtain ⟨A,n,m,S,se,p,rfl,_⟩ := h; rfl
 ·obtain ⟨A,n,m,S,se,p,rfl,M,hp,hne,hgn,hrd,hro,k⟩ := h
  have hu := j7 hr
  have sl : sizeLine = 16777216 := by decide
  cases ha : (S.pg p).ask with
  | nil => exact absurd ha hne
  | cons x0 l =>
  obtain ⟨d,x⟩ := x0
  obtain ⟨hdn,hx⟩ := hgn.q (d,x) (by rw [ha]; simp)
  refine ⟨_,(ak (bu (i := 2) kh.nd rfl (Or.inl rfl) (aL bA (bG hu (pv 0) aC (fun _ _ => rfl)) (pv 1) (fun _ _ => rfl)))
   (ak (yr (eX PySem.F.plainAttrs_list PySem.F.slot_list_pop PySem.F.type_list_pop De (bG hu (pv 2) aC (fun _ _ => rfl)) (aa az ao)) (Og rfl (iG (dg (i := 3) kh.nd rfl (Or.inl rfl)) (iG (dg (i := 4) kh.nd rfl (Or.inl rfl)) Gi))))
   (ak (cu (aR cO (pv 4) aC (bf _)) (ak (km hu (pv 2) aC (bL ao) (by rfl))
   (aB (km hu (pv 2) aC (pv 3) (by rfl)))) (ak (cu (aR Vl (bG hu (pv 2) aC (fun _ _ => rfl)) az (bf _)) (aB (bM (eX PySem.F.plainAttrs_list PySem.F.slot_list_append PySem.F.type_list_append cD (bG hu (pv 2) aC (fun _ _ => rfl)) (aa (bG hu (pv 2) aC (fun _ _ => rfl)) ao)))) bB)
   (ak (km hu (pv 2) aC (QJ Dc az) (by rfl))
   (aB (cu (aR J6 (pv 3) (bG hu (pv 2) aC (fun _ _ => rfl)) (by rfl)) (aB (bM (eX PySem.F.plainAttrs_list PySem.F.slot_list_append PySem.F.type_list_append cD (bG hu (pv 2) aC (fun _ _ => rfl)) (aa (pv 3) ao)))) bB)))))
   (ak (bu (i := 5) kh.nd rfl (Or.inl rfl) (b8 (aa aC (aa (pv 1) (aa (pv 4) (aa (bG hu (pv 2) aC (fun _ _ => rfl)) ao))))))
   (ak (bM (eX PySem.F.plainAttrs_list PySem.F.slot_list_append PySem.F.type_list_append cD (aL bA (bG hu (pv 0) aC (fun _ _ => rfl)) (pv 3) (fun _ _ => rfl)) (aa (pv 5) ao)))
   (aB (bM (eX PySem.F.plainAttrs_list PySem.F.slot_list_append PySem.F.type_list_append cD (bG hu (pv 0) aC (fun _ _ => rfl)) (aa (b8 (aa (pv 3) (aa (pv 5) ao))) ao))))))))),?_⟩
  try dsimp only [du,Cx.j6]
  show let Z1 : L2.TS := _; let Z2 : L2.TS := _; let Z3 : L2.TS := _; let Z4 : L2.TS := _; let Z5 : L2.TS := aQ Z3 (Z4); let Z6 : L2.TS := _; let Z7 : L2.TS := cY _ Z6 bJ; let Z8 : L2.TS := _; let Z9 : L2.TS := _; let Am : L2.TS := cY _ Z9 bJ; let Lb : L2.TS := aQ Z7 (aQ Z8 (Am)); let Ld : L2.TS := cY _ Z5 Lb; let Q0 : L2.TS := _; let Q3 : L2.TS := _; let Z15 : L2.TS := _; let D0 : Ends := _; (aQ Z1 (aQ Z2 (aQ Ld (aQ Q0 (aQ Q3 (Z15)))))) D0 _ _
  intro Z1 Z2 Z3 Z4 Z5 Z6 Z7 Z8 Z9 Am Lb Ld Q0 Q3 Z15 D0
  obtain ⟨as,h3,h4⟩ := M.jx hp
  rw [ha] at h4
  obtain ⟨tt,us,rfl,h6,h7⟩ := Gp h4
  refine RX rfl (fc M.bx jJ) rfl (cz.of M.cR) (bK hp) ?_
  refine zd rfl (fc (M.bN hp) Gr) ⟨.inl ⟨rfl,_,cz.of h3⟩,A (.jx p),_,0,0,_,rfl,rfl,h3,(by decide),(by decide),akS _ _,rfl,?_⟩
  rw [List.eraseIdx_cons_zero]
  obtain ⟨M1,f1⟩ := M.apx hp (l := l) h7
  have t1 : upd H (A (.jx p)) (.lst us) tt = some (.tup [.int d,.str x.s]) := (f1.tups M) tt _ h6
  generalize upd H (A (.jx p)) (.lst us) = H1 at M1 f1 t1
  refine ⟨tt,_,rfl,dq.of t1,rfl,_,_,rfl,_,_,rfl,rfl,?_⟩
  have M1' : aX H1 A n m (S.v8 p { S.pg p with ask := l } []) se := M1
  have xK : (S.pg p).lent = if x = .wr then lY { S.pg p with ask := l } d else kI { S.pg p with ask := l } d := by unfold PG.lent; rw [ha]
  have hnum : (S.pg p).lent.num = (S.pg p).num := by rw [xK]; split <;> rfl
  have hl1 : (S.pg p).dX p = [(d,.lend p x (S.pg p).num)] := by unfold PG.dX; rw [ha]
  try dsimp only [bJ]
  refine fP (fun σ' H' => ∃ A',σ' = [some (.ref (A .bx)),some (.int p),some (.ref (A (.bN p))),some (.int d),some (.str x.s),none]∧aX H' A' n m (S.v8 p (S.pg p).lent []) se∧mj H H' A n m∧Mv H A A' n m) (fun N hN => ?_) ?_
  ·refine ⟨_,rfl,rfl,_,rfl,?_⟩
   rcases hx with hx | hx
   ·subst hx
    refine aO (nC (x := "write") (q := .wr) rfl (by intro z; cases z)) ?_
    rw [if_neg (by intro z; cases z)] at xK
    generalize hg1 : ({ S.pg p with ask := l } : PG) = g1 at M1' xK
    have hgr : g1.rd = (S.pg p).rd := by rw [← hg1]
    have ahd := M1'.bN hp
    rw [TS.bV] at ahd
    have arv := M1'.iD hp
    rw [TS.bV] at arv
    try dsimp only [bJ]
    have fin : ∀ H2,aX H2 A n m (S.v8 p { g1 with wr := none,rd := g1.rd ++ g1.wr.toList } []) se→mj H H2 A n m→
     (cY (aem (Vk (rIn K true) (iY 3) (Vu (iY 2) (tC (.str "readers"))))) (ahY (tBM K "list" J7 (Vu (iY 2) (tC (.str "readers"))) (lF (iY 3) Gv))) bJ) { nx := N,rt := Q } [some (.ref (A .bx)),some (.int p),some (.ref (A (.bN p))),some (.int d),some (.str Rt.rd.s),none] H2 := fun H2 M2 f2 => by
     have hsh := M2.bN hp
     rw [TS.bV] at hsh
     have hrr := M2.iD hp
     rw [TS.bV] at hrr
     refine ⟨_,rfl,zd rfl (fc hsh uD) ⟨A (.iD p),_,rfl,.inl (cz.of hrr),rfl,afo _,_,rfl,?_⟩⟩
     have e0 : (if true = true then !inV (.int d) ((g1.rd ++ g1.wr.toList).map nV) else inV (.int d) ((g1.rd ++ g1.wr.toList).map nV)) = !decide (d∈g1.rd ++ g1.wr.toList) := by rw [if_pos rfl,aiB]
     rw [e0]
     by_cases e : d∈g1.rd ++ g1.wr.toList
     ·refine aO (by rw [decide_eq_true e]; rfl) ?_
      refine hN _ _ ⟨A,rfl,?_,f2,Mv.refl _ _ _ _⟩
      rw [xK]
      unfold kI
      rw [if_pos e]
      exact M2
     ·refine bF (by rw [decide_eq_false e]; rfl) ?_
      refine zd rfl (fc hsh uD) ⟨.inl ⟨rfl,_,cz.of hrr⟩,_,rfl,A (.iD p),_,_,rfl,rfl,hrr,?_,?_⟩
      ·have hw : g1.wr.toList.length≤1 := by cases g1.wr <;> simp
       rw [List.length_map,List.length_append,hgr]; lia
      ·obtain ⟨M3,f3⟩ := M2.apw hp (l := g1.rd ++ g1.wr.toList ++ [d])
       rw [TS.bV,TS.mW,List.map_append (l₂ := [d])] at M3
       rw [List.map_append (l₂ := [d])] at f3
       refine hN _ _ ⟨A,rfl,?_,f2.trans f3 (Mv.refl _ _ _ _),Mv.refl _ _ _ _⟩
       rw [xK]
       unfold kI
       rw [if_neg e]
       exact M3
    refine fP (fun σ' H' => σ' = [some (.ref (A .bx)),some (.int p),some (.ref (A (.bN p))),some (.int d),some (.str Rt.rd.s),none]∧aX H' A n m (S.v8 p { g1 with rd := g1.rd ++ g1.wr.toList } []) se∧mj H H' A n m) (fun N' hN' => ?_) ?_
    ·refine zd rfl (fc ahd rR) ⟨_,_,rfl,rfl,_,rfl,?_⟩
     cases hw : g1.wr with
     | none =>
       refine aO rfl ?_
       refine hN' _ _ ⟨rfl,?_,f1⟩
       have e : ({ g1 with rd := g1.rd ++ g1.wr.toList } : PG) = g1 := by rw [hw]; cases g1; simp_all
       rw [e]; exact M1'
     | some wv =>
       refine bF (decide_eq_true (Int.natCast_nonneg _)) ?_
       have l1 : fJ (yp g1 (A (.iD p)) (A (.jx p))) (ks "writer") = some (.int wv) := by rw [rR,hw]; rfl
       refine zd rfl (fc ahd uD) ⟨.inl ⟨rfl,_,cz.of arv⟩,zd rfl (fc ahd l1) ⟨A (.iD p),_,_,rfl,rfl,arv,(by rw [List.length_map,hgr]; lia),?_⟩⟩
       obtain ⟨M3,f3⟩ := M1'.apw hp (l := g1.rd ++ [wv])
       rw [TS.bV,TS.mW,List.map_append (l₂ := [wv])] at M3
       rw [List.map_append (l₂ := [wv])] at f3
       have e : ({ g1 with rd := g1.rd ++ g1.wr.toList } : PG) = { g1 with rd := g1.rd ++ [wv] } := by rw [hw]; rfl
       exact hN' _ _ ⟨rfl,by rw [e]; exact M3,f1.trans f3 (Mv.refl _ _ _ _)⟩
    ·rintro σ' H2 ⟨rfl,M2,f2⟩
     have hsh := M2.bN hp
     rw [TS.bV] at hsh
     refine ⟨_,rfl,_,rfl,A (.bN p),_,rfl,dput hsh uF Dk,?_⟩
     obtain ⟨M3,f3⟩ := M2.yG hp (g := { g1 with wr := none,rd := g1.rd ++ g1.wr.toList }) (by rw [TS.bV]) (by rw [TS.bV])
     rw [TS.mW] at M3
     exact fin _ M3 (f2.trans f3 (Mv.refl _ _ _ _))
   ·subst hx
    refine bF fu ?_
    rw [if_pos rfl] at xK
    generalize hg1 : ({ S.pg p with ask := l } : PG) = g1 at M1' xK
    have ahd := M1'.bN hp
    rw [TS.bV] at ahd
    refine ⟨CZ,fun r' hr' => ?_⟩
    obtain ⟨M2,f2,mv2⟩ := M1'.aq2 hp hr' (l := [])
    rw [TS.bV] at M2 f2
    rw [TS.mW] at M2
    have hr0 : H r' = none := f1.lv _ hr'
    refine ⟨_,rfl,A (.bN p),_,rfl,dput (aA hr' _ _ ahd) uF (VH (l := [])),?_⟩
    have Zc := M2.bN hp
    rw [TS.bV,bH _ _ (by intro z; cases z),cV,bH _ _ (by intro z; cases z)] at Zc
    obtain ⟨M3,f3⟩ := M2.yG hp (g := lY g1 d) (by rw [TS.bV]; rfl) (by rw [TS.bV]; rfl)
    rw [TS.mW] at M3
    rw [bH _ _ (by intro z; cases z),cV,bH _ _ (by intro z; cases z)] at M3 f3
    refine ⟨_,rfl,_,rfl,A (.bN p),_,rfl,dput Zc uF VG,?_⟩
    have mv : Mv H A (jA A (.iD p) r') n m := fun z hz => (mv2 z hz).imp id fun e => ⟨e.1,f1.lv _ e.2⟩
    refine hN _ _ ⟨jA A (.iD p) r',rfl,?_,?_,mv⟩
    ·rw [xK]; exact M3
    ·exact (f1.trans f2 (Mv.refl _ _ _ _)).trans f3 mv
  ·rintro σ' H2 ⟨A2,rfl,M2,f2,mv2⟩
   have hA : A2 .bx = A .bx := mv2.bx
   have hAs : A2 (.bN p) = A (.bN p) := (mv2 (.bN p) hp).elim id fun z => by obtain ⟨⟨q,e⟩,_⟩ := z; cases e
   have hsh := M2.bN hp
   rw [TS.bV,hAs] at hsh
   have htw := M2.bx
   rw [hA] at htw
   refine ⟨_,rfl,_,rfl,zd rfl (fc hsh ag3) ⟨zz4,fun b hb => ?_⟩⟩
   rw [hnum] at *
   have s3 := aA (o := .tup [.str "lend",.int p,.str x.s,.int (S.pg p).num]) hb
   have hb3 : upd H2 b (.tup [.str "lend",.int p,.str x.s,.int (S.pg p).num]) b = _ := aj
   have M3 := M2.same s3
   have f3 := f2.trans (mj.of_same (A := A2) s3) mv2
   generalize upd H2 b (.tup [.str "lend",.int p,.str x.s,.int (S.pg p).num]) = H3 at s3 hb3 M3 f3
   have axE := s3 _ _ htw
   obtain ⟨dv,d1,d2⟩ := M3.dn hdn
   have hdl : dv.length < sizeLine := by
    rw [d2.length,List.length_map]
    show (post S.dn [] d).length < _
    have := hro.1 d
    show (S.dn d).length < _
    lia
   refine RX rfl (fc axE Gq) rfl (cz.of M3.downs) (bK hdn) ⟨.inl ⟨rfl,_,cz.of d1⟩,_,rfl,A2 (.dn d),dv,_,rfl,rfl,d1,hdl,?_⟩
   have rl : Rep H3 (.ref b) (Let.lend p x (S.pg p).num).d := by
    simp only [Let.d,Rep,aG]
    exact ⟨b,_,rfl,hb3,_,_,rfl,rfl,_,_,rfl,rfl,_,_,rfl,rfl,_,_,rfl,rfl,rfl⟩
   have rp3 : aG H3 (dv ++ [.ref b]) (((S.v8 p (S.pg p).lent []).dn d ++ [Let.lend p x (S.pg p).num]).map Let.d) := by
    rw [List.map_append]
    exact aG.snoc d2 rl
   obtain ⟨M4,f4⟩ := M3.ajp hdn rp3
   have rl4 := Rep.aU (f4.tups M3) (Let.flat _) rl
   have f4' := f3.trans f4 mv2
   generalize upd H3 (A2 (.dn d)) (.lst (dv ++ [.ref b])) = H4 at M4 f4 f4' rl4
   obtain ⟨sv,e1,e2⟩ := M4.sent
   have hsl : sv.length < sizeLine := by
    rw [e2.length,List.length_map]
    have := hro.2
    lia
   have auu := M4.bx
   rw [hA] at auu
   refine zd rfl (fc auu aeQ) ⟨.inl ⟨rfl,_,cz.of e1⟩,_,rfl,_,rfl,uo,fun c hc => ?_⟩
   have s5 := aA (o := .tup [.int d,.ref b]) hc
   refine ⟨A2 .sent,sv,_,rfl,rfl,s5 _ _ e1,hsl,?_⟩
   have rp5 : aG (upd H4 c (.tup [.int d,.ref b])) (sv ++ [.ref c]) ((se ++ [(d,Let.lend p x (S.pg p).num)]).map pairD) := by
    rw [List.map_append]
    refine aG.snoc (e2.aU (aY s5) (cW _)) ?_
    simp only [pairD,Rep,aG]
    exact ⟨c,_,rfl,aj,_,_,rfl,rfl,_,_,rfl,Rep.aU (aY s5) (Let.flat _) rl4,rfl⟩
   obtain ⟨M6,f6⟩ := (M4.same s5).ak0 rp5
   refine k A2 _ ?_ ((f4'.trans (mj.of_same s5) mv2).trans f6 mv2) mv2
   rw [hl1]
   exact M6
end
end iz
namespace iz
open PySem L2
def PG.cont (g : PG) (p : Nat) : PG×List (Nat×Let) := if g.miss = 0 then g.serve p else (g,[])
theorem alg {g : PG} {p : Nat} (h0 : g.miss = 0) (h : g.ask≠[]) (hb : g.dH p≠[]) : (g.cont p).1 = (PG.cont { g with miss := (g.dH p).length } p).1∧(g.cont p).2 = g.dH p ++ (PG.cont { g with miss := (g.dH p).length } p).2 := by
 have hl : ((g.dH p).length : Int)≠0 := by
  have : (g.dH p).length≠0 := fun z => hb (List.length_eq_zero_iff.mp z)
  lia
 unfold PG.cont
 rw [if_pos h0,Gn h hb]
 try dsimp only
 rw [if_neg hl]
 simp
theorem ajB {g : PG} {p : Nat} (h0 : g.miss = 0) (h : g.ask≠[]) (hb : g.dH p = []) : (g.cont p).1 = (g.lent.cont p).1∧(g.cont p).2 = g.dX p ++ (g.lent.cont p).2 := by
 unfold PG.cont
 rw [if_pos h0,yE h hb,PG.wO,if_pos h0]
 exact ⟨rfl,rfl⟩
theorem alh (g : PG) (p : Nat) : (g.cont p).2.length≤2 * g.mu + 1 := by
 unfold PG.cont
 split
 ·exact g.xM p
 ·simp
theorem An.at {S : TS} {se acc : List (Nat×Let)} {k j p : Nat} {g : PG} (h : An S se k) (hj : acc.length + j≤k) : An (S.v8 p g acc) (se ++ acc) j := ⟨fun d => by
 have h1 := h.1 d
 have h2 := Kf S.dn acc d
 show (post S.dn acc d).length + j≤_
 lia,by rw [List.length_append]; have := h.2; lia⟩
section
variable {P : Program} {w : World} {K : PySem.W.Frag} {mg : Str→Option Value} {base : Heap} {t : JV}
theorem Ww (T : Txt K w mg t) : cZ P w K mg base n8 2 t.lM t.Ij ["_law_town","_law_page"] ale := by
 refine T.O9.ok V2 (fun vs H Q E h => ?_) (fun cdv A outer s H vs Q E hr h => ?_)
 ·obtain ⟨A,n,m,S,se,p,rfl,_⟩ := h; rfl
 ·obtain ⟨A,n,m,S,se,p,rfl,M,hp,hgn,Zb,hro,k⟩ := h
  have hu := j7 hr
  have sl : sizeLine = 16777216 := by decide
  refine ⟨_,(ak (bu (i := 2) V2.nd rfl (Or.inl rfl) (aL bA (bG hu (pv 0) aC (fun _ _ => rfl)) (pv 1) (fun _ _ => rfl)))
   (aB (Vi PassesOwn.never (PW.pt (Oe (aR cO (bG hu (pv 2) aC (fun _ _ => rfl)) az (bf _)) (JZ (aR (aeD hr.agE) (bG hu (pv 2) aC (fun _ _ => rfl)) (bL ao) (bf _))))) (ak (km hu (pv 2) aC (cG (ald T) (hr.mono (by decide) : bR 1 _) (by rfl) T.anl T.aix.kp T.ank .nil bW (aa (pv 0) (aa (pv 1) ao))) (by rfl))
   (aB (cu (aR cO (bG hu (pv 2) aC (fun _ _ => rfl)) az (bf _)) (aB (bM (cG (Ha T) (hr.mono (by decide) : bR 1 _) (by rfl) T.KQ T.zq.kp T.KN .nil bW (aa (pv 0) (aa (pv 1) ao))))) bB)))))),?_⟩
  try dsimp only [du,Cx.j6]
  show let Z1 : L2.TS := _; let Z2 : L2.TS := _; let Z3 : L2.TS := _; let Z4 : L2.TS := cY _ Z3 bJ; let Z5 : L2.TS := aQ Z2 (Z4); let Z6 : L2.TS := abh _ Z5; let D0 : Ends := _; (aQ Z1 (Z6)) D0 _ _
  intro Z1 Z2 Z3 Z4 Z5 Z6 D0
  refine RX rfl (fc M.bx jJ) rfl (cz.of M.cR) (bK hp) ?_
  generalize hg0 : S.pg p = g0 at *
  refine ⟨fun i σ H1 => ∃ A1 g acc,σ = [some (.ref (A .bx)),some (.int p),some (.ref (A (.bN p)))]∧aX H1 A1 n m (S.v8 p g acc) (se ++ acc)∧mj H H1 A n m∧Mv H A A1 n m∧RW n g∧g.mu≤g0.mu∧acc.length + (g.cont p).2.length≤2 * g0.mu + 1∧
   (g0.cont p).1 = (g.cont p).1∧(g0.cont p).2 = acc ++ (g.cont p).2∧i = 2 * g.ask.length + (if g.miss = 0 then 1 else 0),⟨_,A,g0,[],rfl,?_,mj.refl _ _ _ _,Mv.refl _ _ _ _,hgn,Nat.le_refl _,?_,rfl,rfl,rfl⟩,?_⟩
  ·have := S.aiC p
   rw [hg0] at this
   rw [this,List.append_nil]; exact M
  ·have := alh g0 p; simp; lia
  rintro i σ H1 ⟨A1,g,acc,rfl,M1,f1,mv1,gn1,mu1,le1,se1,se2,rfl⟩
  have hA : A1 .bx = A .bx := mv1.bx
  have hAs : A1 (.bN p) = A (.bN p) := (mv1 (.bN p) hp).elim id fun z => by obtain ⟨⟨q,e⟩,_⟩ := z; cases e
  have hsh := M1.bN hp
  rw [TS.bV,hAs] at hsh
  obtain ⟨as,h3,h4⟩ := M1.jx hp
  rw [TS.bV] at h4
  have auv : as.length = g.ask.length := by rw [h4.length,List.length_map]
  have done : ∀ H2,aX H2 A1 n m (S.v8 p g acc) (se ++ acc)→mj H H2 A n m→g.cont p = (g,[])→Q .non H2 := fun H2 M2 f2 e => by
   refine k A1 H2 (g0.cont p) rfl ?_ f2 mv1
   rw [e] at se1 se2
   rw [se1,se2,List.append_nil]
   exact M2
  refine zd rfl (fc hsh uE) ⟨rfl,_,rfl,?_⟩
  by_cases hms : g.miss = 0
  ·refine bF (by rw [hms]; exact decide_eq_true rfl) ?_
   refine zd rfl (fc hsh Gr) ⟨CZ,fun e he => ?_⟩
   have s2 := aA (o := .lst []) he
   refine ⟨A1 (.jx p),e,as,rfl,rfl,cz.of (s2 _ _ h3),cz.of aj,_,rfl,?_⟩
   have M2 := M1.same s2
   have f2 := f1.trans (mj.of_same (A := A1) s2) mv1
   generalize upd H1 e (.lst []) = H2 at s2 M2 f2
   by_cases hak : g.ask = []
   ·have : as = [] := List.length_eq_zero_iff.mp (by rw [auv,hak]; rfl)
    subst this
    refine aO rfl ?_
    exact done H2 M2 f2 (by unfold PG.cont; rw [if_pos hms,Gm hak])
   ·refine bF (by cases as with | nil => exact absurd (List.length_eq_zero_iff.mp auv.symm) hak | cons _ _ => rfl) ?_
    obtain ⟨⟨d,x⟩,l,hq⟩ := List.exists_cons_of_ne_nil hak
    obtain ⟨hdn,hx⟩ := gn1.q (d,x) (by rw [hq]; simp)
    have ala : g.rd.length≤1000000 := by unfold PG.mu at mu1 Zb; lia
    have hbl := Wu g p
    have hbm : (g.dH p).length≤g0.mu + 1 := by unfold PG.mu at mu1 ⊢; lia
    refine ⟨fun σ' H' => ∃ i',i' < 2 * g.ask.length + (if g.miss = 0 then 1 else 0)∧∃ A1 g acc,σ' = [some (.ref (A .bx)),some (.int p),some (.ref (A (.bN p)))]∧aX H' A1 n m (S.v8 p g acc) (se ++ acc)∧mj H H' A n m∧Mv H A A1 n m∧RW n g∧g.mu≤g0.mu∧acc.length + (g.cont p).2.length≤2 * g0.mu + 1∧
     (g0.cont p).1 = (g.cont p).1∧(g0.cont p).2 = acc ++ (g.cont p).2∧i' = 2 * g.ask.length + (if g.miss = 0 then 1 else 0),fun σ' H' z => z,?_⟩
    have aAC : acc.length≤2 * g0.mu + 1 := by lia
    have hv : V.ref (A .bx) = V.ref (A1 .bx) := by rw [hA]
    refine ⟨_,rfl,_,rfl,A1,n,m,S.v8 p g acc,se ++ acc,p,d,x,l,by rw [hA]; rfl,M2,hp,by rw [TS.bV]; exact hq,hx,?_,by rw [TS.bV]; exact ala,?_,?_⟩
    ·rw [TS.bV]; exact fun x hx => ((gn1.dH p).1 x hx).1
    ·rw [TS.bV]; exact hro.at (by lia)
    rw [TS.bV,TS.aru,List.append_assoc]
    intro H3 M3 f3
    have ali := M3.bN hp
    rw [TS.bV,hAs] at ali
    refine ⟨_,rfl,A (.bN p),_,rfl,dput ali uF Dl,?_⟩
    obtain ⟨M4,f4⟩ := M3.yG hp (g := { g with miss := ((g.dH p).length : Int) }) (by rw [TS.bV]) (by rw [TS.bV])
    rw [TS.mW] at M4
    rw [hAs] at M4 f4
    have f34 := (f2.trans f3 mv1).trans f4 mv1
    generalize upd H3 (A (.bN p)) (.dK (yp { g with miss := ((g.dH p).length : Int) } (A1 (.iD p)) (A1 (.jx p)))) = H4 at M4 f34
    have auw := M4.bN hp
    rw [TS.bV,hAs] at auw
    refine zd rfl (fc auw uE) ⟨rfl,_,rfl,?_⟩
    by_cases hb : g.dH p = []
    ·obtain ⟨c1,c2⟩ := ajB hms hak hb
     refine bF (by rw [hb]; exact decide_eq_true rfl) ?_
     have eg : ({ g with miss := ((g.dH p).length : Int) } : PG) = g := by rw [hb]; cases g; simp_all
     rw [eg,hb,List.append_nil] at M4
     have hle : 1 + (g.lent.cont p).2.length≤(g.cont p).2.length := by
      rw [c2,List.length_append]
      have : g.dX p = [(d,.lend p x g.num)] := by unfold PG.dX; rw [hq]
      rw [this]; simp
     refine ⟨_,rfl,_,rfl,A1,n,m,S.v8 p g acc,se ++ acc,p,by rw [hA]; rfl,M4,hp,by rw [TS.bV]; exact hak,by rw [TS.bV]; exact gn1,by rw [TS.bV]; exact ala,hro.at (by lia),?_⟩
     rw [TS.bV]
     intro A5 H5 M5 f5 mv5
     have e5 : (S.v8 p g acc).v8 p g.lent (g.dX p) = S.v8 p g.lent (acc ++ g.dX p) := by unfold TS.v8; simp only [lG,pF]
     rw [e5,List.append_assoc] at M5
     refine ⟨_,?_,A5,g.lent,acc ++ g.dX p,rfl,M5,f34.trans f5 mv1,mv1.trans f34.lv mv5,gn1.lent,Nat.le_trans g.qR mu1,?_,?_,?_,rfl⟩
     ·rw [PG.Di,PG.wO,hq]; simp
     ·rw [List.length_append]
      have : g.dX p = [(d,.lend p x g.num)] := by unfold PG.dX; rw [hq]
      rw [this]
      simp only [List.length_singleton]
      lia
     ·rw [se1,c1]
     ·rw [se2,c2,List.append_assoc]
    ·obtain ⟨c1,c2⟩ := alg hms hak hb
     have hbn : (g.dH p).length≠0 := fun z => hb (List.length_eq_zero_iff.mp z)
     refine aO (decide_eq_false fun z => hbn (by have z1 : ((g.dH p).length : Int) = 0 := V.int.inj z; lia)) ?_
     refine ⟨_,?_,A1,{ g with miss := ((g.dH p).length : Int) },acc ++ g.dH p,rfl,M4,f34,mv1,⟨gn1.w,gn1.r,gn1.q⟩,mu1,?_,?_,?_,rfl⟩
     ·rw [if_pos hms,if_neg (by show ((g.dH p).length : Int)≠0; lia)]; simp
     ·rw [List.length_append]
      have := congrArg List.length c2
      rw [List.length_append] at this
      lia
     ·rw [se1,c1]
     ·rw [se2,c2,List.append_assoc]
  ·refine aO (decide_eq_false fun z => hms (V.int.inj z)) ?_
   exact wJ (done H1 M1 f1 (by unfold PG.cont; rw [if_neg hms]))
end
end iz
namespace iz
open PySem L2
theorem aiD {H : Hp} {vs : List V} {l : UL} {r : List UL} (h : aG H vs ((l :: r).map UL.d)) : ∃ b us,vs = .ref b :: us∧H b = some (.tup l.vs)∧aG H us (r.map UL.d) := by
 rw [List.map_cons] at h
 obtain ⟨v,us,e,rv,rl⟩ := aG.cons_inv h
 cases l with
 | ask p x =>
   simp only [UL.d,Rep,aG] at rv
   obtain ⟨b,xs,rfl,hb,_,_,rfl,rfl,_,_,rfl,rfl,_,_,rfl,rfl,rfl⟩ := rv
   exact ⟨b,us,e,hb,rl⟩
 | ans p o =>
   cases o <;> (simp only [UL.d,oD,Rep,aG] at rv; obtain ⟨b,xs,rfl,hb,_,_,rfl,rfl,_,_,rfl,rfl,_,_,rfl,rfl,rfl⟩ := rv; exact ⟨b,us,e,hb,rl⟩)
 | gave p x =>
   simp only [UL.d,Rep,aG] at rv
   obtain ⟨b,xs,rfl,hb,_,_,rfl,rfl,_,_,rfl,rfl,_,_,rfl,rfl,rfl⟩ := rv
   exact ⟨b,us,e,hb,rl⟩
theorem Wx {H : Hp} {b : Addr} {l : UL} (h : H b = some (.tup l.vs)) : Rep H (.ref b) l.d := by
 cases l with
 | ask p x => simp only [UL.d,Rep,aG]; exact ⟨b,_,rfl,h,_,_,rfl,rfl,_,_,rfl,rfl,_,_,rfl,rfl,rfl⟩
 | ans p o => cases o <;> (simp only [UL.d,oD,Rep,aG]; exact ⟨b,_,rfl,h,_,_,rfl,rfl,_,_,rfl,rfl,_,_,rfl,rfl,rfl⟩)
 | gave p x => simp only [UL.d,Rep,aG]; exact ⟨b,_,rfl,h,_,_,rfl,rfl,_,_,rfl,rfl,_,_,rfl,rfl,rfl⟩
def auy : Sp := fun vs H Q _ => ∃ A n m S se,∃ d : Nat,∃ l r,vs = [.ref (A .bx),.int d]∧aX H A n m S se∧d < n∧S.up d = l :: r∧l.pg < m∧RW n (S.pg l.pg)∧((S.pg l.pg).ask = []↔(S.pg l.pg).miss = 0)∧l.good (S.pg l.pg)∧(S.pg l.pg).mu≤900000∧An S se (4 * (S.pg l.pg).mu + 20)∧
 ∀ b A' H',aX H' A' n m (S.agW d l r) (se ++ ((S.pg l.pg).take l.pg d l).2)→mj H H' A n m→Mv H A A' n m→H' b = some (.tup l.vs)→Q (.ref b) H'
section
variable {P : Program} {w : World} {K : PySem.W.Frag} {mg : Str→Option Value} {base : Heap} {t : JV}
theorem ab4 (T : Txt K w mg t) : cZ P w K mg base n8 3 t.iW t.zg ["_law_town","_law_desk"] auy := by
 refine T.QX.ok yP (fun vs H Q E h => ?_) (fun cdv A outer s H vs Q E hr h => ?_)
 ·obtain ⟨A,n,m,S,se,d,l,r,rfl,_⟩ := h; rfl
 ·obtain ⟨A,n,m,S,se,d,l,r,rfl,M,hd,hup,hp,hgn,ham,hgd,Zb,hro,k⟩ := h
  have hu := j7 hr
  have sl : sizeLine = 16777216 := by decide
  refine ⟨_,(ak (bu (i := 2) yP.nd rfl (Or.inl rfl) (eX PySem.F.plainAttrs_list PySem.F.slot_list_pop PySem.F.type_list_pop De (aL bA (bG hu (pv 0) aC (fun _ _ => rfl)) (pv 1) (fun _ _ => rfl)) (aa az ao)))
   (ak (bu (i := 3) yP.nd rfl (Or.inl rfl) (aL bA (bG hu (pv 0) aC (fun _ _ => rfl)) (aL bw (pv 2) az (fun _ _ => rfl)) (fun _ _ => rfl)))
   (ak (cu (aR cO (aL bw (pv 2) az (fun _ _ => rfl)) aC (bf _)) (ak (bM (eX PySem.F.plainAttrs_list PySem.F.slot_list_append PySem.F.type_list_append cD (bG hu (pv 3) aC (fun _ _ => rfl)) (aa (b8 (aa (pv 1) (aa (aL bw (pv 2) az (fun _ _ => rfl)) ao))) ao)))
   (ak (bM (cG (Ww T) (hr.mono (by decide) : bR 2 _) (by rfl) T.aaQ T.O9.kp T.aaP .nil bW (aa (pv 0) (aa (aL bw (pv 2) az (fun _ _ => rfl)) ao))))
   (aB (bj (pv 2))))) bB)
   (ak (cu (vD (ur (aL bw (pv 2) az (fun _ _ => rfl)))) (aB (km hu (pv 3) aC (aL bw (pv 2) az (fun _ _ => rfl)) (by rfl))) bB)
   (ak (cu (aR cO (aL bw (pv 2) az (fun _ _ => rfl)) aC (bf _)) (ak (cu (aR cO (bG hu (pv 3) aC (fun _ _ => rfl)) (pv 1) (bf _)) (aB (km hu (pv 3) aC (QJ Dc az) (by rfl))) bB)
   (aB (bj (pv 2)))) bB)
   (ak (km hu (pv 3) aC (bD HW (bG hu (pv 3) aC (fun _ _ => rfl)) az) (by rfl))
   (ak (cu (aR cO (bG hu (pv 3) aC (fun _ _ => rfl)) az (bf _)) (ak (bM (cG (Ha T) (hr.mono (by decide) : bR 1 _) (by rfl) T.KQ T.zq.kp T.KN .nil bW (aa (pv 0) (aa (aL bw (pv 2) az (fun _ _ => rfl)) ao))))
   (aB (bM (cG (Ww T) (hr.mono (by decide) : bR 2 _) (by rfl) T.aaQ T.O9.kp T.aaP .nil bW (aa (pv 0) (aa (aL bw (pv 2) az (fun _ _ => rfl)) ao)))))) bB)
   (aB (bj (pv 2)))))))))),?_⟩
  try dsimp only [du,Cx.j6]
  show let Z1 : L2.TS := _; let Z2 : L2.TS := _; let Z3 : L2.TS := _; let Z4 : L2.TS := _; let Z5 : L2.TS := _; let Z6 : L2.TS := aQ Z3 (aQ Z4 (Z5)); let Z7 : L2.TS := cY _ Z6 bJ; let Z8 : L2.TS := _; let Z9 : L2.TS := cY _ Z8 bJ; let Am : L2.TS := _; let Lb : L2.TS := cY _ Am bJ; let Ld : L2.TS := _; let Q0 : L2.TS := aQ Lb (Ld); let Q3 : L2.TS := cY _ Q0 bJ; let Z15 : L2.TS := _; let Z16 : L2.TS := _; let Z17 : L2.TS := _; let Z18 : L2.TS := aQ Z16 (Z17); let Z19 : L2.TS := cY _ Z18 bJ; let Z20 : L2.TS := _; let D0 : Ends := _; (aQ Z1 (aQ Z2 (aQ Z7 (aQ Z9 (aQ Q3 (aQ Z15 (aQ Z19 (Z20)))))))) D0 _ _
  intro Z1 Z2 Z3 Z4 Z5 Z6 Z7 Z8 Z9 Am Lb Ld Q0 Q3 Z15 Z16 Z17 Z18 Z19 Z20 D0
  obtain ⟨uv,u1,u2⟩ := M.up hd
  rw [hup] at u2
  obtain ⟨b,us,rfl,hb,u3⟩ := aiD u2
  refine RX rfl (fc M.bx Kg) rfl (cz.of M.ups) (bK hd) ⟨.inl ⟨rfl,_,cz.of u1⟩,A (.up d),_,0,0,_,rfl,rfl,u1,(by decide),(by decide),akS _ _,rfl,?_⟩
  rw [List.eraseIdx_cons_zero]
  obtain ⟨M1,f1⟩ := M.aeR hd u3
  have hb1 := (f1.tups M) b _ hb
  generalize upd H (A (.up d)) (.lst us) = H1 at M1 f1 hb1
  generalize hS1 : ({ S with up := bO S.up d r } : TS) = S1 at M1
  have hpg : S1.pg = S.pg := by rw [← hS1]
  have hdn : S1.dn = S.dn := by rw [← hS1]
  have anx : An S1 se (4 * (S.pg l.pg).mu + 20) := ⟨fun e => by rw [hdn]; exact hro.1 e,hro.2⟩
  have hdo : ∀ z : PG×List (Nat×Let),z = (S.pg l.pg).take l.pg d l→S1.v8 l.pg z.1 z.2 = S.agW d l r := fun z e => by rw [e,← hS1]; rfl
  refine zd rfl (fc M1.bx jJ) (zt rfl (dq.of hb1) (UL.at1 l) ⟨A .cR,_,_,_,rfl,rfl,cz.of M1.cR,bK hp,?_⟩)
  have M1' : aX H1 A n m (S1.v8 l.pg (S.pg l.pg) []) se := by have := S1.aiC l.pg; rw [hpg] at this; rw [this]; exact M1
  have hsh := M1'.bN hp
  rw [TS.bV] at hsh
  generalize hq : l.pg = p0 at hp hgn ham hgd Zb hro k anx hdo M1' hsh ⊢
  cases l with
  | ask p x =>
    have hq' : p = p0 := hq
    subst hq'
    have hx : x = .rd∨x = .wr := hgd
    refine zt rfl (dq.of hb1) rfl ⟨rfl,_,rfl,?_⟩
    refine bF fu ?_
    obtain ⟨av,a1,a2⟩ := M1'.jx hp
    rw [TS.bV] at a2
    have hal : av.length = (S.pg p).ask.length := by rw [a2.length,List.length_map]
    have auz : (S.pg p).ask.length≤900000 := by unfold PG.mu at Zb; lia
    refine zd rfl (fc hsh Gr) ⟨.inl ⟨rfl,_,cz.of a1⟩,_,rfl,zt rfl (dq.of hb1) rfl ⟨uo,fun tt ht => ?_⟩⟩
    have s2 := aA (o := .tup [.int d,.str x.s]) ht
    refine ⟨A (.jx p),av,_,rfl,rfl,s2 _ _ a1,by lia,?_⟩
    have rp : aG (upd H1 tt (.tup [.int d,.str x.s])) (av ++ [.ref tt]) (((S.pg p).ask ++ [(d,x)]).map Bp) := by
     rw [List.map_append]
     refine aG.snoc (a2.aU (aY s2) (jU _)) ?_
     simp only [Bp,Rep,aG]
     exact ⟨tt,_,rfl,aj,_,_,rfl,rfl,_,_,rfl,rfl,rfl⟩
    obtain ⟨M3,f3⟩ := (M1'.same s2).apx hp rp
    have hb3 := (f3.tups (M1'.same s2)) b _ (s2 _ _ hb1)
    have f13 := (f1.trans (mj.of_same (A := A) s2) (Mv.refl _ _ _ _)).trans f3 (Mv.refl _ _ _ _)
    generalize upd (upd H1 tt (.tup [.int d,.str x.s])) (A (.jx p)) (.lst (av ++ [.ref tt])) = H3 at M3 f3 hb3 f13
    rw [TS.mW,TS.bV] at M3
    have gn2 : RW n ({ S.pg p with ask := (S.pg p).ask ++ [(d,x)] } : PG) := ⟨hgn.w,hgn.r,fun y hy => by
     rcases List.mem_append.mp hy with hy | hy
     ·exact hgn.q y hy
     ·have : y = (d,x) := by simpa using hy
      rw [this]; exact ⟨hd,hx⟩⟩
    have auA : ({ S.pg p with ask := (S.pg p).ask ++ [(d,x)] } : PG).mu = (S.pg p).mu + 2 := by unfold PG.mu; simp; lia
    refine ⟨_,rfl,zt rfl (dq.of hb3) rfl ⟨A,n,m,_,se,p,rfl,M3,hp,by rw [TS.bV]; exact gn2,?_,?_,?_⟩⟩
    ·rw [TS.bV,auA]; have : (S.pg p).mu≤900000 := Zb; lia
    ·have := An.at (acc := []) (p := p) (g := { S.pg p with ask := (S.pg p).ask ++ [(d,x)] }) (j := 4 * ((S.pg p).mu + 2) + 4) anx (by show 0 + _≤4 * (S.pg p).mu + 20; lia)
     rw [TS.bV,auA]
     rw [List.append_nil] at this
     exact this
    ·rw [TS.bV]
     intro A4 H4 z hz M4 f4 mv4
     have ez : z = (S.pg p).take p d (.ask p x) := by
      rw [hz]
      simp only [PG.take]
      by_cases e : (S.pg p).ask = []
      ·rw [if_pos (ham.mp e),if_pos e,e]; rfl
      ·rw [if_neg fun y => e (ham.mpr y),if_neg e]
     have e4 : (S1.v8 p { S.pg p with ask := (S.pg p).ask ++ [(d,x)] } []).v8 p z.1 z.2 = S1.v8 p z.1 z.2 := by unfold TS.v8; simp only [lG,pF]; rfl
     rw [e4,hdo z ez,ez] at M4
     refine ⟨_,rfl,k b A4 H4 M4 (f13.trans f4 (Mv.refl _ _ _ _)) (fun y hy => (mv4 y hy).imp id fun e => ⟨e.1,f13.lv _ e.2⟩) ((f4.tups M3) b _ hb3)⟩
  | gave p x =>
    have hq' : p = p0 := hq
    subst hq'
    refine zt rfl (dq.of hb1) rfl ⟨rfl,_,rfl,?_⟩
    refine aO (c7 (by decide +kernel)) ?_
    refine zt rfl (dq.of hb1) rfl ⟨_,rfl,?_⟩
    refine bF rfl ?_
    refine zt rfl (dq.of hb1) rfl ⟨_,rfl,A (.bN p),_,rfl,dput hsh uF GJ,?_⟩
    obtain ⟨M2,f2⟩ := M1'.yG hp (g := { S.pg p with num := x }) (by rw [TS.bV]) (by rw [TS.bV])
    rw [TS.mW] at M2
    have hb2 := (f2.tups M1') b _ hb1
    have f12 := f1.trans f2 (Mv.refl _ _ _ _)
    generalize upd H1 (A (.bN p)) (.dK (yp { S.pg p with num := x } (A (.iD p)) (A (.jx p)))) = H2 at M2 f2 hb2 f12
    have Zc := M2.bN hp
    rw [TS.bV] at Zc
    refine zt rfl (dq.of hb2) rfl ⟨rfl,_,rfl,?_⟩
    refine bF fu ?_
    have ek : (S.pg p).take p d (.gave p x) = ({ S.pg p with num := x,wr := if (S.pg p).wr = some d then none else (S.pg p).wr },[]) := rfl
    refine zd rfl (fc Zc rR) ⟨_,rfl,rfl,_,rfl,?_⟩
    by_cases e : (S.pg p).wr = some d
    ·refine bF (by show decide (V.int (wrI (S.pg p).wr) = V.int d) = true; rw [e]; exact decide_eq_true rfl) ?_
     refine ⟨_,rfl,_,rfl,A (.bN p),_,rfl,dput Zc uF Dk,?_⟩
     obtain ⟨M3,f3⟩ := M2.yG hp (g := { S.pg p with num := x,wr := none }) (by rw [TS.bV]) (by rw [TS.bV])
     rw [TS.mW] at M3
     refine ⟨_,rfl,k b A _ ?_ (f12.trans f3 (Mv.refl _ _ _ _)) (Mv.refl _ _ _ _) ((f3.tups M2) b _ hb2)⟩
     have := hdo _ ek.symm
     rw [if_pos e] at ek this
     rw [← this]
     show aX _ A n m _ (se ++ ((S.pg p).take p d (.gave p x)).2)
     rw [ek,List.append_nil]
     exact M3
    ·refine aO (decide_eq_false fun z => e ?_) ?_
     ·have z1 : wrI (S.pg p).wr = (d : Int) := V.int.inj z
      cases hw : (S.pg p).wr with
      | none => rw [hw] at z1; have : (-1 : Int) = d := z1; lia
      | some y => rw [hw] at z1; have : (y : Int) = d := z1; exact congrArg some (by lia)
     ·refine ⟨_,rfl,k b A _ ?_ f12 (Mv.refl _ _ _ _) hb2⟩
      have := hdo _ ek.symm
      rw [if_neg e] at ek this
      rw [← this]
      show aX _ A n m _ (se ++ ((S.pg p).take p d (.gave p x)).2)
      rw [ek,List.append_nil]
      exact M2
  | ans p o =>
    have hq' : p = p0 := hq
    subst hq'
    refine zt rfl (dq.of hb1) rfl ⟨rfl,_,rfl,?_⟩
    refine aO (c7 (by decide +kernel)) ?_
    try dsimp only [bJ]
    refine fP (fun σ' H' => σ' = [some (.ref (A .bx)),some (.int d),some (.ref b),some (.ref (A (.bN p)))]∧aX H' A n m (S1.v8 p { S.pg p with num := o.getD (S.pg p).num } []) se∧mj H H' A n m∧H' b = some (.tup (UL.ans p o).vs)) (fun N hN => ?_) ?_
    ·refine zt rfl (dq.of hb1) rfl ⟨_,rfl,?_⟩
     cases o with
     | none =>
       refine aO rfl ?_
       exact hN _ _ ⟨rfl,M1',f1,hb1⟩
     | some x =>
       refine bF rfl ?_
       refine zt rfl (dq.of hb1) rfl ⟨_,rfl,A (.bN p),_,rfl,dput hsh uF GJ,?_⟩
       obtain ⟨M2,f2⟩ := M1'.yG hp (g := { S.pg p with num := x }) (by rw [TS.bV]) (by rw [TS.bV])
       rw [TS.mW] at M2
       exact hN _ _ ⟨rfl,M2,f1.trans f2 (Mv.refl _ _ _ _),(f2.tups M1') b _ hb1⟩
    ·rintro σ' H2 ⟨rfl,M2,f2,hb2⟩
     have Zc := M2.bN hp
     rw [TS.bV] at Zc
     refine zt rfl (dq.of hb2) rfl ⟨rfl,_,rfl,?_⟩
     refine aO (c7 (by decide +kernel)) ?_
     refine zd rfl (fc Zc uE) ⟨_,_,rfl,rfl,_,rfl,A (.bN p),_,rfl,dput Zc uF Dl,?_⟩
     generalize hg2 : ({ S.pg p with num := o.getD (S.pg p).num,miss := (S.pg p).miss - 1 } : PG) = g2
     obtain ⟨M3,f3⟩ := M2.yG hp (g := g2) (by rw [TS.bV,← hg2]) (by rw [TS.bV,← hg2])
     rw [TS.mW] at M3
     have hb3 := (f3.tups M2) b _ hb2
     have f13 := f2.trans f3 (Mv.refl _ _ _ _)
     generalize upd H2 (A (.bN p)) (.dK (yp g2 (A (.iD p)) (A (.jx p)))) = H3 at M3 f3 hb3 f13
     have ali := M3.bN hp
     rw [TS.bV] at ali
     have gm : g2.miss = (S.pg p).miss - 1 := by rw [← hg2]
     have ga : g2.ask = (S.pg p).ask := by rw [← hg2]
     have gr : g2.rd = (S.pg p).rd := by rw [← hg2]
     have gn2 : RW n g2 := by rw [← hg2]; exact ⟨hgn.w,hgn.r,hgn.q⟩
     have gmu : g2.mu = (S.pg p).mu := by unfold PG.mu; rw [ga,gr]
     have ek : (S.pg p).take p d (.ans p o) = if (S.pg p).miss - 1 = 0 then ((g2.lent.serve p).1,g2.dX p ++ (g2.lent.serve p).2) else (g2,[]) := by simp only [PG.take]; rw [hg2]
     have axG : (S.pg p).mu≤900000 := Zb
     try dsimp only [bJ]
     refine zd rfl (fc ali uE) ⟨rfl,_,rfl,?_⟩
     by_cases e : (S.pg p).miss - 1 = 0
     ·refine bF (by rw [gm,e]; exact decide_eq_true rfl) ?_
      rw [if_pos e] at ek
      have hak : g2.ask≠[] := by rw [ga]; exact hgd e
      refine ⟨_,rfl,zt rfl (dq.of hb3) rfl ⟨A,n,m,_,se,p,rfl,M3,hp,by rw [TS.bV]; exact hak,by rw [TS.bV]; exact gn2,?_,?_,?_⟩⟩
      ·rw [TS.bV,gr]; unfold PG.mu at axG; lia
      ·have := An.at (acc := []) (p := p) (g := g2) (j := 1) anx (by show 0 + 1≤4 * (S.pg p).mu + 20; lia)
       rw [List.append_nil] at this
       exact this
      ·rw [TS.bV]
       intro A4 H4 M4 f4 mv4
       have e4 : (S1.v8 p g2 []).v8 p g2.lent (g2.dX p) = S1.v8 p g2.lent (g2.dX p) := by unfold TS.v8; simp only [lG]; rfl
       rw [e4] at M4
       have hA : A4 .bx = A .bx := mv4.bx
       have hb4 := (f4.tups M3) b _ hb3
       have ll : (g2.dX p).length≤1 := by unfold PG.dX; split <;> simp
       have hlm := g2.qR
       refine ⟨_,rfl,zt rfl (dq.of hb4) rfl ⟨A4,n,m,_,se ++ g2.dX p,p,by rw [hA]; rfl,M4,hp,by rw [TS.bV]; exact gn2.lent,?_,?_,?_⟩⟩
       ·rw [TS.bV]; lia
       ·rw [TS.bV]
        exact An.at anx (by show _≤4 * (S.pg p).mu + 20; lia)
       ·rw [TS.bV]
        intro A5 H5 z hz M5 f5 mv5
        rw [PG.wO,gm,if_pos e] at hz
        have e5 : (S1.v8 p g2.lent (g2.dX p)).v8 p z.1 z.2 = S1.v8 p z.1 (g2.dX p ++ z.2) := by unfold TS.v8; simp only [lG,pF]
        rw [e5,List.append_assoc] at M5
        have ek' : (z.1,g2.dX p ++ z.2) = (S.pg p).take p d (.ans p o) := by rw [ek,hz]
        have := hdo _ ek'
        have mv : Mv H A A5 n m := fun y hy => ((mv4.trans f4.lv mv5) y hy).imp id fun e => ⟨e.1,f13.lv _ e.2⟩
        refine ⟨_,rfl,k b A5 H5 ?_ ((f13.trans f4 (Mv.refl _ _ _ _)).trans f5 fun y hy => (mv4 y hy).imp id fun e => ⟨e.1,f13.lv _ e.2⟩) mv ((f5.tups M4) b _ hb4)⟩
        rw [← this]
        show aX _ A5 n m _ (se ++ ((S.pg p).take p d (.ans p o)).2)
        rw [← ek']
        exact M5
     ·refine aO (by rw [gm]; exact decide_eq_false fun z => e (V.int.inj z)) ?_
      rw [if_neg e] at ek
      refine ⟨_,rfl,k b A H3 ?_ f13 (Mv.refl _ _ _ _) hb3⟩
      have := hdo _ ek.symm
      rw [← this]
      show aX _ A n m _ (se ++ ((S.pg p).take p d (.ans p o)).2)
      rw [ek,List.append_nil]
      exact M3
end
end iz
namespace iz
open PySem L2
theorem zx {n p : Nat} (h : p < n) : ixN n (p : Int) = some p := by unfold ixN; rw [if_pos (Int.natCast_nonneg _),if_pos (by lia)]; simp
theorem xN {m p : Nat} {f g : Nat→V} {v : V} (hp : p < m) (hg : g p = v) (h : ∀ q,q≠p→g q = f q) : ((List.range m).map f).set p v = (List.range m).map g := by
 refine List.ext_getElem? fun i => ?_
 by_cases e : i = p
 ·subst e
  rw [List.getElem?_set_self (by simpa using hp),List.getElem?_map,List.getElem?_range hp]
  simp [hg]
 ·rw [List.getElem?_set_ne (Ne.symm e),List.getElem?_map,List.getElem?_map]
  by_cases hi : i < m
  ·rw [List.getElem?_range hi]; simp [h i e]
  ·rw [List.getElem?_eq_none (by simpa using hi)]; rfl
def axH : Sp := fun vs H Q _ => ∃ r a w,vs = [.str (Rt.s r),.ref a]∧H a = some (.tup (W.vs w))∧Q (.bl (decide (w.need.k≤r.k))) H
def arz : Sp := fun vs H Q _ => ∃ A n m S se a w,∃ d p : Nat,vs = [.ref (A .bx),.int d,.ref a]∧aX H A n m S se∧d < n∧H a = some (.tup (W.vs w))∧w.pg = (p : Int)∧p < m∧S.row.length≤1000000∧
 ∀ H',aX H' A n m { S with ds := bO S.ds d ((S.ds d).done w),row := fU S.row d [(w.Dj,w.pg,(S.ds d).num w)] } se→mj H H' A n m→Q (.int ((S.ds d).num w)) H'
def auC : Sp := fun vs H Q _ => ∃ A n m S se l r,∃ d p : Nat,vs = [.ref (A .bx),.int d]∧aX H A n m S se∧d < n∧S.dn d = l :: r∧l.pg = (p : Int)∧p < m∧l.nice∧(∀ w,(S.ds d).ws = some w→∃ q : Nat,q < m∧w.pg = (q : Int))∧S.row.length≤1000000∧(S.up d).length≤1000000∧
 ∀ b H',aX H' A n m (S.RV d l r) se→mj H H' A n m→H' b = some (.tup l.vs)→Q (.ref b) H'
theorem DS.ajC (S : DS) (p : Int) (r : Rt) (h : S.rt p = r) : S.hold p r (S.nm p) = S := by
 unfold DS.hold
 cases S
 congr
 ·funext q; dsimp only at h ⊢; split <;> simp_all
 ·funext q; dsimp only at h ⊢; split <;> simp_all
theorem afq {H : Hp} {vs : List V} {l : Let} {r : List Let} (h : aG H vs ((l :: r).map Let.d)) : ∃ b us,vs = .ref b :: us∧H b = some (.tup l.vs)∧aG H us (r.map Let.d) := by
 rw [List.map_cons] at h
 obtain ⟨v,us,e,rv,rl⟩ := aG.cons_inv h
 cases l with
 | lend p x k =>
   simp only [Let.d,Rep,aG] at rv
   obtain ⟨b,xs,rfl,hb,_,_,rfl,rfl,_,_,rfl,rfl,_,_,rfl,rfl,_,_,rfl,rfl,rfl⟩ := rv
   exact ⟨b,us,e,hb,rl⟩
 | back p x =>
   simp only [Let.d,Rep,aG] at rv
   obtain ⟨b,xs,rfl,hb,_,_,rfl,rfl,_,_,rfl,rfl,_,_,rfl,rfl,rfl⟩ := rv
   exact ⟨b,us,e,hb,rl⟩
theorem W.arA (w : W) : Ol w.vs 0 = some (.str w.tag) := by cases w <;> rfl
theorem W.arB (w : W) : Ol w.vs 1 = some (.int w.pg) := by cases w <;> rfl
theorem DS.alj (S : DS) (w : W) (q : Int) : (S.done w).rt q = S.rt q := by
 cases w with
 | look p => rfl
 | put p n => show (if q = p then S.rt p else S.rt q) = S.rt q; split <;> simp_all
theorem DS.alk (S : DS) (w : W) : (S.done w).nm w.pg = S.num w := by
 cases w with
 | look p => rfl
 | put p n => show (if p = p then n else S.nm p) = n; rw [if_pos rfl]
section
variable {P : Program} {w : World} {K : PySem.W.Frag} {mg : Str→Option Value} {base : Heap} {t : JV}
theorem Q4 (T : Txt K w mg t) : cZ P w K mg base n8 1 t.jN t.DQ ["_law_right","_law_wish"] axH := by
 refine T.Io.ok aeT (fun vs H Q E h => ?_) (fun cdv A outer s H vs Q E hr h => ?_)
 ·obtain ⟨r,a,w,rfl,_⟩ := h; rfl
 ·obtain ⟨r,a,w,rfl,ha,k⟩ := h
  refine ⟨_,(aB (bj (atv (lR cO (pv 0) aC (bf _)) (abg (agx (lR cO (pv 0) aC (bf _)) (abg (lR cO (aL bw (pv 1) az (fun _ _ => rfl)) aC (bf _)))))))),?_⟩
  try dsimp only [du,Cx.j6]
  refine ⟨_,rfl,rfl,_,rfl,?_⟩
  cases r with
  | wr =>
    refine bF fu ?_
    cases w <;> exact k
  | rd =>
    refine aO (nC (x := "write") (q := .wr) rfl (by intro z; cases z)) ?_
    refine ⟨_,rfl,rfl,_,rfl,?_⟩
    refine bF fu ?_
    refine zt rfl (dq.of ha) (W.arA w) ⟨rfl,?_⟩
    cases w with
    | look p => exact k
    | put p n =>
      have e : decide (V.str (W.put p n).tag = V.str "look") = false := c7 (show ("put" : Str)≠"look" by decide +kernel)
      rw [e]; exact k
  | no =>
    refine aO (nC (x := "write") (q := .wr) rfl (by intro z; cases z)) ?_
    refine ⟨_,rfl,rfl,_,rfl,?_⟩
    refine aO (nC (x := "read") (q := .rd) rfl (by intro z; cases z)) ?_
    cases w <;> exact k
theorem Ek (T : Txt K w mg t) : cZ P w K mg base n8 1 t.gn t.sX ["_law_town","_law_desk","_law_wish"] arz := by
 refine T.vZ.ok DN (fun vs H Q E h => ?_) (fun cdv A outer s H vs Q E hr h => ?_)
 ·obtain ⟨A,n,m,S,se,a,w,d,p,rfl,_⟩ := h; rfl
 ·obtain ⟨A,n,m,S,se,a,w,d,p,rfl,M,hd,ha,hpg,hp,hrl,k⟩ := h
  have hu := j7 hr
  have sl : sizeLine = 16777216 := by decide
  refine ⟨_,(ak (cu (aR cO (aL bw (pv 2) az (fun _ _ => rfl)) aC (bf _)) (aB (yr (aL bw (pv 2) az (fun _ _ => rfl)) (HR (aL bA (bG hu (pv 0) aC (fun _ _ => rfl)) (pv 1) (fun _ _ => rfl)) (aL bw (pv 2) az (fun _ _ => rfl)) set_list))) bB)
   (ak (bu (i := 3) DN.nd rfl (Or.inl rfl) (aL bA (aL bA (bG hu (pv 0) aC (fun _ _ => rfl)) (pv 1) (fun _ _ => rfl)) (aL bw (pv 2) az (fun _ _ => rfl)) (fun _ _ => rfl)))
   (ak (bM (eX PySem.F.plainAttrs_list PySem.F.slot_list_append PySem.F.type_list_append cD (bG hu (pv 0) aC (fun _ _ => rfl)) (aa (b8 (aa (aL bw (pv 2) az (fun _ _ => rfl)) (aa (pv 1) (aa (aL bw (pv 2) az (fun _ _ => rfl)) (aa (pv 3) ao))))) ao)))
   (aB (bj (pv 3)))))),?_⟩
  try dsimp only [du,Cx.j6]
  show let Z1 : L2.TS := _; let Z2 : L2.TS := cY _ Z1 bJ; let Z3 : L2.TS := _; let Z4 : L2.TS := _; let Z5 : L2.TS := _; let D0 : Ends := _; (aQ Z2 (aQ Z3 (aQ Z4 (Z5)))) D0 _ _
  intro Z1 Z2 Z3 Z4 Z5 D0
  try dsimp only [bJ]
  refine fP (fun σ' H' => σ' = [some (.ref (A .bx)),some (.int d),some (.ref a),none]∧aX H' A n m { S with ds := bO S.ds d ((S.ds d).done w) } se∧mj H H' A n m∧H' a = some (.tup w.vs)) (fun N hN => ?_) ?_
  ·refine zt rfl (dq.of ha) (W.arA w) ⟨rfl,_,rfl,?_⟩
   cases w with
   | look q =>
     refine aO (c7 (show ("look" : Str)≠"put" by decide +kernel)) ?_
     refine hN _ _ ⟨rfl,?_,mj.refl _ _ _ _,ha⟩
     have : ({ S with ds := bO S.ds d ((S.ds d).done (.look q)) } : TS) = S := by show ({ S with ds := bO S.ds d (S.ds d) } : TS) = S; rw [yD]
     rw [this]; exact M
   | put q x =>
     have hq : q = (p : Int) := hpg
     subst hq
     refine bF fu ?_
     have hcp := M.cp hd
     refine zt rfl (dq.of ha) rfl (RX rfl (fc M.bx rQ) rfl (cz.of M.copies) (bK hd) (zt rfl (dq.of ha) rfl ⟨A (.cp d),_,_,p,rfl,rfl,hcp,zx (by simpa using hp),?_⟩))
     obtain ⟨M1,f1⟩ := M.auk hd (D' := (S.ds d).done (.put p x)) (by funext q; exact DS.alj _ _ _) rfl
     have e : ((List.range m).map fun q : Nat => V.int ((S.ds d).nm q)).set p (.int x) = (List.range m).map fun q : Nat => V.int (((S.ds d).done (.put p x)).nm q) := by
      refine xN hp ?_ fun q hq => ?_
      ·show V.int (if (p : Int) = p then x else _) = _; rw [if_pos rfl]
      ·show V.int (if (q : Int) = p then x else _) = _; rw [if_neg (by lia)]
     rw [e]
     exact hN _ _ ⟨rfl,M1,f1,(f1.tups M) a _ ha⟩
  ·rintro σ' H1 ⟨rfl,M1,f1,ha1⟩
   have hcp := M1.cp hd
   simp only [aM] at hcp
   have hnum : ((S.ds d).done w).nm (p : Int) = (S.ds d).num w := by rw [← hpg]; exact DS.alk _ _
   refine RX rfl (fc M1.bx rQ) rfl (cz.of M1.copies) (bK hd) (zt rfl (dq.of ha1) (W.arB w) ⟨A (.cp d),_,p,.int ((S.ds d).num w),rfl,by rw [hpg],cz.of hcp,?_,?_⟩)
   ·rw [bK hp,hnum]
   obtain ⟨rv,r1,r2⟩ := M1.row
   have axI : rv.length < sizeLine := by rw [r2.length,List.length_map]; show S.row.length < _; lia
   refine zd rfl (fc M1.bx anf) ⟨.inl ⟨rfl,_,cz.of r1⟩,zt rfl (dq.of ha1) (W.arA w) ⟨_,rfl,zt rfl (dq.of ha1) (W.arB w) ⟨_,rfl,zz4,fun b hb => ?_⟩⟩⟩
   have s2 := aA (o := .tup [.str w.tag,.int d,.int w.pg,.int ((S.ds d).num w)]) hb
   refine ⟨A .row,rv,_,rfl,rfl,s2 _ _ r1,axI,?_⟩
   have rp : aG (upd H1 b (.tup [.str w.tag,.int d,.int w.pg,.int ((S.ds d).num w)])) (rv ++ [.ref b]) ((fU S.row d [(w.Dj,w.pg,(S.ds d).num w)]).map RE.d) := by
    unfold fU
    rw [List.map_append]
    refine aG.snoc (r2.aU (aY s2) (bU RE.flat _)) ?_
    simp only [RE.d,Rep,aG,← W.agV]
    exact ⟨b,_,rfl,aj,_,_,rfl,rfl,_,_,rfl,rfl,_,_,rfl,rfl,_,_,rfl,rfl,rfl⟩
   obtain ⟨M3,f3⟩ := (M1.same s2).ak1 rp
   exact ⟨_,rfl,k _ M3 ((f1.trans (mj.of_same (A := A) s2) (Mv.refl _ _ _ _)).trans f3 (Mv.refl _ _ _ _))⟩
theorem Wy (T : Txt K w mg t) : cZ P w K mg base n8 2 t.gq t.sY ["_law_town","_law_desk"] auC := by
 refine T.G9.ok gF (fun vs H Q E h => ?_) (fun cdv A outer s H vs Q E hr h => ?_)
 ·obtain ⟨A,n,m,S,se,l,r,d,p,rfl,_⟩ := h; rfl
 ·obtain ⟨A,n,m,S,se,l,r,d,p,rfl,M,hd,hdn,hlp,hp,hni,hws,hrl,hul,k⟩ := h
  have hu := j7 hr
  have sl : sizeLine = 16777216 := by decide
  refine ⟨_,(ak (bu (i := 2) gF.nd rfl (Or.inl rfl) (eX PySem.F.plainAttrs_list PySem.F.slot_list_pop PySem.F.type_list_pop De (aL bA (bG hu (pv 0) aC (fun _ _ => rfl)) (pv 1) (fun _ _ => rfl)) (aa az ao)))
   (ak (bu (i := 3) gF.nd rfl (Or.inl rfl) (aL bw (pv 2) az (fun _ _ => rfl)))
   (ak (bu (i := 4) gF.nd rfl (Or.inl rfl) (aL bA (aL bA (bG hu (pv 0) aC (fun _ _ => rfl)) (pv 1) (fun _ _ => rfl)) (pv 3) (fun _ _ => rfl)))
   (ak (cu (aR cO (aL bw (pv 2) az (fun _ _ => rfl)) aC (bf _)) (ak (yr (aL bw (pv 2) az (fun _ _ => rfl)) (HR (aL bA (bG hu (pv 0) aC (fun _ _ => rfl)) (pv 1) (fun _ _ => rfl)) (pv 3) set_list))
   (ak (yr (aL bw (pv 2) az (fun _ _ => rfl)) (HR (aL bA (bG hu (pv 0) aC (fun _ _ => rfl)) (pv 1) (fun _ _ => rfl)) (pv 3) set_list))
   (ak (bu (i := 5) gF.nd rfl (Or.inl rfl) (aL bA (bG hu (pv 0) aC (fun _ _ => rfl)) (pv 1) (fun _ _ => rfl)))
   (ak (cu (PW.pt (Oe (vD (ur (pv 5))) (Oe (aR cO (aL bw (pv 5) az (fun _ _ => rfl)) (pv 3) (bf _)) (JZ (p7 (cG (Q4 T) (hr.mono (by decide) : bR 1 _) (by rfl) T.Wl T.Io.kp T.Wk .nil bW (aa (aL bw (pv 2) az (fun _ _ => rfl)) (aa (pv 5) ao)))))))) (ak (yr rK (HR (bG hu (pv 0) aC (fun _ _ => rfl)) (pv 1) set_list))
   (aB (bM (cG (Ek T) (hr.mono (by decide) : bR 1 _) (by rfl) T.G8 T.vZ.kp T.GZ .nil bW (aa (pv 0) (aa (pv 1) (aa (pv 5) ao))))))) bB)
   (aB (bj (pv 2))))))) bB)
   (ak (bu (i := 6) gF.nd rfl (Or.inl rfl) rK)
   (ak (cu (aR cO (pv 4) aC (bf _)) (aB (bu (i := 6) gF.nd rfl (Or.inl rfl) (aL bA (aL bA (bG hu (pv 0) aC (fun _ _ => rfl)) (pv 1) (fun _ _ => rfl)) (pv 3) (fun _ _ => rfl)))) bB)
   (ak (cu (PW.pt (wG (aR cO (pv 4) aC (bf _)) (p8 (aR cO (aL bw (pv 2) az (fun _ _ => rfl)) aC (bf _))))) (aB (yr (aL bw (pv 2) az (fun _ _ => rfl)) (HR (aL bA (bG hu (pv 0) aC (fun _ _ => rfl)) (pv 1) (fun _ _ => rfl)) (pv 3) set_list))) bB)
   (ak (bM (eX PySem.F.plainAttrs_list PySem.F.slot_list_append PySem.F.type_list_append cD (aL bA (bG hu (pv 0) aC (fun _ _ => rfl)) (pv 1) (fun _ _ => rfl)) (aa (b8 (aa aC (aa (pv 3) (aa (pv 6) ao)))) ao)))
   (aB (bj (pv 2))))))))))),?_⟩
  try dsimp only [du,Cx.j6]
  show let Z1 : L2.TS := _; let Z2 : L2.TS := _; let Z3 : L2.TS := _; let Z4 : L2.TS := _; let Z5 : L2.TS := _; let Z6 : L2.TS := _; let Z7 : L2.TS := _; let Z8 : L2.TS := _; let Z9 : L2.TS := aQ Z7 (Z8); let Am : L2.TS := cY _ Z9 bJ; let Lb : L2.TS := _; let Ld : L2.TS := aQ Z4 (aQ Z5 (aQ Z6 (aQ Am (Lb)))); let Q0 : L2.TS := cY _ Ld bJ; let Q3 : L2.TS := _; let Z15 : L2.TS := _; let Z16 : L2.TS := cY _ Z15 bJ; let Z17 : L2.TS := _; let Z18 : L2.TS := cY _ Z17 bJ; let Z19 : L2.TS := _; let Z20 : L2.TS := _; let D0 : Ends := _; (aQ Z1 (aQ Z2 (aQ Z3 (aQ Q0 (aQ Q3 (aQ Z16 (aQ Z18 (aQ Z19 (Z20))))))))) D0 _ _
  intro Z1 Z2 Z3 Z4 Z5 Z6 Z7 Z8 Z9 Am Lb Ld Q0 Q3 Z15 Z16 Z17 Z18 Z19 Z20 D0
  obtain ⟨dv,d1,d2⟩ := M.dn hd
  rw [hdn] at d2
  obtain ⟨b,us,rfl,hb,d3⟩ := afq d2
  refine RX rfl (fc M.bx Gq) rfl (cz.of M.downs) (bK hd) ⟨.inl ⟨rfl,_,cz.of d1⟩,A (.dn d),_,0,0,_,rfl,rfl,d1,(by decide),(by decide),akS _ _,rfl,?_⟩
  rw [List.eraseIdx_cons_zero]
  obtain ⟨M1,f1⟩ := M.ajp hd d3
  have hb1 := (f1.tups M) b _ hb
  generalize upd H (A (.dn d)) (.lst us) = H1 at M1 f1 hb1
  generalize hS1 : ({ S with dn := bO S.dn d r } : TS) = S1 at M1
  have hds : S1.ds = S.ds := by rw [← hS1]
  have auD : S1.up = S.up := by rw [← hS1]
  have hrw : S1.row = S.row := by rw [← hS1]
  have hl1 : Ol l.vs 1 = some (.int p) := by cases l <;> exact congrArg (fun z => some (V.int z)) hlp
  have hrt := M1.rt hd
  rw [hds] at hrt
  refine zt rfl (dq.of hb1) hl1 ?_
  refine RX rfl (fc M1.bx kZ) rfl (cz.of M1.rights) (bK hd) (zl rfl (cz.of hrt) (bK hp) ?_)
  cases l with
  | lend q x y =>
    have hq : q = (p : Int) := hlp
    subst hq
    have hx : x = .rd∨x = .wr := hni
    refine zt rfl (dq.of hb1) rfl ⟨rfl,_,rfl,?_⟩
    refine bF fu ?_
    refine zt rfl (dq.of hb1) rfl (RX rfl (fc M1.bx kZ) rfl (cz.of M1.rights) (bK hd) ⟨_,rfl,A (.rt d),_,_,p,rfl,rfl,hrt,zx (by simpa using hp),?_⟩)
    have e1 : ((List.range m).map fun q : Nat => V.str ((S.ds d).rt q).s).set p (.str x.s) = (List.range m).map fun q : Nat => V.str (({ S.ds d with rt := ((S.ds d).hold p x y).rt } : DS).rt q).s := by
     refine xN hp ?_ fun q hq => ?_
     ·show V.str (if (p : Int) = p then x else _).s = _; rw [if_pos rfl]
     ·show V.str (if (q : Int) = p then x else _).s = _; rw [if_neg (by lia)]
    rw [e1]
    obtain ⟨M2,f2⟩ := M1.aq1 hd (D' := { S.ds d with rt := ((S.ds d).hold p x y).rt }) (by rw [hds]) (by rw [hds])
    have hb2 := (f2.tups M1) b _ hb1
    have f12 := f1.trans f2 (Mv.refl _ _ _ _)
    generalize upd H1 (A (.rt d)) (.lst ((List.range m).map fun q : Nat => V.str (({ S.ds d with rt := ((S.ds d).hold p x y).rt } : DS).rt q).s)) = H2 at M2 f2 hb2 f12
    have hcp := M2.cp hd
    simp only [aM] at hcp
    refine zt rfl (dq.of hb2) rfl (RX rfl (fc M2.bx rQ) rfl (cz.of M2.copies) (bK hd) ⟨_,rfl,A (.cp d),_,_,p,rfl,rfl,hcp,zx (by simpa using hp),?_⟩)
    have e2 : ((List.range m).map fun q : Nat => V.int ((S.ds d).nm q)).set p (.int y) = (List.range m).map fun q : Nat => V.int (((S.ds d).hold p x y).nm q) := by
     refine xN hp ?_ fun q hq => ?_
     ·show V.int (if (p : Int) = p then y else _) = _; rw [if_pos rfl]
     ·show V.int (if (q : Int) = p then y else _) = _; rw [if_neg (by lia)]
    dsimp only
    rw [e2]
    obtain ⟨M3,f3⟩ := M2.auk hd (D' := (S.ds d).hold p x y) (by simp only [aM]) (by simp only [aM]; rfl)
    simp only [lG,hds] at M3
    have hb3 := (f3.tups M2) b _ hb2
    have f13 := f12.trans f3 (Mv.refl _ _ _ _)
    generalize upd H2 (A (.cp d)) (.lst ((List.range m).map fun q : Nat => V.int (((S.ds d).hold p x y).nm q))) = H3 at M3 f3 hb3 f13
    generalize hS3 : ({ S1 with ds := bO S.ds d ((S.ds d).hold p x y) } : TS) = S3 at M3
    have hd3 : S3.ds d = (S.ds d).hold p x y := by rw [← hS3]; exact aM _ _ _
    obtain ⟨wv,w1,w2,w3⟩ := M3.dJ
    obtain ⟨v,v1,v2⟩ := w3 d hd
    rw [hd3,DS.abu] at v2
    have hfin : S.RV d (.lend p x y) r = { S3 with ds := bO S3.ds d ((S.ds d).pG p x y).1,up := S.up,row := fU S.row d ((S.ds d).pG p x y).2 } := by
     rw [← hS3,← hS1]
     simp only [TS.RV,TS.kW,DS.wN,lG,List.append_nil,yD]
    refine RX rfl (fc M3.bx oA) rfl (cz.of w1) (Gj v1) ?_
    have none_ : ((S.ds d).pG p x y) = ((S.ds d).hold p x y,[])→aX H3 A n m (S.RV d (.lend p x y) r) se := fun e => by
     rw [hfin,e]
     have : ({ S3 with ds := bO S3.ds d ((S.ds d).hold p x y),up := S.up,row := fU S.row d [] } : TS) = S3 := by
      rw [← hd3,yD,← hS3,← hS1]; unfold fU; simp
     rw [this]; exact M3
    cases hw : (S.ds d).ws with
    | none =>
      rw [hw] at v2
      have ev : v = .non := v2
      subst ev
      refine ⟨_,rfl,_,rfl,?_⟩
      refine aO rfl (wJ ?_)
      exact ⟨_,rfl,k b H3 (none_ (by unfold DS.pG; rw [hw])) f13 hb3⟩
    | some w =>
      rw [hw] at v2
      obtain ⟨wa,ev,hwa⟩ := v2
      subst ev
      obtain ⟨q,hqm,hqp⟩ := hws w hw
      refine ⟨_,rfl,_,rfl,?_⟩
      refine bF rfl ?_
      refine zt rfl (dq.of hwa) (W.arB w) ⟨_,rfl,rfl,_,rfl,?_⟩
      by_cases epg : w.pg = (p : Int)
      ·refine bF (decide_eq_true (by rw [epg])) ?_
       refine zt rfl (dq.of hb3) rfl ⟨_,rfl,x,wa,w,rfl,hwa,_,rfl,?_⟩
       have ahf : ((S.ds d).hold p x y).ok w↔w.need.k≤x.k := by unfold DS.ok; rw [epg,DS.abp]
       by_cases hok : w.need.k≤x.k
       ·refine bF (decide_eq_true hok) ?_
        refine zd rfl (fc M3.bx oA) ⟨_,rfl,A .dJ,_,_,d,rfl,rfl,w1,by rw [w2]; exact zx hd,?_⟩
        obtain ⟨M4,f4⟩ := M3.ak2 hd (v := .non) (o := none) w1 rfl
        rw [hd3] at M4
        have axK := (f4.tups M3) wa _ hwa
        have hb4 := (f4.tups M3) b _ hb3
        refine ⟨_,rfl,_,rfl,_,rfl,A,n,m,_,se,wa,w,d,p,rfl,M4,hd,axK,epg,hp,?_,fun H5 M5 f5 => ?_⟩
        ·show S3.row.length≤_; rw [← hS3]; show S1.row.length≤_; rw [hrw]; exact hrl
        ·refine ⟨_,rfl,k b H5 ?_ ((f13.trans f4 (Mv.refl _ _ _ _)).trans f5 (Mv.refl _ _ _ _)) ((f5.tups M4) b _ hb4)⟩
         have el : (S.ds d).pG p x y = (({ (S.ds d).hold p x y with ws := none } : DS).done w,[(w.Dj,w.pg,((S.ds d).hold p x y).num w)]) := by
          unfold DS.pG; rw [hw]; dsimp only; rw [if_pos ⟨epg,ahf.mpr hok⟩]
         rw [hfin,el]
         simp only [aM,lG] at M5
         have en : ({ (S.ds d).hold p x y with ws := none } : DS).num w = ((S.ds d).hold p x y).num w := by cases w <;> rfl
         have er : S3.row = S.row := by rw [← hS3]; exact hrw
         have eu : S3.up = S.up := by rw [← hS3]; exact auD
         rw [en,er] at M5
         have : ({ S3 with ds := bO S3.ds d (({ (S.ds d).hold p x y with ws := none } : DS).done w),up := S.up,row := fU S.row d [(w.Dj,w.pg,((S.ds d).hold p x y).num w)] } : TS) = { S3 with ds := bO S3.ds d (({ (S.ds d).hold p x y with ws := none } : DS).done w),row := fU S.row d [(w.Dj,w.pg,((S.ds d).hold p x y).num w)] } := by rw [← eu]
         rw [this]
         exact M5
       ·refine aO (decide_eq_false hok) ?_
        exact ⟨_,rfl,k b H3 (none_ (by unfold DS.pG; rw [hw]; dsimp only; rw [if_neg fun z => hok (ahf.mp z.2)])) f13 hb3⟩
      ·refine aO (decide_eq_false fun z => epg (V.int.inj z)) (wJ ?_)
       exact ⟨_,rfl,k b H3 (none_ (by unfold DS.pG; rw [hw]; dsimp only; rw [if_neg fun z => epg z.1])) f13 hb3⟩
  | back q x =>
    have hq : q = (p : Int) := hlp
    subst hq
    have hx : x = .rd∨x = .no := hni
    refine zt rfl (dq.of hb1) rfl ⟨rfl,_,rfl,?_⟩
    refine aO (c7 (by decide +kernel)) ?_
    try dsimp only [bJ]
    refine fP (fun σ' H' => σ' = [some (.ref (A .bx)),some (.int d),some (.ref b),some (.int p),some (.str ((S.ds d).rt p).s),none,some .non]∧H' = H1) (fun N hN => hN _ _ ⟨rfl,rfl⟩) ?_
    rintro σ' H1' ⟨rfl,rfl⟩
    try dsimp only [bJ]
    refine fP (fun σ' H' => σ' = [some (.ref (A .bx)),some (.int d),some (.ref b),some (.int p),some (.str ((S.ds d).rt p).s),none,some (oV ((S.ds d).lZ p))]∧H' = H1') (fun N hN => ?_) ?_
    ·refine ⟨_,rfl,rfl,_,rfl,?_⟩
     by_cases e : (S.ds d).rt p = .wr
     ·refine bF (by rw [e]; exact fu) ?_
      have hcp := M1.cp hd
      rw [hds] at hcp
      refine RX rfl (fc M1.bx rQ) rfl (cz.of M1.copies) (bK hd) (zl rfl (cz.of hcp) (bK hp) ?_)
      refine hN _ _ ⟨?_,rfl⟩
      unfold DS.lZ
      rw [if_pos e]; rfl
     ·refine aO (nC (x := "write") (q := .wr) rfl e) ?_
      refine hN _ _ ⟨?_,rfl⟩
      unfold DS.lZ
      rw [if_neg e]; rfl
    ·rintro σ' auE ⟨rfl,rfl⟩
     try dsimp only [bJ]
     refine fP (fun σ' H' => σ' = [some (.ref (A .bx)),some (.int d),some (.ref b),some (.int p),some (.str ((S.ds d).rt p).s),none,some (oV ((S.ds d).lZ p))]∧aX H' A n m { S1 with ds := bO S1.ds d ((S.ds d).down p x) } se∧mj H H' A n m∧H' b = some (.tup (Let.back p x).vs)) (fun N hN => ?_) ?_
     ·have aaT : ∀ D',D' = (S.ds d).hold p x ((S.ds d).nm p)→D' = (S.ds d).down p x→
       (ap9 (Vk (agJ K) (iY 2) (tC (.int 2))) (atA (Vk (ajc K) (Vu (iY 0) (tC (.str "rights"))) (iY 1)) (iY 3) apo)) { nx := N,rt := Q } [some (.ref (A .bx)),some (.int d),some (.ref b),some (.int p),some (.str ((S.ds d).rt p).s),none,some (oV ((S.ds d).lZ p))] auE := fun D' eD eD2 => by
       refine zt rfl (dq.of hb1) rfl (RX rfl (fc M1.bx kZ) rfl (cz.of M1.rights) (bK hd) ⟨_,rfl,A (.rt d),_,_,p,rfl,rfl,hrt,zx (by simpa using hp),?_⟩)
       have e1 : ((List.range m).map fun q : Nat => V.str ((S.ds d).rt q).s).set p (.str x.s) = (List.range m).map fun q : Nat => V.str (D'.rt q).s := by
        rw [eD]
        refine xN hp ?_ fun q hq => ?_
        ·show V.str (if (p : Int) = p then x else _).s = _; rw [if_pos rfl]
        ·show V.str (if (q : Int) = p then x else _).s = _; rw [if_neg (by lia)]
       rw [e1]
       have enm : D'.nm = (S1.ds d).nm := by rw [eD,hds]; funext q; show (if q = (p : Int) then (S.ds d).nm p else (S.ds d).nm q) = _; split <;> simp_all
       have ews : D'.ws = (S1.ds d).ws := by rw [eD,hds]; rfl
       obtain ⟨M2,f2⟩ := M1.aq1 hd (D' := D') enm ews
       exact hN _ _ ⟨rfl,by rw [← eD2]; exact M2,f1.trans f2 (Mv.refl _ _ _ _),(f2.tups M1) b _ hb1⟩
      have stay : (S.ds d).down p x = S.ds d→N [some (.ref (A .bx)),some (.int d),some (.ref b),some (.int p),some (.str ((S.ds d).rt p).s),none,some (oV ((S.ds d).lZ p))] auE := fun e => by
       refine hN _ _ ⟨rfl,?_,f1,hb1⟩
       have : ({ S1 with ds := bO S1.ds d ((S.ds d).down p x) } : TS) = S1 := by rw [e,← hds,yD]
       rw [this]; exact M1
      refine ⟨_,rfl,rfl,_,rfl,?_⟩
      cases hrp : (S.ds d).rt p with
      | wr =>
        refine bF fu (oh ?_)
        rw [hrp] at aaT
        refine aaT _ rfl ?_
        unfold DS.down
        rw [hrp,if_neg (by rcases hx with z | z <;> rw [z] <;> decide)]
      | rd =>
        refine aO (nC (x := "write") (q := .wr) rfl (by intro z; cases z)) ?_
        refine zt rfl (dq.of hb1) rfl ⟨rfl,_,rfl,?_⟩
        rw [hrp] at aaT stay
        rcases hx with z | z
        ·subst z
         refine aO (nC (x := "none") (q := .no) rfl (by intro z; cases z)) ?_
         exact stay (by unfold DS.down; rw [hrp,if_pos (by decide)])
        ·subst z
         refine bF fu ?_
         exact aaT _ rfl (by unfold DS.down; rw [hrp,if_neg (by decide)])
      | no =>
        refine aO (nC (x := "write") (q := .wr) rfl (by intro z; cases z)) ?_
        refine zt rfl (dq.of hb1) rfl ⟨rfl,_,rfl,?_⟩
        rw [hrp] at aaT stay
        rcases hx with z | z
        ·subst z
         refine aO (nC (x := "none") (q := .no) rfl (by intro z; cases z)) ?_
         exact stay (by unfold DS.down; rw [hrp,if_pos (by decide)])
        ·subst z
         refine bF fu ?_
         have e0 : (S.ds d).down p .no = S.ds d := by unfold DS.down; rw [hrp,if_pos (by decide)]
         exact aaT _ rfl (by rw [e0]; exact DS.ajC _ _ _ hrp)
     ·rintro σ' H2 ⟨rfl,M2,f2,hb2⟩
      obtain ⟨uv,u1,u2⟩ := M2.up hd
      have alm : uv.length < sizeLine := by rw [u2.length,List.length_map]; show (S1.up d).length < _; rw [auD]; lia
      refine RX rfl (fc M2.bx Kg) rfl (cz.of M2.ups) (bK hd) ⟨.inl ⟨rfl,_,cz.of u1⟩,_,rfl,_,rfl,zz3,fun c hc => ?_⟩
      have s3 := aA (o := .tup [.str "answer",.int p,oV ((S.ds d).lZ p)]) hc
      refine ⟨A (.up d),uv,_,rfl,rfl,s3 _ _ u1,alm,?_⟩
      have rp : aG (upd H2 c (.tup [.str "answer",.int p,oV ((S.ds d).lZ p)])) (uv ++ [.ref c]) ((S1.up d ++ [UL.ans p ((S.ds d).lZ p)]).map UL.d) := by
       rw [List.map_append]
       exact aG.snoc (u2.aU (aY s3) (bU UL.flat _)) (Wx (l := .ans p ((S.ds d).lZ p)) aj)
      obtain ⟨M4,f4⟩ := (M2.same s3).aeR hd rp
      refine ⟨_,rfl,k b _ ?_ ((f2.trans (mj.of_same (A := A) s3) (Mv.refl _ _ _ _)).trans f4 (Mv.refl _ _ _ _)) ((f4.tups (M2.same s3)) b _ (s3 _ _ hb2))⟩
      have : S.RV d (.back p x) r = { S1 with ds := bO S1.ds d ((S.ds d).down p x),up := bO S1.up d (S1.up d ++ [UL.ans p ((S.ds d).lZ p)]) } := by
       rw [← hS1]
       simp only [TS.RV,TS.kW,DS.wN,Int.toNat_natCast,fU]
       simp
      rw [this]
      exact M4
end
end iz
namespace iz
open PySem L2
def cA.dk : cA→Int
 | .look d _ => d
 | .put d _ _ => d
 | .rest d _ => d
 | .up d => d
 | .down d => d
def cA.tag : cA→Str
 | .look _ _ => "look"
 | .put _ _ _ => "put"
 | .rest _ _ => "rest"
 | .up _ => "up"
 | .down _ => "down"
theorem cA.at0 (x : cA) : Ol x.vs 0 = some (.str x.tag) := by cases x <;> rfl
theorem cA.at1 (x : cA) : Ol x.vs 1 = some (.int x.dk) := by cases x <;> rfl
def oX (n m : Nat) (S : TS) (x : cA) : Str := if inR x.dk n then (match x with
 | .up d => bif (S.up d.toNat).isEmpty then "no letter" else ""
 | .down d => bif (S.dn d.toNat).isEmpty then "no letter" else ""
 | .rest d p => if inR p m then (bif decide ((S.ds d.toNat).rt p = .no) then "no copy" else "") else "no page"
 | .look d p => if inR p m then (bif (S.ds d.toNat).ws.isSome then "waiting" else "") else "no page"
 | .put d p _ => if inR p m then (bif (S.ds d.toNat).ws.isSome then "waiting" else "") else "no page") else "no desk"
theorem Wz {x y : Str} {c : Bool} : Ol [V.str x,V.str y] (if c then 1 else 0) = some (.str (bif c then y else x)) := by cases c <;> rfl
def auF : Sp := fun vs H Q _ => ∃ A n m S se a x,vs = [.ref (A .bx),.ref a]∧aX H A n m S se∧H a = some (.tup (cA.vs x))∧∀ H',bZ H H'→Q (.str (oX n m S x)) H'
section
variable {P : Program} {w : World} {K : PySem.W.Frag} {mg : Str→Option Value} {base : Heap} {t : JV}
theorem Su (T : Txt K w mg t) : cZ P w K mg base n8 1 t.fM t.qz ["_law_town","_law_deed"] auF := by
 refine T.Eg.ok Ae (fun vs H Q E h => ?_) (fun cdv A outer s H vs Q E hr h => ?_)
 ·obtain ⟨A,n,m,S,se,a,x,rfl,_⟩ := h; rfl
 ·obtain ⟨A,n,m,S,se,a,x,rfl,M,ha,k⟩ := h
  have hu := j7 hr
  have eus : (("up" : Str) ++ ("s" : Str)) = "ups" := by decide +kernel
  have eds : (("down" : Str) ++ ("s" : Str)) = "downs" := by decide +kernel
  refine ⟨_,(ak (bu (i := 2) Ae.nd rfl (Or.inl rfl) (aL bw (pv 1) az (fun _ _ => rfl)))
   (ak (cu (PW.pt (wG (aR aaw (pv 2) az (bf _)) (p8 (aR Vl (pv 2) (dG dO (by rfl) T.Aj PySem.boot_len (aa (bG hu (pv 0) aC (fun _ _ => rfl)) ao)) (bf _))))) (aB (bj aC)) bB)
   (ak (cu (PW.pt (wG (aR cO (aL bw (pv 1) az (fun _ _ => rfl)) aC (bf _)) (p8 (aR cO (aL bw (pv 1) az (fun _ _ => rfl)) aC (bf _))))) (aB (bj (aL bA (bL (aa aC (aa aC ao))) (iI lE (by rfl) T.KZ PyProof.Rows.Boot.«int» (aa (lR (akK hr.agE) (aL bA (bG hu (pv 0) (bD agA (aL bw (pv 1) az (fun _ _ => rfl)) aC) (fun _ _ => rfl)) (pv 2) (fun _ _ => rfl)) (bL ao) (bf _)) ao)) (fun _ _ => rfl)))) bB)
   (ak (cu (PW.pt (wG (aR aaw (aL bw (pv 1) az (fun _ _ => rfl)) az (bf _)) (p8 (aR Vl (aL bw (pv 1) az (fun _ _ => rfl)) (dG dO (by rfl) T.Aj PySem.boot_len (aa (bG hu (pv 0) aC (fun _ _ => rfl)) ao)) (bf _))))) (aB (bj aC)) bB)
   (ak (cu (aR cO (aL bw (pv 1) az (fun _ _ => rfl)) aC (bf _)) (aB (bj (aL bA (bL (aa aC (aa aC ao))) (iI lE (by rfl) T.KZ PyProof.Rows.Boot.«int» (aa (lR cO (aL bA (aL bA (bG hu (pv 0) aC (fun _ _ => rfl)) (pv 2) (fun _ _ => rfl)) (aL bw (pv 1) az (fun _ _ => rfl)) (fun _ _ => rfl)) aC (bf _)) ao)) (fun _ _ => rfl)))) bB)
   (aB (bj (aL bA (bL (aa aC (aa aC ao))) (iI lE (by rfl) T.KZ PyProof.Rows.Boot.«int» (aa (akh (ur (aL bA (bG hu (pv 0) aC (fun _ _ => rfl)) (pv 2) (fun _ _ => rfl)))) ao)) (fun _ _ => rfl))))))))),?_⟩
  try dsimp only [du,Cx.j6]
  show let Z1 : L2.TS := _; let Z2 : L2.TS := _; let Z3 : L2.TS := cY _ Z2 bJ; let Z4 : L2.TS := _; let Z5 : L2.TS := cY _ Z4 bJ; let Z6 : L2.TS := _; let Z7 : L2.TS := cY _ Z6 bJ; let Z8 : L2.TS := _; let Z9 : L2.TS := cY _ Z8 bJ; let Am : L2.TS := _; let D0 : Ends := _; (aQ Z1 (aQ Z3 (aQ Z5 (aQ Z7 (aQ Z9 (Am)))))) D0 _ _
  intro Z1 Z2 Z3 Z4 Z5 Z6 Z7 Z8 Z9 Am D0
  obtain ⟨ws,w1,w2,w3⟩ := M.dJ
  refine zt rfl (dq.of ha) (cA.at1 x) ?_
  refine ⟨_,rfl,_,_,rfl,rfl,_,rfl,?_⟩
  have alo : ¬ inR x.dk n→Q (.str "no desk") H := fun h => by
   have := k H (bZ.refl _)
   unfold oX at this
   rw [if_neg h] at this
   exact this
  by_cases h0 : x.dk < 0
  ·refine bF (decide_eq_true h0) (oh ?_)
   exact alo fun h => by unfold inR at h; lia
  ·refine aO (decide_eq_false h0) ?_
   refine ⟨_,rfl,zd rfl (fc M.bx oA) ⟨A .dJ,ws,rfl,.inl (cz.of w1),_,_,rfl,rfl,_,rfl,?_⟩⟩
   rw [w2]
   by_cases h1 : (n : Int)≤x.dk
   ·refine bF (decide_eq_true h1) ?_
    exact alo fun h => by unfold inR at h; lia
   ·refine aO (decide_eq_false h1) ?_
    have hin : inR x.dk n := ⟨by lia,by lia⟩
    have k' := k
    unfold oX at k'
    rw [if_pos hin] at k'
    obtain ⟨d,hd⟩ : ∃ d : Nat,x.dk = (d : Int) := ⟨x.dk.toNat,by lia⟩
    have hdn : d < n := by lia
    rw [hd]
    cases x with
    | up d' =>
      have e : d' = (d : Int) := hd
      subst e
      simp only [Int.toNat_natCast] at k'
      refine zt rfl (dq.of ha) rfl ⟨rfl,_,rfl,?_⟩
      refine bF fu (oh ?_)
      obtain ⟨uv,u1,u2⟩ := M.up hdn
      refine ⟨uo,fun z hz => ?_⟩
      have s1 := aA (o := .lst [.str "",.str "no letter"]) hz
      refine ⟨_,rfl,zt rfl (dq.of (s1 _ _ ha)) rfl ⟨_,_,rfl,rfl,(by decide +kernel),A .bx,.ref (A .ups),rfl,(by rw [eus]; exact fc (s1 _ _ M.bx) Kg),zl rfl (cz.of (s1 _ _ M.ups)) (bK hdn) ⟨CZ,fun e he => ?_⟩⟩⟩
      have s2 := aA (o := .lst []) he
      refine ⟨A (.up d),e,uv,rfl,rfl,cz.of (s2 _ _ (s1 _ _ u1)),cz.of aj,.inr ⟨_,rfl,z,_,_,_,rfl,rfl,cz.of (s2 _ _ aj),Wz,?_⟩⟩
      have eu : uv.isEmpty = (S.up d).isEmpty := by rw [iz.aG.isEmpty u2]; cases S.up d <;> rfl
      have := k' _ (s1.trans s2)
      rw [← eu] at this
      exact this
    | down d' =>
      have e : d' = (d : Int) := hd
      subst e
      simp only [Int.toNat_natCast] at k'
      refine zt rfl (dq.of ha) rfl ⟨rfl,_,rfl,?_⟩
      refine aO (c7 (show ("down" : Str)≠"up" by decide +kernel)) ?_
      refine zt rfl (dq.of ha) rfl ⟨rfl,_,rfl,?_⟩
      refine bF fu ?_
      obtain ⟨uv,u1,u2⟩ := M.dn hdn
      refine ⟨uo,fun z hz => ?_⟩
      have s1 := aA (o := .lst [.str "",.str "no letter"]) hz
      refine ⟨_,rfl,zt rfl (dq.of (s1 _ _ ha)) rfl ⟨_,_,rfl,rfl,(by decide +kernel),A .bx,.ref (A .downs),rfl,(by rw [eds]; exact fc (s1 _ _ M.bx) Gq),zl rfl (cz.of (s1 _ _ M.downs)) (bK hdn) ⟨CZ,fun e he => ?_⟩⟩⟩
      have s2 := aA (o := .lst []) he
      refine ⟨A (.dn d),e,uv,rfl,rfl,cz.of (s2 _ _ (s1 _ _ u1)),cz.of aj,.inr ⟨_,rfl,z,_,_,_,rfl,rfl,cz.of (s2 _ _ aj),Wz,?_⟩⟩
      have eu : uv.isEmpty = (S.dn d).isEmpty := by rw [iz.aG.isEmpty u2]; cases S.dn d <;> rfl
      have := k' _ (s1.trans s2)
      rw [← eu] at this
      exact this
    | rest d' y =>
      have e : d' = (d : Int) := hd
      subst e
      simp only [Int.toNat_natCast] at k'
      refine zt rfl (dq.of ha) rfl ⟨rfl,_,rfl,?_⟩
      refine aO (c7 (show ("rest" : Str)≠"up" by decide +kernel)) ?_
      refine zt rfl (dq.of ha) rfl ⟨rfl,_,rfl,?_⟩
      refine aO (c7 (show ("rest" : Str)≠"down" by decide +kernel)) ?_
      refine zt rfl (dq.of ha) rfl ⟨_,_,rfl,rfl,_,rfl,?_⟩
      by_cases h2 : y < 0
      ·refine bF (decide_eq_true h2) (oh ?_)
       have := k' H (bZ.refl _)
       rw [if_neg (fun h => by unfold inR at h; lia)] at this
       exact this
      ·refine aO (decide_eq_false h2) ?_
       refine zt rfl (dq.of ha) rfl (zd rfl (fc M.bx jJ) ⟨A .cR,_,rfl,.inl (cz.of M.cR),_,_,rfl,rfl,_,rfl,?_⟩)
       rw [List.length_map,List.length_range]
       by_cases h3 : (m : Int)≤y
       ·refine bF (decide_eq_true h3) ?_
        have := k' H (bZ.refl _)
        rw [if_neg (fun h => by unfold inR at h; lia)] at this
        exact this
       ·refine aO (decide_eq_false h3) ?_
        have hy : inR y m := ⟨by lia,by lia⟩
        obtain ⟨p,hp⟩ : ∃ p : Nat,y = (p : Int) := ⟨y.toNat,by lia⟩
        subst hp
        have hpm : p < m := by lia
        rw [if_pos hy] at k'
        refine zt rfl (dq.of ha) rfl ⟨rfl,_,rfl,?_⟩
        refine bF fu ?_
        refine ⟨uo,fun z hz => ?_⟩
        have s1 := aA (o := .lst [.str "",.str "no copy"]) hz
        refine RX rfl (fc (s1 _ _ M.bx) kZ) rfl (cz.of (s1 _ _ M.rights)) (bK hdn) (zt rfl (dq.of (s1 _ _ ha)) rfl ⟨A (.rt d),_,p,_,rfl,rfl,cz.of (s1 _ _ (M.rt hdn)),bK hpm,rfl,.inr ⟨_,rfl,z,_,_,_,rfl,rfl,cz.of aj,Wz,?_⟩⟩)
        have := k' _ s1
        have er : decide (V.str ((S.ds d).rt p).s = V.str "none") = decide ((S.ds d).rt p = .no) := by
         by_cases e : (S.ds d).rt p = .no
         ·rw [e]; rfl
         ·rw [nC (x := "none") (q := .no) rfl e,decide_eq_false e]
        rw [← er] at this
        exact this
    | look d' y =>
      have e : d' = (d : Int) := hd
      subst e
      simp only [Int.toNat_natCast] at k'
      refine zt rfl (dq.of ha) rfl ⟨rfl,_,rfl,?_⟩
      refine aO (c7 (show ("look" : Str)≠"up" by decide +kernel)) ?_
      refine zt rfl (dq.of ha) rfl ⟨rfl,_,rfl,?_⟩
      refine aO (c7 (show ("look" : Str)≠"down" by decide +kernel)) ?_
      refine zt rfl (dq.of ha) rfl ⟨_,_,rfl,rfl,_,rfl,?_⟩
      by_cases h2 : y < 0
      ·refine bF (decide_eq_true h2) (oh ?_)
       have := k' H (bZ.refl _)
       rw [if_neg (fun h => by unfold inR at h; lia)] at this
       exact this
      ·refine aO (decide_eq_false h2) ?_
       refine zt rfl (dq.of ha) rfl (zd rfl (fc M.bx jJ) ⟨A .cR,_,rfl,.inl (cz.of M.cR),_,_,rfl,rfl,_,rfl,?_⟩)
       rw [List.length_map,List.length_range]
       by_cases h3 : (m : Int)≤y
       ·refine bF (decide_eq_true h3) ?_
        have := k' H (bZ.refl _)
        rw [if_neg (fun h => by unfold inR at h; lia)] at this
        exact this
       ·refine aO (decide_eq_false h3) ?_
        have hy : inR y m := ⟨by lia,by lia⟩
        rw [if_pos hy] at k'
        refine zt rfl (dq.of ha) rfl ⟨rfl,_,rfl,?_⟩
        refine aO (c7 (show ("look" : Str)≠"rest" by decide +kernel)) ?_
        refine ⟨uo,fun z hz => ?_⟩
        have s1 := aA (o := .lst [.str "",.str "waiting"]) hz
        obtain ⟨v,v1,v2⟩ := w3 d hdn
        have ev : (!decide (v = V.non)) = (S.ds d).ws.isSome := by
         cases hws : (S.ds d).ws with
         | none => rw [hws] at v2; have e : v = .non := v2; rw [e]; rfl
         | some w' => rw [hws] at v2; obtain ⟨a',e,_⟩ := v2; rw [e]; rfl
        refine RX rfl (fc (s1 _ _ M.bx) oA) rfl (cz.of (s1 _ _ w1)) (Gj v1) (.inr ⟨_,rfl,z,_,_,_,rfl,rfl,cz.of aj,Wz,?_⟩)
        have := k' _ s1
        rw [← ev] at this
        exact this
    | put d' y q =>
      have e : d' = (d : Int) := hd
      subst e
      simp only [Int.toNat_natCast] at k'
      refine zt rfl (dq.of ha) rfl ⟨rfl,_,rfl,?_⟩
      refine aO (c7 (show ("put" : Str)≠"up" by decide +kernel)) ?_
      refine zt rfl (dq.of ha) rfl ⟨rfl,_,rfl,?_⟩
      refine aO (c7 (show ("put" : Str)≠"down" by decide +kernel)) ?_
      refine zt rfl (dq.of ha) rfl ⟨_,_,rfl,rfl,_,rfl,?_⟩
      by_cases h2 : y < 0
      ·refine bF (decide_eq_true h2) (oh ?_)
       have := k' H (bZ.refl _)
       rw [if_neg (fun h => by unfold inR at h; lia)] at this
       exact this
      ·refine aO (decide_eq_false h2) ?_
       refine zt rfl (dq.of ha) rfl (zd rfl (fc M.bx jJ) ⟨A .cR,_,rfl,.inl (cz.of M.cR),_,_,rfl,rfl,_,rfl,?_⟩)
       rw [List.length_map,List.length_range]
       by_cases h3 : (m : Int)≤y
       ·refine bF (decide_eq_true h3) ?_
        have := k' H (bZ.refl _)
        rw [if_neg (fun h => by unfold inR at h; lia)] at this
        exact this
       ·refine aO (decide_eq_false h3) ?_
        have hy : inR y m := ⟨by lia,by lia⟩
        rw [if_pos hy] at k'
        refine zt rfl (dq.of ha) rfl ⟨rfl,_,rfl,?_⟩
        refine aO (c7 (show ("put" : Str)≠"rest" by decide +kernel)) ?_
        refine ⟨uo,fun z hz => ?_⟩
        have s1 := aA (o := .lst [.str "",.str "waiting"]) hz
        obtain ⟨v,v1,v2⟩ := w3 d hdn
        have ev : (!decide (v = V.non)) = (S.ds d).ws.isSome := by
         cases hws : (S.ds d).ws with
         | none => rw [hws] at v2; have e : v = .non := v2; rw [e]; rfl
         | some w' => rw [hws] at v2; obtain ⟨a',e,_⟩ := v2; rw [e]; rfl
        refine RX rfl (fc (s1 _ _ M.bx) oA) rfl (cz.of (s1 _ _ w1)) (Gj v1) (.inr ⟨_,rfl,z,_,_,_,rfl,rfl,cz.of aj,Wz,?_⟩)
        have := k' _ s1
        rw [← ev] at this
        exact this
end
end iz
namespace iz
open PySem L2
theorem ab5 {x : Str} (h : x≠"") : (!decide (V.str x = V.str "")) = true := by rw [c7 h]; rfl
def arC : Sp := fun vs H Q _ => ∃ A n m S se a x t,vs = [.ref (A .bx),.ref a]∧aX H A n m S se∧H a = some (.tup (cA.vs x))∧jV n m S∧Bd t S se∧t≤1500∧
 ∀ v A' H',aX H' A' n m (S.step n m x).1 (se ++ S.j9 n x)→mj H H' A n m→Mv H A A' n m→Rep H' v (S.step n m x).2→Q v H'
theorem afr {n m : Nat} {S : TS} {x : cA} (h : oX n m S x≠"") : S.step n m x = (S,.s (oX n m S x))∧S.j9 n x = [] := by
 unfold oX at h ⊢
 by_cases hd : inR x.dk n
 ·rw [if_pos hd] at h ⊢
  cases x with
  | up d =>
    have hd' : inR d n := hd
    simp only [TS.step,TS.j9,if_pos hd',TS.upD] at h ⊢
    cases e : S.up d.toNat with
    | nil => exact ⟨rfl,rfl⟩
    | cons l r => rw [e] at h; exact absurd rfl h
  | down d =>
    have hd' : inR d n := hd
    simp only [TS.step,TS.j9,if_pos hd',TS.QM] at h ⊢
    cases e : S.dn d.toNat with
    | nil => exact ⟨rfl,trivial⟩
    | cons l r => rw [e] at h; exact absurd rfl h
  | rest d p =>
    have hd' : inR d n := hd
    simp only [TS.step,TS.j9,if_pos hd'] at h ⊢
    by_cases hp : inR p m
    ·simp only [if_pos hp] at h ⊢
     by_cases e : (S.ds d.toNat).rt p = .no
     ·simp only [if_pos e,decide_eq_true e,cond_true]; exact ⟨trivial,trivial⟩
     ·rw [decide_eq_false e] at h; exact absurd rfl h
    ·simp only [if_neg hp]; exact ⟨trivial,trivial⟩
  | look d p =>
    have hd' : inR d n := hd
    simp only [TS.step,TS.j9,if_pos hd'] at h ⊢
    by_cases hp : inR p m
    ·simp only [if_pos hp] at h ⊢
     cases e : (S.ds d.toNat).ws with
     | none => rw [e] at h; exact absurd rfl h
     | some w => unfold TS.wish; rw [e]; exact ⟨rfl,trivial⟩
    ·simp only [if_neg hp]; exact ⟨trivial,trivial⟩
  | put d p y =>
    have hd' : inR d n := hd
    simp only [TS.step,TS.j9,if_pos hd'] at h ⊢
    by_cases hp : inR p m
    ·simp only [if_pos hp] at h ⊢
     cases e : (S.ds d.toNat).ws with
     | none => rw [e] at h; exact absurd rfl h
     | some w => unfold TS.wish; rw [e]; exact ⟨rfl,trivial⟩
    ·simp only [if_neg hp]; exact ⟨trivial,trivial⟩
 ·rw [if_neg hd] at h ⊢
  cases x <;> (simp only [cA.dk] at hd; simp [TS.step,TS.j9,hd])
theorem ahg {n m : Nat} {S : TS} {x : cA} (h : oX n m S x = "") : inR x.dk n∧(match x with
 | .up d => S.up d.toNat≠[]
 | .down d => S.dn d.toNat≠[]
 | .rest d p => inR p m∧(S.ds d.toNat).rt p≠.no
 | .look d p => inR p m∧(S.ds d.toNat).ws = none
 | .put d p _ => inR p m∧(S.ds d.toNat).ws = none) := by
 have nd : ("no desk" : Str)≠"" := by decide +kernel
 have np : ("no page" : Str)≠"" := by decide +kernel
 have nl : ("no letter" : Str)≠"" := by decide +kernel
 have nc : ("no copy" : Str)≠"" := by decide +kernel
 have nw : ("waiting" : Str)≠"" := by decide +kernel
 unfold oX at h
 by_cases hd : inR x.dk n
 ·rw [if_pos hd] at h
  refine ⟨hd,?_⟩
  cases x with
  | up d => intro e; dsimp only at h; rw [e] at h; exact nl h
  | down d => intro e; dsimp only at h; rw [e] at h; exact nl h
  | rest d p =>
    dsimp only at h ⊢
    by_cases hp : inR p m
    ·rw [if_pos hp] at h
     refine ⟨hp,fun e => ?_⟩
     rw [decide_eq_true e] at h
     exact nc h
    ·rw [if_neg hp] at h; exact absurd h np
  | look d p =>
    dsimp only at h ⊢
    by_cases hp : inR p m
    ·rw [if_pos hp] at h
     refine ⟨hp,?_⟩
     cases e : (S.ds d.toNat).ws with
     | none => rfl
     | some w => rw [e] at h; exact absurd h nw
    ·rw [if_neg hp] at h; exact absurd h np
  | put d p y =>
    dsimp only at h ⊢
    by_cases hp : inR p m
    ·rw [if_pos hp] at h
     refine ⟨hp,?_⟩
     cases e : (S.ds d.toNat).ws with
     | none => rfl
     | some w => rw [e] at h; exact absurd h nw
    ·rw [if_neg hp] at h; exact absurd h np
 ·rw [if_neg hd] at h; exact absurd h nd
theorem Bd.room {t : Nat} {S : TS} {se : List (Nat×Let)} (b : Bd t S se) (ht : t≤1500) {k : Nat} (hk : k≤6000000) : An S se k := by
 have := apy ht
 exact ⟨fun d => by have := b.dn d; lia,by have := b.se; lia⟩
theorem aiJ {H : Hp} {b : Addr} {l : Let} (h : H b = some (.tup l.vs)) : Rep H (.ref b) l.d := by
 cases l with
 | lend p x y => simp only [Let.d,Rep,aG]; exact ⟨b,_,rfl,h,_,_,rfl,rfl,_,_,rfl,rfl,_,_,rfl,rfl,_,_,rfl,rfl,rfl⟩
 | back p x => simp only [Let.d,Rep,aG]; exact ⟨b,_,rfl,h,_,_,rfl,rfl,_,_,rfl,rfl,_,_,rfl,rfl,rfl⟩
def wd (d : Int) : W→cA
 | .look p => .look d p
 | .put p x => .put d p x
def aaU (S : DS) : W→D
 | .look p => .i (S.nm p)
 | .put _ _ => .s "done"
theorem axM (w : W) : w.vs = .str w.tag :: w.vs.tail := by cases w <;> rfl
theorem auG (w : W) : w.vs.tail≠[] := by cases w <;> simp [W.vs]
theorem alp (d : Int) (w : W) : Ol (wd d w).vs 2 = some (.int w.pg) := by cases w <;> rfl
theorem arD (d : Int) (w : W) : YH (wd d w).vs (some 2) none = w.vs.tail := by cases w <;> rfl
theorem auH (d : Int) (w : W) : ¬ (HT.nA (wd d w).vs.length 0 (some 2) = 0∧HT.nA (wd d w).vs.length (wd d w).vs.length none = (wd d w).vs.length) := by
 cases w with
 | look p => intro h; exact absurd (show HT.nA 3 0 (some 2) = 0 from h.1) (by decide)
 | put p x => intro h; exact absurd (show HT.nA 4 0 (some 2) = 0 from h.1) (by decide)
theorem arE (d : Int) (w : W) : (wd d w).tag = w.tag := by cases w <;> rfl
theorem auI (d : Int) (w : W) : (wd d w).dk = d := by cases w <;> rfl
theorem arF (d : Int) (w : W) : [V.str w.tag].length + w.vs.tail.length≤sizeLine := by
 cases w with
 | look p => show 2≤16777216; decide
 | put p x => show 3≤16777216; decide
theorem auJ (w : W) : w.tag≠"up" := by
 cases w with
 | look p => show ("look" : Str)≠"up"; decide +kernel
 | put p x => show ("put" : Str)≠"up"; decide +kernel
theorem anA (w : W) : w.tag≠"down" := by
 cases w with
 | look p => show ("look" : Str)≠"down"; decide +kernel
 | put p x => show ("put" : Str)≠"down"; decide +kernel
theorem anB (w : W) : w.tag≠"rest" := by
 cases w with
 | look p => show ("look" : Str)≠"rest"; decide +kernel
 | put p x => show ("put" : Str)≠"rest"; decide +kernel
theorem aiK {n m : Nat} {S : TS} {d p : Nat} {w : W} (hd : d < n) (hp : p < m) (hw : w.pg = (p : Int)) (h0 : (S.ds d).ws = none) :
 S.step n m (wd d w) = (S.kW d ((S.ds d).iC w p),if (S.ds d).ok w then aaU (S.ds d) w else .s "waits")∧S.j9 n (wd d w) = [] := by
 have h1 : inR (d : Int) n := ⟨by lia,by lia⟩
 have h2 : inR w.pg m := by rw [hw]; exact ⟨by lia,by lia⟩
 cases w with
 | look y =>
   have hy : y = (p : Int) := hw
   subst hy
   have h2' : inR (p : Int) m := h2
   simp only [wd,TS.step,TS.j9,if_pos h1,if_pos h2',Int.toNat_natCast,TS.wish,h0,aaU]
   exact ⟨trivial,trivial⟩
 | put y x =>
   have hy : y = (p : Int) := hw
   subst hy
   have h2' : inR (p : Int) m := h2
   simp only [wd,TS.step,TS.j9,if_pos h1,if_pos h2',Int.toNat_natCast,TS.wish,h0,aaU]
   exact ⟨trivial,trivial⟩
theorem auK {n m : Nat} {S : TS} {d : Int} {w : W} (h : oX n m S (wd d w) = "") : inR d n∧inR w.pg m∧(S.ds d.toNat).ws = none := by
 cases w with
 | look p => exact ahg (x := .look d p) h
 | put p x => exact ahg (x := .put d p x) h
section
variable {P : Program} {w : World} {K : PySem.W.Frag} {mg : Str→Option Value} {base : Heap} {t : JV}
theorem Zd (T : Txt K w mg t) : cZ P w K mg base n8 4 t.iu t.vV ["_law_town","_law_deed"] arC := by
 refine T.KR.ok jh (fun vs H Q E h => ?_) (fun cdv A outer s H vs Q E hr h => ?_)
 ·obtain ⟨A,n,m,S,se,a,x,tt,rfl,_⟩ := h; rfl
 ·obtain ⟨A,n,m,S,se,a,x,tt,rfl,M,ha,I,B,ht,k⟩ := h
  have hu := j7 hr
  have sl : sizeLine = 16777216 := by decide
  refine ⟨_,(ak (bu (i := 2) jh.nd rfl (Or.inl rfl) (cG (Su T) (hr.mono (by decide) : bR 1 _) (by rfl) T.Wn T.Eg.kp T.Wm .nil bW (aa (pv 0) (aa (pv 1) ao))))
   (ak (cu (aR z7 (pv 2) aC (bf _)) (aB (bj (pv 2))) bB)
   (ak (bu (i := 3) jh.nd rfl (Or.inl rfl) (aL bw (pv 1) az (fun _ _ => rfl)))
   (ak (cu (aR cO (aL bw (pv 1) az (fun _ _ => rfl)) aC (bf _)) (aB (bj (cG (ab4 T) (hr.mono (by decide) : bR 3 _) (by rfl) T.afl T.QX.kp T.afk .nil bW (aa (pv 0) (aa (pv 3) ao))))) bB)
   (ak (cu (aR cO (aL bw (pv 1) az (fun _ _ => rfl)) aC (bf _)) (aB (bj (cG (Wy T) (hr.mono (by decide) : bR 2 _) (by rfl) T.Y8 T.G9.kp T.Y7 .nil bW (aa (pv 0) (aa (pv 3) ao))))) bB)
   (ak (bu (i := 4) jh.nd rfl (Or.inl rfl) (aL bA (aL bA (bG hu (pv 0) aC (fun _ _ => rfl)) (pv 3) (fun _ _ => rfl)) (aL bw (pv 1) az (fun _ _ => rfl)) (fun _ _ => rfl)))
   (ak (cu (aR cO (aL bw (pv 1) az (fun _ _ => rfl)) aC (bf _)) (ak (cu (aR cO (pv 4) aC (bf _)) (aB (bM (eX PySem.F.plainAttrs_list PySem.F.slot_list_append PySem.F.type_list_append cD (aL bA (bG hu (pv 0) aC (fun _ _ => rfl)) (pv 3) (fun _ _ => rfl)) (aa (b8 (aa aC (aa (aL bw (pv 1) az (fun _ _ => rfl)) (aa (aL bA (aL bA (bG hu (pv 0) aC (fun _ _ => rfl)) (pv 3) (fun _ _ => rfl)) (aL bw (pv 1) az (fun _ _ => rfl)) (fun _ _ => rfl)) ao)))) ao)))) bB)
   (ak (yr aC (HR (aL bA (bG hu (pv 0) aC (fun _ _ => rfl)) (pv 3) (fun _ _ => rfl)) (aL bw (pv 1) az (fun _ _ => rfl)) set_list))
   (aB (bj aC)))) bB)
   (ak (bu (i := 5) jh.nd rfl (Or.inl rfl) (bD amT (b8 (aa (aL bw (pv 1) az (fun _ _ => rfl)) ao)) (aep aqh (pv 1) (ah5 az) ah4)))
   (ak (cu (p7 (cG (Q4 T) (hr.mono (by decide) : bR 1 _) (by rfl) T.Wl T.Io.kp T.Wk .nil bW (aa (pv 4) (aa (pv 5) ao)))) (ak (bu (i := 6) jh.nd rfl (Or.inl rfl) (cG (Ek T) (hr.mono (by decide) : bR 1 _) (by rfl) T.G8 T.vZ.kp T.GZ .nil bW (aa (pv 0) (aa (pv 3) (aa (pv 5) ao)))))
   (aB (bj (aL bA (bL (aa (pv 6) (aa aC ao))) (iI lE (by rfl) T.KZ PyProof.Rows.Boot.«int» (aa (lR cO (aL bw (pv 1) az (fun _ _ => rfl)) aC (bf _)) ao)) (fun _ _ => rfl))))) bB)
   (ak (yr (pv 5) (HR (bG hu (pv 0) aC (fun _ _ => rfl)) (pv 3) set_list))
   (ak (bM (eX PySem.F.plainAttrs_list PySem.F.slot_list_append PySem.F.type_list_append cD (aL bA (bG hu (pv 0) aC (fun _ _ => rfl)) (pv 3) (fun _ _ => rfl)) (aa (b8 (aa aC (aa (aL bw (pv 1) az (fun _ _ => rfl)) (aa (aL bA (bL (aa aC (aa aC ao))) (iI lE (by rfl) T.KZ PyProof.Rows.Boot.«int» (aa (lR cO (aL bw (pv 1) az (fun _ _ => rfl)) aC (bf _)) ao)) (fun _ _ => rfl)) ao)))) ao)))
   (aB (bj aC))))))))))))),?_⟩
  try dsimp only [du,Cx.j6]
  show let Z1 : L2.TS := _; let Z2 : L2.TS := _; let Z3 : L2.TS := cY _ Z2 bJ; let Z4 : L2.TS := _; let Z5 : L2.TS := _; let Z6 : L2.TS := cY _ Z5 bJ; let Z7 : L2.TS := _; let Z8 : L2.TS := cY _ Z7 bJ; let Z9 : L2.TS := _; let Am : L2.TS := _; let Lb : L2.TS := cY _ Am bJ; let Ld : L2.TS := _; let Q0 : L2.TS := _; let Q3 : L2.TS := aQ Lb (aQ Ld (Q0)); let Z15 : L2.TS := cY _ Q3 bJ; let Z16 : L2.TS := _; let Z17 : L2.TS := _; let Z18 : L2.TS := _; let Z19 : L2.TS := aQ Z17 (Z18); let Z20 : L2.TS := cY _ Z19 bJ; let Z21 : L2.TS := _; let Z22 : L2.TS := _; let Z23 : L2.TS := _; let D0 : Ends := _; (aQ Z1 (aQ Z3 (aQ Z4 (aQ Z6 (aQ Z8 (aQ Z9 (aQ Z15 (aQ Z16 (aQ Z20 (aQ Z21 (aQ Z22 (Z23)))))))))))) D0 _ _
  intro Z1 Z2 Z3 Z4 Z5 Z6 Z7 Z8 Z9 Am Lb Ld Q0 Q3 Z15 Z16 Z17 Z18 Z19 Z20 Z21 Z22 Z23 D0
  refine ⟨_,rfl,_,rfl,A,n,m,S,se,a,x,rfl,M,ha,fun H1 s1 => ?_⟩
  have M1 := M.same s1
  have f1 : mj H H1 A n m := mj.of_same s1
  have ha1 := s1 _ _ ha
  refine ⟨_,rfl,rfl,_,rfl,?_⟩
  by_cases hw : oX n m S x = ""
  ·refine aO (by rw [hw]; rfl) ?_
   obtain ⟨hdk,hx⟩ := ahg hw
   obtain ⟨d,hd⟩ : ∃ d : Nat,x.dk = (d : Int) := ⟨x.dk.toNat,by unfold inR at hdk; lia⟩
   have hdn : d < n := by unfold inR at hdk; lia
   rw [hw]
   refine zt rfl (dq.of ha1) (cA.at1 x) ?_
   rw [hd]
   by_cases hwd : ∃ d' w,x = wd d' w
   ·obtain ⟨d',w,rfl⟩ := hwd
    have e : d' = (d : Int) := by rw [auI] at hd; exact hd
    subst e
    obtain ⟨_,hy,hno⟩ := auK hw
    simp only [Int.toNat_natCast] at hno
    obtain ⟨p,hp⟩ : ∃ p : Nat,w.pg = (p : Int) := ⟨w.pg.toNat,by unfold inR at hy; lia⟩
    have hpm : p < m := by unfold inR at hy; lia
    obtain ⟨est,ese⟩ := aiK (S := S) hdn hpm hp hno
    rw [est,ese,List.append_nil] at k
    have a0 : Ol (wd d w).vs 0 = some (.str w.tag) := by rw [← arE d w]; exact cA.at0 _
    have hrow := B.row
    have auN := B.up d
    refine zt rfl (dq.of ha1) a0 ⟨rfl,_,rfl,?_⟩
    refine aO (c7 (auJ w)) ?_
    refine zt rfl (dq.of ha1) a0 ⟨rfl,_,rfl,?_⟩
    refine aO (c7 (anA w)) ?_
    refine RX rfl (fc M1.bx kZ) rfl (cz.of M1.rights) (bK hdn) (zt rfl (dq.of ha1) (alp _ _) ⟨A (.rt d),_,p,_,rfl,by rw [hp],cz.of (M1.rt hdn),bK hpm,?_⟩)
    refine zt rfl (dq.of ha1) a0 ⟨rfl,_,rfl,?_⟩
    refine aO (c7 (anB w)) ?_
    refine zt rfl (dq.of ha1) a0 ⟨zz1,fun z1 hz1 => ?_⟩
    have s2 := aA (o := .tup [.str w.tag]) hz1
    have auO : upd H1 z1 (.tup [.str w.tag]) z1 = some (.tup [.str w.tag]) := aj
    generalize upd H1 z1 (.tup [.str w.tag]) = H2 at s2 auO
    refine ⟨_,rfl,_,rfl,a,_,rfl,dq.of (s2 _ _ ha1),auH _ _,fun z2 hz2 => ?_⟩
    rw [arD]
    have s3 := aA (o := .tup w.vs.tail) hz2
    have auP : upd H2 z2 (.tup w.vs.tail) z2 = some (.tup w.vs.tail) := aj
    generalize upd H2 z2 (.tup w.vs.tail) = H3 at s3 auP
    refine ⟨z1,z2,[.str w.tag],w.vs.tail,rfl,rfl,dq.of (s3 _ _ auO),dq.of auP,by simp,arF d w,fun z => absurd z (auG w),fun _ z3 hz3 => ?_⟩
    have ew : [V.str w.tag] ++ w.vs.tail = w.vs := (axM w).symm
    rw [ew]
    have s4 := aA (o := .tup w.vs) hz3
    have anC : upd H3 z3 (.tup w.vs) z3 = some (.tup w.vs) := aj
    generalize upd H3 z3 (.tup w.vs) = H4 at s4 anC
    have sA := (s2.trans s3).trans s4
    have M4 := M1.same sA
    have f4 := f1.trans (mj.of_same (A := A) sA) (Mv.refl _ _ _ _)
    have ha4 := sA _ _ ha1
    refine ⟨_,rfl,_,rfl,(S.ds d).rt p,z3,w,rfl,anC,_,rfl,?_⟩
    have ahf : (S.ds d).ok w↔w.need.k≤((S.ds d).rt p).k := by unfold DS.ok; rw [hp]
    by_cases hok : w.need.k≤((S.ds d).rt p).k
    ·refine bF (decide_eq_true hok) ?_
     rw [if_pos (ahf.mpr hok)] at k
     refine ⟨_,rfl,_,rfl,_,rfl,A,n,m,S,se,z3,w,d,p,rfl,M4,hdn,anC,hp,hpm,(by lia),fun H5 M5 f5 => ?_⟩
     have ha5 := (f5.tups M4) a _ ha4
     refine ⟨_,rfl,uo,fun z4 hz4 => ?_⟩
     have s6 := aA (o := .lst [.int ((S.ds d).num w),.str "done"]) hz4
     have ewr : (S.ds d).iC w p = ((S.ds d).done w,[(w.Dj,w.pg,(S.ds d).num w)],[]) := by unfold DS.iC; rw [if_pos (ahf.mpr hok)]
     have M6 : aX (upd H5 z4 (.lst [.int ((S.ds d).num w),.str "done"])) A n m (S.kW d ((S.ds d).iC w p)) se := by
      have := M5.same s6
      rw [ewr]
      have e : S.kW d ((S.ds d).done w,[(w.Dj,w.pg,(S.ds d).num w)],[]) = { S with ds := bO S.ds d ((S.ds d).done w),row := fU S.row d [(w.Dj,w.pg,(S.ds d).num w)] } := by
       simp only [TS.kW,List.append_nil,yD]
      rw [e]; exact this
     have f6 := (f4.trans f5 (Mv.refl _ _ _ _)).trans (mj.of_same (A := A) s6) (Mv.refl _ _ _ _)
     refine zt rfl (dq.of (s6 _ _ ha5)) a0 ⟨rfl,.inr ⟨_,rfl,z4,_,_,_,rfl,rfl,cz.of aj,auq,?_⟩⟩
     refine k _ A _ M6 f6 (Mv.refl _ _ _ _) ?_
     cases w with
     | look y =>
       have hyp : y = (p : Int) := hp
       have e : decide (V.str (W.look y).tag = V.str "put") = false := c7 (show ("look" : Str)≠"put" by decide +kernel)
       rw [e]
       simp only [aaU,Rep]
       rfl
     | put y q =>
       have e : decide (V.str (W.put y q).tag = V.str "put") = true := fu
       rw [e]
       simp only [aaU,Rep]
       rfl
    ·refine aO (decide_eq_false hok) ?_
     rw [if_neg fun z => hok (ahf.mp z)] at k
     have ewr : (S.ds d).iC w p = ({ S.ds d with ws := some w },[],[.ask p w.need]) := by unfold DS.iC; rw [if_neg fun z => hok (ahf.mp z)]
     obtain ⟨wv,w1,w2,_⟩ := M4.dJ
     refine ⟨_,rfl,zd rfl (fc M4.bx oA) ⟨_,rfl,A .dJ,_,_,d,rfl,rfl,w1,by rw [w2]; exact zx hdn,?_⟩⟩
     obtain ⟨M5,f5⟩ := M4.ak2 hdn (v := .ref z3) (o := some w) w1 ⟨z3,rfl,anC⟩
     have ha5 := (f5.tups M4) a _ ha4
     have f45 := f4.trans f5 (Mv.refl _ _ _ _)
     generalize upd H4 (A .dJ) (.lst (wv.set d (.ref z3))) = H5 at M5 f5 ha5 f45
     obtain ⟨uv,u1,u2⟩ := M5.up hdn
     have alm : uv.length < sizeLine := by rw [u2.length,List.length_map]; show (S.up d).length < _; lia
     refine RX rfl (fc M5.bx Kg) rfl (cz.of M5.ups) (bK hdn) ⟨.inl ⟨rfl,_,cz.of u1⟩,zt rfl (dq.of ha5) (alp _ _) ⟨uo,fun z4 hz4 => ?_⟩⟩
     have s6 := aA (o := .lst [.str "read",.str "write"]) hz4
     refine zt rfl (dq.of (s6 _ _ ha5)) a0 ⟨rfl,.inr ⟨_,rfl,z4,_,_,.str w.need.s,rfl,rfl,cz.of aj,?_,zz3,fun c hc => ?_⟩⟩
     ·cases w with
      | look y =>
        have e : decide (V.str (W.look y).tag = V.str "put") = false := c7 (show ("look" : Str)≠"put" by decide +kernel)
        rw [e]; rfl
      | put y q =>
        have e : decide (V.str (W.put y q).tag = V.str "put") = true := fu
        rw [e]; rfl
     ·have s7 := aA (o := .tup [.str "ask",.int w.pg,.str w.need.s]) hc
      rw [hp] at s7 ⊢
      have sB := s6.trans s7
      refine ⟨A (.up d),uv,_,rfl,rfl,sB _ _ u1,alm,?_⟩
      have rp : aG (upd (upd H5 z4 (.lst [.str "read",.str "write"])) c (.tup [.str "ask",.int p,.str w.need.s])) (uv ++ [.ref c]) ((S.up d ++ [UL.ask p w.need]).map UL.d) := by
       rw [List.map_append]
       exact aG.snoc (u2.aU (aY sB) (bU UL.flat _)) (Wx (l := .ask p w.need) aj)
      obtain ⟨M7,f7⟩ := (M5.same sB).aeR hdn rp
      refine k (.str "waits") A _ ?_ ((f45.trans (mj.of_same (A := A) sB) (Mv.refl _ _ _ _)).trans f7 (Mv.refl _ _ _ _)) (Mv.refl _ _ _ _) (by simp only [Rep])
      have e : S.kW d ((S.ds d).iC w p) = { S with ds := bO S.ds d { S.ds d with ws := some w },up := bO S.up d (S.up d ++ [UL.ask p w.need]) } := by
       rw [ewr]; simp [TS.kW,fU]
      rw [e]
      exact M7
   cases x with
   | up d' =>
     have e : d' = (d : Int) := hd
     subst e
     have alq : inR (d : Int) n := hdk
     simp only [TS.step,TS.j9,if_pos alq,Int.toNat_natCast,TS.upD] at k hx
     obtain ⟨l,r,hup⟩ := List.exists_cons_of_ne_nil hx
     rw [hup] at k
     obtain ⟨I',hlp,hgd,_⟩ := I.take hdn hup
     have Zb := B.mu l.pg
     refine zt rfl (dq.of ha1) rfl ⟨rfl,_,rfl,?_⟩
     refine bF fu ?_
     refine ⟨_,rfl,_,rfl,A,n,m,S,se,d,l,r,rfl,M1,hdn,hup,hlp,I.pn _ hlp,I.am _ hlp,hgd,(by lia),B.room ht (by lia),fun b A' H' M' f' mv' hb' => ?_⟩
     exact k (.ref b) A' H' M' (f1.trans f' (Mv.refl _ _ _ _)) (fun y hy => (mv' y hy).imp id fun e => ⟨e.1,f1.lv _ e.2⟩) (Wx hb')
   | down d' =>
     have e : d' = (d : Int) := hd
     subst e
     have alq : inR (d : Int) n := hdk
     simp only [TS.step,TS.j9,if_pos alq,Int.toNat_natCast,TS.QM] at k hx
     obtain ⟨l,r,hdn'⟩ := List.exists_cons_of_ne_nil hx
     rw [hdn'] at k
     obtain ⟨p,hp,hlp,hni⟩ := I.dn d hdn l (by rw [hdn']; simp)
     refine zt rfl (dq.of ha1) rfl ⟨rfl,_,rfl,?_⟩
     refine aO (c7 (show ("down" : Str)≠"up" by decide +kernel)) ?_
     refine zt rfl (dq.of ha1) rfl ⟨rfl,_,rfl,?_⟩
     refine bF fu ?_
     have hrow := B.row
     have auN := B.up d
     refine ⟨_,rfl,_,rfl,A,n,m,S,se,l,r,d,p,rfl,M1,hdn,hdn',hlp,hp,hni,I.ws d hdn,(by lia),(by lia),fun b H' M' f' hb' => ?_⟩
     exact k (.ref b) A H' (by rw [List.append_nil]; exact M') (f1.trans f' (Mv.refl _ _ _ _)) (Mv.refl _ _ _ _) (aiJ hb')
   | rest d' y =>
     have e : d' = (d : Int) := hd
     subst e
     have alq : inR (d : Int) n := hdk
     obtain ⟨hy,hno⟩ := hx
     obtain ⟨p,hp⟩ : ∃ p : Nat,y = (p : Int) := ⟨y.toNat,by unfold inR at hy; lia⟩
     subst hp
     have hpm : p < m := by unfold inR at hy; lia
     simp only [TS.step,TS.j9,if_pos alq,if_pos hy,Int.toNat_natCast] at k hno
     rw [if_neg hno] at k
     refine zt rfl (dq.of ha1) rfl ⟨rfl,_,rfl,?_⟩
     refine aO (c7 (show ("rest" : Str)≠"up" by decide +kernel)) ?_
     refine zt rfl (dq.of ha1) rfl ⟨rfl,_,rfl,?_⟩
     refine aO (c7 (show ("rest" : Str)≠"down" by decide +kernel)) ?_
     refine RX rfl (fc M1.bx kZ) rfl (cz.of M1.rights) (bK hdn) (zt rfl (dq.of ha1) rfl ⟨A (.rt d),_,p,_,rfl,rfl,cz.of (M1.rt hdn),bK hpm,?_⟩)
     refine zt rfl (dq.of ha1) rfl ⟨rfl,_,rfl,?_⟩
     refine bF fu ?_
     have auN := B.up d
     try dsimp only [bJ]
     refine fP (fun σ' H' => σ' = [some (.ref (A .bx)),some (.ref a),some (.str ""),some (.int d),some (.str ((S.ds d).rt p).s),none,none]∧aX H' A n m { S with up := bO S.up d (S.up d ++ (if (S.ds d).rt p = .wr then [UL.gave p ((S.ds d).nm p)] else [])) } se∧mj H H' A n m∧H' a = some (.tup (cA.rest d p).vs)) (fun N hN => ?_) ?_
     ·refine ⟨_,rfl,rfl,_,rfl,?_⟩
      by_cases ew : (S.ds d).rt p = .wr
      ·refine bF (by rw [ew]; exact fu) ?_
       rw [if_pos ew] at hN
       obtain ⟨uv,u1,u2⟩ := M1.up hdn
       have alm : uv.length < sizeLine := by rw [u2.length,List.length_map]; lia
       refine RX rfl (fc M1.bx Kg) rfl (cz.of M1.ups) (bK hdn) ⟨.inl ⟨rfl,_,cz.of u1⟩,zt rfl (dq.of ha1) rfl (RX rfl (fc M1.bx rQ) rfl (cz.of M1.copies) (bK hdn) (zt rfl (dq.of ha1) rfl ⟨A (.cp d),_,p,_,rfl,rfl,cz.of (M1.cp hdn),bK hpm,zz3,fun c hc => ?_⟩))⟩
       have s3 := aA (o := .tup [.str "gave",.int p,.int ((S.ds d).nm p)]) hc
       refine ⟨A (.up d),uv,_,rfl,rfl,s3 _ _ u1,alm,?_⟩
       have rp : aG (upd H1 c (.tup [.str "gave",.int p,.int ((S.ds d).nm p)])) (uv ++ [.ref c]) ((S.up d ++ [UL.gave p ((S.ds d).nm p)]).map UL.d) := by
        rw [List.map_append]
        exact aG.snoc (u2.aU (aY s3) (bU UL.flat _)) (Wx (l := .gave p ((S.ds d).nm p)) aj)
       obtain ⟨M4,f4⟩ := (M1.same s3).aeR hdn rp
       exact hN _ _ ⟨rfl,M4,(f1.trans (mj.of_same (A := A) s3) (Mv.refl _ _ _ _)).trans f4 (Mv.refl _ _ _ _),(f4.tups (M1.same s3)) a _ (s3 _ _ ha1)⟩
      ·refine aO (nC (x := "write") (q := .wr) rfl ew) ?_
       rw [if_neg ew] at hN
       refine hN _ _ ⟨rfl,?_,f1,ha1⟩
       have : ({ S with up := bO S.up d (S.up d ++ []) } : TS) = S := by rw [List.append_nil,yD]
       rw [this]; exact M1
     ·rintro σ' H2 ⟨rfl,M2,f2,ha2⟩
      refine RX rfl (fc M2.bx kZ) rfl (cz.of M2.rights) (bK hdn) (zt rfl (dq.of ha2) rfl ⟨A (.rt d),_,_,p,rfl,rfl,M2.rt hdn,zx (by simpa using hpm),?_⟩)
      have e1 : ((List.range m).map fun q : Nat => V.str ((S.ds d).rt q).s).set p (.str "none") = (List.range m).map fun q : Nat => V.str (((S.ds d).hold p .no ((S.ds d).nm p)).rt q).s := by
       refine xN hpm ?_ fun q hq => ?_
       ·show V.str (if (p : Int) = p then Rt.no else _).s = _; rw [if_pos rfl]; rfl
       ·show V.str (if (q : Int) = p then Rt.no else _).s = _; rw [if_neg (by lia)]
      dsimp only
      rw [e1]
      have enm : ((S.ds d).hold p .no ((S.ds d).nm p)).nm = (S.ds d).nm := by funext q; show (if q = (p : Int) then (S.ds d).nm p else (S.ds d).nm q) = _; split <;> simp_all
      obtain ⟨M3,f3⟩ := M2.aq1 hdn (D' := (S.ds d).hold p .no ((S.ds d).nm p)) enm rfl
      refine k (.str "done") A _ ?_ (f2.trans f3 (Mv.refl _ _ _ _)) (Mv.refl _ _ _ _) (by simp only [Rep])
      rw [List.append_nil]
      have : S.vH d p = { S with ds := bO S.ds d ((S.ds d).hold p .no ((S.ds d).nm p)),up := bO S.up d (S.up d ++ (if (S.ds d).rt p = .wr then [UL.gave p ((S.ds d).nm p)] else [])) } := by
       simp [TS.vH,TS.kW,fU]
      rw [this]
      exact M3
   | look d' y => exact absurd ⟨_,.look _,rfl⟩ hwd
   | put d' y q => exact absurd ⟨_,.put _ _,rfl⟩ hwd
  ·refine bF (ab5 hw) ?_
   obtain ⟨e1,e2⟩ := afr hw
   refine ⟨_,rfl,k _ A H1 ?_ f1 (Mv.refl _ _ _ _) ?_⟩
   ·rw [e1,e2,List.append_nil]; exact M1
   ·rw [e1]; simp only [Rep]
end
end iz
namespace iz
open PySem L2
def anD : Sp := fun vs H Q _ => ∃ k,vs = [.int k]∧Q (.bl true) H
def arG : Sp := fun vs H Q _ => ∃ v u d,vs = [v,u]∧Rep H v d∧Rep H u d∧d.size≤1000000∧∀ H',bZ H H'→Q (.bl true) H'
section
variable {P : Program} {w : World} {K : PySem.W.Frag} {mg : Str→Option Value} {base : Heap} {t : JV}
theorem ahh (T : Txt K w mg t) : cZ P w K mg base n8 1 t.lL t.Ii ["_law_found"] anD := by
 refine T.aaO.ok ag8 (fun vs H Q E h => ?_) (fun cdv A outer s H vs Q E hr h => ?_)
 ·obtain ⟨k,rfl,_⟩ := h; rfl
 ·obtain ⟨k,rfl,q⟩ := h
  refine ⟨_,(aB (bj (agx (dG j8 (by rfl) T.fG PyProof.Rows.Boot.«isinstance» (aa (pv 0) (aa (rM (by rfl) T.KZ PyProof.Rows.Boot.«int») ao))) (abg (ap5 (dG j8 (by rfl) T.fG PyProof.Rows.Boot.«isinstance» (aa (pv 0) (aa (rM (by rfl) T.ari PyProof.Rows.Boot.«bool») ao)))))))),?_⟩
  try dsimp only [du,Cx.j6]
  refine ⟨_,rfl,_,_,.type "int",true,rfl,.int _,.inl ⟨_,rfl,aqB⟩,_,rfl,oh ?_⟩
  exact ⟨_,rfl,_,_,.type "int",false,rfl,.int _,.inl ⟨_,rfl,aqC⟩,_,rfl,q⟩
theorem ajD {H : Hp} {v : V} : ∀ {d : D},Rep H v d→(d = .n∧v = .non)∨(∃ k,d = .i k∧v = .int k)∨(∃ x,d = .s x∧v = .str x)∨(∃ ds a xs,d = .t ds∧v = .ref a∧H a = some (.tup xs)∧aG H xs ds)∨(∃ ds a xs,d = .l ds∧v = .ref a∧H a = some (.lst xs)∧aG H xs ds)
 | .n,r => by simp only [Rep] at r; exact .inl ⟨rfl,r⟩
 | .i k,r => by simp only [Rep] at r; exact .inr (.inl ⟨k,rfl,r⟩)
 | .s x,r => by simp only [Rep] at r; exact .inr (.inr (.inl ⟨x,rfl,r⟩))
 | .t ds,r => by simp only [Rep] at r; obtain ⟨a,xs,h1,h2,h3⟩ := r; exact .inr (.inr (.inr (.inl ⟨ds,a,xs,rfl,h1,h2,h3⟩)))
 | .l ds,r => by simp only [Rep] at r; obtain ⟨a,xs,h1,h2,h3⟩ := r; exact .inr (.inr (.inr (.inr ⟨ds,a,xs,rfl,h1,h2,h3⟩)))
theorem afs {α : Type} (xs : List α) (x : α) : (xs ++ [x])[(xs ++ [x]).length - 1]? = some x := by simp
theorem aft {α : Type} (xs : List α) (x : α) : (xs ++ [x]).dropLast = xs := by simp
set_option maxHeartbeats 8000000 in
theorem Pg (T : Txt K w mg t) : cZ P w K mg base n8 2 t.pJ t.O1 ["_law_found","_law_due"] arG := by
 refine T.KJ.ok wW (fun vs H Q E h => ?_) (fun cdv A outer s H vs Q E hr h => ?_)
 ·obtain ⟨v,u,d,rfl,_⟩ := h; rfl
 ·obtain ⟨v,u,d,rfl,rv,ru,hsz,k⟩ := h
  refine ⟨_,(ak (bu (i := 2) wW.nd rfl (Or.inl rfl) (bL (aa (pv 0) ao)))
   (ak (bu (i := 3) wW.nd rfl (Or.inl rfl) (bL (aa (pv 1) ao)))
   (ak (Vi PassesOwn.never (aR (aeD hr.agE) (pv 3) (bL ao) (bf _)) (ak (bu (i := 4) wW.nd rfl (Or.inl rfl) (akt PySem.F.plainAttrs_list PySem.F.slot_list_pop PySem.F.type_list_pop akv (pv 2)))
   (ak (bu (i := 5) wW.nd rfl (Or.inl rfl) (akt PySem.F.plainAttrs_list PySem.F.slot_list_pop PySem.F.type_list_pop akv (pv 3)))
   (aB (cu (p7 (dG j8 (by rfl) T.fG PyProof.Rows.Boot.«isinstance» (aa (pv 5) (aa (b8 (aa (rM (by rfl) T.Ip PyProof.Rows.Boot.«list») (aa (rM (by rfl) T.abW PyProof.Rows.Boot.«tuple») ao))) ao)))) (ak (cu (aR z7 (dG j8 (by rfl) T.fG PyProof.Rows.Boot.«isinstance» (aa (pv 4) (aa (rM (by rfl) T.Ip PyProof.Rows.Boot.«list») ao))) (dG j8 (by rfl) T.fG PyProof.Rows.Boot.«isinstance» (aa (pv 5) (aa (rM (by rfl) T.Ip PyProof.Rows.Boot.«list») ao))) (bf _)) (aB (bj Vg)) bB)
   (ak (cu (PW.pt (wG (aR z7 (dG j8 (by rfl) T.fG PyProof.Rows.Boot.«isinstance» (aa (pv 4) (aa (rM (by rfl) T.abW PyProof.Rows.Boot.«tuple») ao))) (dG j8 (by rfl) T.fG PyProof.Rows.Boot.«isinstance» (aa (pv 5) (aa (rM (by rfl) T.abW PyProof.Rows.Boot.«tuple») ao))) (bf _)) (p8 (aR z7 (dG dO (by rfl) T.Aj PySem.boot_len (aa (pv 4) ao)) (dG dO (by rfl) T.Aj PySem.boot_len (aa (pv 5) ao)) (bf _))))) (aB (bj Vg)) bB)
   (ak (bM (eX PySem.F.plainAttrs_list PySem.F.slot_list_extend PySem.F.type_list_extend kO (pv 2) (aa (pv 4) ao)))
   (aB (bM (eX PySem.F.plainAttrs_list PySem.F.slot_list_extend PySem.F.type_list_extend kO (pv 3) (aa (pv 5) ao))))))) (aB (cu (vD (agw (pv 5))) (aB (cu (vD (ur (pv 4))) (aB (bj Vg)) bB)) (aB (cu (p7 (dG j8 (by rfl) T.fG PyProof.Rows.Boot.«isinstance» (aa (pv 5) (aa (rM (by rfl) T.apC PyProof.Rows.Boot.«str») ao)))) (aB (cu (PW.pt (wG (HQ (p7 (dG j8 (by rfl) T.fG PyProof.Rows.Boot.«isinstance» (aa (pv 4) (aa (rM (by rfl) T.apC PyProof.Rows.Boot.«str») ao))))) (p8 (aR z7 (pv 4) (pv 5) (bf _))))) (aB (bj Vg)) bB)) (aB (cu (PW.pt (wG (HQ (p7 (cG (ahh T) (hr.mono (by decide) : bR 1 _) (by rfl) T.ajy T.aaO.kp T.ajx .nil bW (aa (pv 4) ao)))) (p8 (aR z7 (pv 4) (pv 5) (bf _))))) (aB (bj Vg)) bB)))))))))))
   (aB (bj Vg))))),?_⟩
  try dsimp only [du,Cx.j6]
  show let Z1 : L2.TS := _; let Z2 : L2.TS := _; let Z3 : L2.TS := _; let Z4 : L2.TS := _; let Z5 : L2.TS := _; let Z6 : L2.TS := cY _ Z5 bJ; let Z7 : L2.TS := _; let Z8 : L2.TS := cY _ Z7 bJ; let Z9 : L2.TS := _; let Am : L2.TS := _; let Lb : L2.TS := aQ Z6 (aQ Z8 (aQ Z9 (Am))); let Ld : L2.TS := _; let Q0 : L2.TS := cY _ Ld bJ; let Q3 : L2.TS := _; let Z15 : L2.TS := cY _ Q3 bJ; let Z16 : L2.TS := _; let Z17 : L2.TS := cY _ Z16 bJ; let Z18 : L2.TS := cY _ Z15 Z17; let Z19 : L2.TS := cY _ Q0 Z18; let Z20 : L2.TS := cY _ Lb Z19; let Z21 : L2.TS := aQ Z3 (aQ Z4 (Z20)); let Z22 : L2.TS := abh _ Z21; let Z23 : L2.TS := _; let D0 : Ends := _; (aQ Z1 (aQ Z2 (aQ Z22 (Z23)))) D0 _ _
  intro Z1 Z2 Z3 Z4 Z5 Z6 Z7 Z8 Z9 Am Lb Ld Q0 Q3 Z15 Z16 Z17 Z18 Z19 Z20 Z21 Z22 Z23 D0
  refine ⟨_,rfl,zz1,fun L hL => ⟨_,rfl,zz1,fun R hR => ?_⟩⟩
  have nLR : L≠R := fun e => by subst e; rw [aj] at hR; cases hR
  have hR0 : H R = none := by rw [aq nLR.symm] at hR; exact hR
  refine ⟨fun m σ H2 => ∃ ds xs ys o1 o2,σ = [some v,some u,some (.ref L),some (.ref R),o1,o2]∧bZ H H2∧H2 L = some (.lst xs)∧H2 R = some (.lst ys)∧aG H xs ds∧aG H ys ds∧m = D.sizes ds∧D.sizes ds≤1000000,
   ⟨_,[d],[v],[u],none,none,rfl,(aA hL).trans (aA hR),(by rw [aq nLR,aj]),aj,by simp only [aG]; exact ⟨v,[],rfl,rv,rfl⟩,by simp only [aG]; exact ⟨u,[],rfl,ru,rfl⟩,rfl,by simp only [D.sizes]; lia⟩,?_⟩
  rintro m σ H2 ⟨ds,xs,ys,o1,o2,rfl,s2,gL,gR,rx,ry,rfl,hb⟩
  refine ⟨_,rfl,CZ,fun e he => ⟨R,e,ys,rfl,rfl,cz.of (aA he _ _ gR),cz.of aj,_,rfl,?_⟩⟩
  have s3 : bZ H (upd H2 e (.lst [])) := s2.trans (aA he)
  have gL3 : upd H2 e (.lst []) L = some (.lst xs) := aA he _ _ gL
  have gR3 : upd H2 e (.lst []) R = some (.lst ys) := aA he _ _ gR
  generalize upd H2 e (.lst []) = H3 at s3 gL3 gR3
  clear gL gR s2 he
  rcases List.eq_nil_or_concat ds with rfl | ⟨ds0,dd,rfl⟩
  ·simp only [aG] at ry
   subst ry
   refine aO rfl ?_
   exact k H3 s3
  ·rw [List.concat_eq_append] at rx ry hb ⊢
   obtain ⟨xs0,x,rfl,rx0,rxl⟩ := aG.last rx
   obtain ⟨ys0,y,rfl,ry0,ryl⟩ := aG.last ry
   refine bF (by simp) ?_
   refine ⟨fun σ' H' => ∃ m',m' < D.sizes (ds0 ++ [dd])∧∃ ds xs ys o1 o2,σ' = [some v,some u,some (.ref L),some (.ref R),o1,o2]∧bZ H H'∧H' L = some (.lst xs)∧H' R = some (.lst ys)∧aG H xs ds∧aG H ys ds∧m' = D.sizes ds∧D.sizes ds≤1000000,fun σ' H' z => z,?_⟩
   refine ⟨_,rfl,.inl ⟨rfl,_,cz.of gL3⟩,L,_,x,rfl,rfl,gL3,afs _ _,?_⟩
   rw [aft]
   have gR4 : upd H3 L (.lst xs0) R = some (.lst (ys0 ++ [y])) := by rw [aq nLR.symm]; exact gR3
   refine ⟨_,rfl,.inl ⟨rfl,_,cz.of gR4⟩,R,_,y,rfl,rfl,gR4,afs _ _,?_⟩
   rw [aft]
   have s5 : bZ H (upd (upd H3 L (.lst xs0)) R (.lst ys0)) := fun b o hbo => by
    rw [aq (aF hbo hR0),aq (aF hbo hL)]
    exact s3 b o hbo
   have gL5 : upd (upd H3 L (.lst xs0)) R (.lst ys0) L = some (.lst xs0) := by rw [aq nLR,aj]
   have gR5 : upd (upd H3 L (.lst xs0)) R (.lst ys0) R = some (.lst ys0) := aj
   generalize upd (upd H3 L (.lst xs0)) R (.lst ys0) = H5 at s5 gL5 gR5
   have aAL : D.sizes (ds0 ++ [dd]) = D.sizes ds0 + dd.size := by rw [D.qQ]; simp [D.sizes]
   have go : ∀ (H6 : Hp),bZ H5 H6→∃ m',m' < D.sizes (ds0 ++ [dd])∧∃ ds xs ys o1 o2,[some v,some u,some (.ref L),some (.ref R),some x,some y] = [some v,some u,some (.ref L),some (.ref R),o1,o2]∧bZ H H6∧H6 L = some (.lst xs)∧H6 R = some (.lst ys)∧aG H xs ds∧aG H ys ds∧m' = D.sizes ds∧D.sizes ds≤1000000 := fun H6 s6 => by
    have := dd.size_pos
    exact ⟨_,by lia,ds0,xs0,ys0,_,_,rfl,s5.trans s6,s6 _ _ gL5,s6 _ _ gR5,rx0,ry0,rfl,by lia⟩
   refine ⟨_,rfl,uo,fun tt ht => ?_⟩
   have s6 : bZ H5 (upd H5 tt (.tup [.ty "list",.ty "tuple"])) := aA ht
   have h6 : upd H5 tt (.tup [.ty "list",.ty "tuple"]) tt = some (.tup [.ty "list",.ty "tuple"]) := aj
   generalize upd H5 tt (.tup [.ty "list",.ty "tuple"]) = H6 at s6 h6
   have sH6 := s5.trans s6
   have grow : ∀ (es : List D) (zs ws : List V),aG H zs es→aG H ws es→dd.size = 1 + D.sizes es→∀ H7,bZ H6 H7→∃ m',m' < D.sizes (ds0 ++ [dd])∧∃ ds xs ys o1 o2,[some v,some u,some (.ref L),some (.ref R),some x,some y] = [some v,some u,some (.ref L),some (.ref R),o1,o2]∧bZ H (upd (upd H7 L (.lst (xs0 ++ zs))) R (.lst (ys0 ++ ws)))∧(upd (upd H7 L (.lst (xs0 ++ zs))) R (.lst (ys0 ++ ws))) L = some (.lst xs)∧(upd (upd H7 L (.lst (xs0 ++ zs))) R (.lst (ys0 ++ ws))) R = some (.lst ys)∧aG H xs ds∧aG H ys ds∧m' = D.sizes ds∧D.sizes ds≤1000000 := fun es zs ws rz rw' he H7 s7 => by
    refine ⟨_,?_,ds0 ++ es,xs0 ++ zs,ys0 ++ ws,_,_,rfl,fun b o hbo => ?_,by rw [aq nLR,aj],aj,rx0.append rz,ry0.append rw',rfl,?_⟩
    ·rw [D.qQ]; lia
    ·rw [aq (aF hbo hR0),aq (aF hbo hL)]
     exact s7 b o (sH6 b o hbo)
    ·rw [D.qQ]; lia
   rcases ajD rxl with ⟨rfl,rfl⟩ | ⟨k1,rfl,rfl⟩ | ⟨x1,rfl,rfl⟩ | ⟨es,a,zs,rfl,rfl,ha,rz⟩ | ⟨es,a,zs,rfl,rfl,ha,rz⟩
   ·simp only [Rep] at ryl
    subst ryl
    refine ⟨_,_,_,false,rfl,.non,.inr ⟨tt,_,[.type "list",.type "tuple"],rfl,h6,rfl,aqG⟩,_,rfl,wJ ?_⟩
    refine ⟨_,rfl,_,rfl,bF rfl ?_⟩
    refine ⟨_,rfl,_,rfl,aO rfl ?_⟩
    exact go H6 s6
   ·simp only [Rep] at ryl
    subst ryl
    refine ⟨_,_,_,false,rfl,.int _,.inr ⟨tt,_,[.type "list",.type "tuple"],rfl,h6,rfl,aqE⟩,_,rfl,wJ ?_⟩
    refine ⟨_,rfl,_,rfl,aO rfl ?_⟩
    refine ⟨_,rfl,_,_,_,false,rfl,.int _,.inl ⟨_,rfl,kit_is⟩,_,rfl,wJ ?_⟩
    refine ⟨_,rfl,k1,rfl,_,rfl,wJ ?_⟩
    refine ⟨_,rfl,_,rfl,rfl,_,rfl,aO (by simp) ?_⟩
    exact go H6 s6
   ·simp only [Rep] at ryl
    subst ryl
    refine ⟨_,_,_,false,rfl,.str _,.inr ⟨tt,_,[.type "list",.type "tuple"],rfl,h6,rfl,aqF⟩,_,rfl,wJ ?_⟩
    refine ⟨_,rfl,_,rfl,aO rfl ?_⟩
    refine ⟨_,rfl,_,_,_,true,rfl,.str _,.inl ⟨_,rfl,akM⟩,_,rfl,oh ?_⟩
    refine ⟨_,rfl,_,_,_,true,rfl,.str _,.inl ⟨_,rfl,akM⟩,_,rfl,wJ ?_⟩
    refine ⟨_,rfl,_,rfl,rfl,_,rfl,aO (by simp) ?_⟩
    exact go H6 s6
   ·simp only [Rep] at ryl
    obtain ⟨a2,zs2,rfl,ha2,rz2⟩ := ryl
    have ha6 := sH6 _ _ ha
    have WD := sH6 _ _ ha2
    have hl1 := rz.length
    have hl2 := rz2.length
    refine ⟨_,_,_,true,rfl,.tup WD,.inr ⟨tt,_,[.type "list",.type "tuple"],rfl,h6,rfl,kit_at⟩,_,rfl,oh ?_⟩
    refine ⟨_,rfl,_,_,_,false,rfl,.tup ha6,.inl ⟨_,rfl,akN⟩,_,rfl,_,_,_,false,rfl,.tup WD,.inl ⟨_,rfl,akN⟩,rfl,_,rfl,aO rfl ?_⟩
    refine ⟨_,rfl,_,_,_,true,rfl,.tup ha6,.inl ⟨_,rfl,akP⟩,_,rfl,_,_,_,true,rfl,.tup WD,.inl ⟨_,rfl,akP⟩,rfl,_,rfl,aO rfl ?_⟩
    refine ⟨_,rfl,a,zs,rfl,.inr (dq.of ha6),_,rfl,a2,zs2,rfl,.inr (dq.of WD),rfl,_,rfl,aO (by rw [hl1,hl2]; simp) ?_⟩
    have b1 : xs0.length + zs.length≤sizeLine := by
     have q1 := rx0.length
     have q2 := D.dR ds0
     have q3 := D.dR es
     have q4 : (D.t es).size = 1 + D.sizes es := by simp [D.size]
     have : (1000000 : Nat)≤sizeLine := by decide
     lia
    have b2 : ys0.length + zs2.length≤sizeLine := by
     have q1 := ry0.length
     have q2 := D.dR ds0
     have q3 := D.dR es
     have q4 : (D.t es).size = 1 + D.sizes es := by simp [D.size]
     have : (1000000 : Nat)≤sizeLine := by decide
     lia
    have arI : a2≠L := aF ha2 hL
    have gL6 := s6 _ _ gL5
    have gR6 : upd H6 L (.lst (xs0 ++ zs)) R = some (.lst ys0) := by rw [aq nLR.symm]; exact s6 _ _ gR5
    refine ⟨_,rfl,.inl ⟨rfl,_,cz.of gL6⟩,_,rfl,L,a,xs0,zs,rfl,rfl,gL6,(.inr (dq.of ha6)),b1,?_⟩
    refine ⟨_,rfl,.inl ⟨rfl,_,cz.of gR6⟩,_,rfl,R,a2,ys0,zs2,rfl,rfl,gR6,(.inr (dq.of (by rw [aq arI]; exact WD))),b2,?_⟩
    exact grow es zs zs2 rz rz2 (by simp [D.size]) H6 (bZ.refl _)
   ·simp only [Rep] at ryl
    obtain ⟨a2,zs2,rfl,ha2,rz2⟩ := ryl
    have ha6 := sH6 _ _ ha
    have WD := sH6 _ _ ha2
    have hl1 := rz.length
    have hl2 := rz2.length
    refine ⟨_,_,_,true,rfl,.lst WD,.inr ⟨tt,_,[.type "list",.type "tuple"],rfl,h6,rfl,aqD⟩,_,rfl,oh ?_⟩
    refine ⟨_,rfl,_,_,_,true,rfl,.lst ha6,.inl ⟨_,rfl,agT⟩,_,rfl,_,_,_,true,rfl,.lst WD,.inl ⟨_,rfl,agT⟩,rfl,_,rfl,aO rfl ?_⟩
    refine ⟨_,rfl,_,_,_,false,rfl,.lst ha6,.inl ⟨_,rfl,akO⟩,_,rfl,_,_,_,false,rfl,.lst WD,.inl ⟨_,rfl,akO⟩,rfl,_,rfl,aO rfl ?_⟩
    refine ⟨_,rfl,a,zs,rfl,.inl (cz.of ha6),_,rfl,a2,zs2,rfl,.inl (cz.of WD),rfl,_,rfl,aO (by rw [hl1,hl2]; simp) ?_⟩
    have b1 : xs0.length + zs.length≤sizeLine := by
     have q1 := rx0.length
     have q2 := D.dR ds0
     have q3 := D.dR es
     have q4 : (D.l es).size = 1 + D.sizes es := by simp [D.size]
     have : (1000000 : Nat)≤sizeLine := by decide
     lia
    have b2 : ys0.length + zs2.length≤sizeLine := by
     have q1 := ry0.length
     have q2 := D.dR ds0
     have q3 := D.dR es
     have q4 : (D.l es).size = 1 + D.sizes es := by simp [D.size]
     have : (1000000 : Nat)≤sizeLine := by decide
     lia
    have arI : a2≠L := aF ha2 hL
    have gL6 := s6 _ _ gL5
    have gR6 : upd H6 L (.lst (xs0 ++ zs)) R = some (.lst ys0) := by rw [aq nLR.symm]; exact s6 _ _ gR5
    refine ⟨_,rfl,.inl ⟨rfl,_,cz.of gL6⟩,_,rfl,L,a,xs0,zs,rfl,rfl,gL6,(.inl (cz.of ha6)),b1,?_⟩
    refine ⟨_,rfl,.inl ⟨rfl,_,cz.of gR6⟩,_,rfl,R,a2,ys0,zs2,rfl,rfl,gR6,(.inl (cz.of (by rw [aq arI]; exact WD))),b2,?_⟩
    exact grow es zs zs2 rz rz2 (by simp [D.size]) H6 (bZ.refl _)
end
end iz
namespace iz
open PySem L2
def nm0 (ns : List Int) (i : Int) : Int := (ns[i.toNat]?).getD 0
def S0 (ns : List Int) : TS := ⟨fun _ => ⟨fun _ => .no,nm0 ns,none⟩,pg0 ns,fun _ => [],fun _ => [],[]⟩
theorem anG (ns : List Int) : ns.map V.int = (List.range ns.length).map fun p : Nat => V.int (nm0 ns p) := by
 refine List.ext_getElem? fun i => ?_
 rw [List.getElem?_map,List.getElem?_map]
 by_cases h : i < ns.length
 ·rw [List.getElem?_range h,List.getElem?_eq_getElem h]
  simp [nm0,h]
 ·rw [List.getElem?_eq_none (by lia),List.getElem?_eq_none (by simpa using h)]
  rfl
theorem ajE (n : Nat) (v : V) : List.replicate n v = (List.range n).map fun _ => v := by
 rw [List.map_const',List.length_range]
theorem xO {n : Nat} {acc : Addr} {te : TE} {σ : St} {H1 : Hp} {Q : VK} {c : List V} (Pσ : St→Prop) (h0 : Pσ σ) (hacc : H1 acc = none) (hn : n≤1000)
 (hg : ∀ i σ',Pσ σ'→Pσ (σ'.set 0 (some (.int i))))
 (hel : ∀ σ' H' (R : VK),Pσ σ'→bZ H1 H'→(∀ l YD,H' l = none→bZ H' YD→YD l = some (.lst c)→R (.ref l) YD)→te σ' H' R)
 (hd : ∀ (f : Nat→Addr) H',bZ H1 H'→H' acc = some (.lst ((List.range n).map fun d => V.ref (f d)))→(∀ d,d < n→H1 (f d) = none∧f d≠acc∧H' (f d) = some (.lst c))→(∀ d e,d < n→e < n→f d = f e→d = e)→Q (.ref acc) H') :
 Dg (Itr 0 n) (aav 0) ajj te σ acc H1 Q := by
 have sl : sizeLine = 16777216 := by decide
 let PV1 : Nat→List V→St→Hp→Prop := fun i zs σ' H' => Pσ σ'∧bZ H1 H'∧H' acc = some (.lst zs)∧∃ f : Nat→Addr,zs = (List.range i).map (fun d => V.ref (f d))∧(∀ d,d < i→H1 (f d) = none∧f d≠acc∧H' (f d) = some (.lst c))∧∀ d e,d < i→e < i→f d = f e→d = e
 refine Ia PV1 ?_ ?_ ?_ ?_
 ·exact ⟨h0,aA hacc,aj,fun _ => 0,rfl,fun d hd => absurd hd (Nat.not_lt_zero _),fun d e hd => absurd hd (Nat.not_lt_zero _)⟩
 ·rintro i zs σ' H' _ ⟨_,_,h,_⟩
  exact h
 ·rintro i zs σ' H' hi ⟨hp,s',ha',f,rfl,hf,inj⟩
  refine Kd (hel _ H' _ (hg _ _ hp) s' fun l YD hl s'' hl'' => ?_)
  have anH := s'' _ _ ha'
  have nal : acc≠l := aF ha' hl
  have hz : ((List.range i).map fun d => V.ref (f d)).length < sizeLine := by rw [List.length_map,List.length_range]; lia
  refine wL.mk hi anH hz ⟨hg _ _ hp,fK (s'.trans s'') hacc,aj,bO f i l,?_,fun d hd => ?_,fun d e hd he h => ?_⟩
  ·rw [List.range_succ,List.map_append]
   congr 1
   ·refine List.map_congr_left fun d hd => ?_
    rw [bC _ _ (Nat.ne_of_lt (List.mem_range.mp hd))]
   ·show [V.ref l] = [V.ref _]; rw [aM]
  ·by_cases e : d = i
   ·subst e
    rw [aM]
    exact ⟨bZ.free s' hl,nal.symm,by rw [aq nal.symm]; exact hl''⟩
   ·rw [bC _ _ e]
    obtain ⟨h1,h2,h3⟩ := hf d (by lia)
    exact ⟨h1,h2,by rw [aq h2]; exact s'' _ _ h3⟩
  ·have nl : ∀ d,d < i→f d≠l := fun d hd => aF (hf d hd).2.2 hl
   by_cases h1 : d = i
   ·by_cases h2 : e = i
    ·rw [h1,h2]
    ·rw [h1,aM,bC _ _ h2] at h; exact absurd h.symm (nl e (by lia))
   ·by_cases h2 : e = i
    ·rw [h2,aM,bC _ _ h1] at h; exact absurd h (nl d (by lia))
    ·rw [bC _ _ h1,bC _ _ h2] at h; exact inj d e (by lia) (by lia) h
 ·rintro zs σ' H' ⟨_,s',ha',f,rfl,hf,inj⟩
  exact hd f H' s' ha' hf inj
def oc (n : Nat) (ns : List Int) (A : Mb→Addr) : Mb→HO
 | .dJ => .lst (List.replicate n .non)
 | .rights => .lst ((List.range n).map fun d => V.ref (A (.rt d)))
 | .copies => .lst ((List.range n).map fun d => V.ref (A (.cp d)))
 | .ups => .lst ((List.range n).map fun d => V.ref (A (.up d)))
 | .downs => .lst ((List.range n).map fun d => V.ref (A (.dn d)))
 | .rt _ => .lst (List.replicate ns.length (.str "none"))
 | .cp _ => .lst (ns.map V.int)
 | .bN p => .dK (yp (pg0 ns p) (A (.iD p)) (A (.jx p)))
 | _ => .lst []
structure YF (n : Nat) (ns : List Int) (H Hs : Hp) (A : Mb→Addr) (ok : Mb→Prop) (kv : List (Key×V)) (zs : List V) : Prop where
 sm : bZ H Hs
 inj : ∀ x y,ok x→ok y→A x = A y→x = y
 fr : ∀ x,ok x→H (A x) = none
 ct : ∀ x,ok x→x≠.bx→x≠.cR→Hs (A x) = some (oc n ns A x)
 ot : ok .bx
 os : ok .cR
 tw : Hs (A .bx) = some (.dK kv)
 sh : Hs (A .cR) = some (.lst zs)
theorem YF.live {n : Nat} {ns : List Int} {H Hs : Hp} {A : Mb→Addr} {ok : Mb→Prop} {kv : List (Key×V)} {zs : List V} (S : YF n ns H Hs A ok kv zs) (x : Mb) (hx : ok x) : ∃ o,Hs (A x) = some o := by
 by_cases h1 : x = .bx
 ·rw [h1]; exact ⟨_,S.tw⟩
 ·by_cases h2 : x = .cR
  ·rw [h2]; exact ⟨_,S.sh⟩
  ·exact ⟨_,S.ct x hx h1 h2⟩
theorem YF.same {n : Nat} {ns : List Int} {H Hs H2 : Hp} {A : Mb→Addr} {ok : Mb→Prop} {kv : List (Key×V)} {zs : List V} (S : YF n ns H Hs A ok kv zs) (s : bZ Hs H2) : YF n ns H H2 A ok kv zs :=
 ⟨S.sm.trans s,S.inj,S.fr,fun x hx h1 h2 => s _ _ (S.ct x hx h1 h2),S.ot,S.os,s _ _ S.tw,s _ _ S.sh⟩
theorem YF.more {n : Nat} {ns : List Int} {H Hs H2 : Hp} {A A' : Mb→Addr} {ok new : Mb→Prop} {kv kv' : List (Key×V)} {zs : List V} (S : YF n ns H Hs A ok kv zs) (s2 : bZ Hs H2) (hA : ∀ x,ok x→A' x = A x) (hoc : ∀ x,ok x→oc n ns A' x = oc n ns A x)
 (hn : ∀ x,new x→Hs (A' x) = none∧H2 (A' x) = some (oc n ns A' x)) (hi : ∀ x y,new x→new y→A' x = A' y→x = y) : YF n ns H (upd H2 (A .bx) (.dK kv')) A' (fun x => ok x∨new x) kv' zs := by
 have ntw : ∀ x,ok x→x≠.bx→A x≠A .bx := fun x hx h e => h (S.inj _ _ hx S.ot e)
 have ahi : ∀ x y,ok x→new y→A x≠A' y := fun x y hx hy e => by
  obtain ⟨o,h1⟩ := S.live x hx
  rw [e,(hn y hy).1] at h1; cases h1
 have S2 := S.same s2
 refine ⟨?_,fun x y hx hy e => ?_,fun x hx => ?_,fun x hx h1 h2 => ?_,.inl S.ot,.inl S.os,?_,?_⟩
 ·exact fK (S.sm.trans s2) (S.fr _ S.ot)
 ·rcases hx with hx | hx
  ·rcases hy with hy | hy
   ·rw [hA x hx,hA y hy] at e; exact S.inj x y hx hy e
   ·rw [hA x hx] at e; exact absurd e (ahi x y hx hy)
  ·rcases hy with hy | hy
   ·rw [hA y hy] at e; exact absurd e.symm (ahi y x hy hx)
   ·exact hi x y hx hy e
 ·rcases hx with hx | hx
  ·rw [hA x hx]; exact S.fr x hx
  ·exact bZ.free S.sm (hn x hx).1
 ·rcases hx with hx | hx
  ·rw [hA x hx,hoc x hx,aq (ntw x hx h1)]; exact S2.ct x hx h1 h2
  ·rw [aq (ahi _ _ S.ot hx).symm]; exact (hn x hx).2
 ·rw [hA _ S.ot,aj]
 ·rw [hA _ S.os,aq (ntw _ S.os (by intro z; cases z))]; exact S2.sh
theorem YF.bN {n : Nat} {ns : List Int} {H Hs H2 : Hp} {A A' : Mb→Addr} {ok new : Mb→Prop} {kv : List (Key×V)} {zs zs' : List V} (S : YF n ns H Hs A ok kv zs) (s2 : bZ Hs H2) (hA : ∀ x,ok x→A' x = A x) (hoc : ∀ x,ok x→oc n ns A' x = oc n ns A x)
 (hn : ∀ x,new x→Hs (A' x) = none∧H2 (A' x) = some (oc n ns A' x)) (hi : ∀ x y,new x→new y→A' x = A' y→x = y) : YF n ns H (upd H2 (A .cR) (.lst zs')) A' (fun x => ok x∨new x) kv zs' := by
 have nsh : ∀ x,ok x→x≠.cR→A x≠A .cR := fun x hx h e => h (S.inj _ _ hx S.os e)
 have ahi : ∀ x y,ok x→new y→A x≠A' y := fun x y hx hy e => by
  obtain ⟨o,h1⟩ := S.live x hx
  rw [e,(hn y hy).1] at h1; cases h1
 have S2 := S.same s2
 refine ⟨?_,fun x y hx hy e => ?_,fun x hx => ?_,fun x hx h1 h2 => ?_,.inl S.ot,.inl S.os,?_,?_⟩
 ·exact fK (S.sm.trans s2) (S.fr _ S.os)
 ·rcases hx with hx | hx
  ·rcases hy with hy | hy
   ·rw [hA x hx,hA y hy] at e; exact S.inj x y hx hy e
   ·rw [hA x hx] at e; exact absurd e (ahi x y hx hy)
  ·rcases hy with hy | hy
   ·rw [hA y hy] at e; exact absurd e.symm (ahi y x hy hx)
   ·exact hi x y hx hy e
 ·rcases hx with hx | hx
  ·rw [hA x hx]; exact S.fr x hx
  ·exact bZ.free S.sm (hn x hx).1
 ·rcases hx with hx | hx
  ·rw [hA x hx,hoc x hx,aq (nsh x hx h2)]; exact S2.ct x hx h1 h2
  ·rw [aq (ahi _ _ S.os hx).symm]; exact (hn x hx).2
 ·rw [hA _ S.ot,aq (nsh _ S.ot (by intro z; cases z))]; exact S2.tw
 ·rw [hA _ S.os,aj]
theorem YF.weak {n : Nat} {ns : List Int} {H Hs : Hp} {A : Mb→Addr} {ok ok' : Mb→Prop} {kv : List (Key×V)} {zs : List V} (S : YF n ns H Hs A ok kv zs) (h : ∀ x,ok' x→ok x) (ht : ok' .bx) (hs : ok' .cR) : YF n ns H Hs A ok' kv zs :=
 ⟨S.sm,fun x y hx hy e => S.inj x y (h x hx) (h y hy) e,fun x hx => S.fr x (h x hx),fun x hx => S.ct x (h x hx),ht,hs,S.tw,S.sh⟩
theorem YF.mir {n : Nat} {ns : List Int} {H Hs : Hp} {A : Mb→Addr} (S : YF n ns H Hs A (Mb.ok n ns.length) (tkv A) ((List.range ns.length).map fun p => V.ref (A (.bN p)))) : aX Hs A n ns.length (S0 ns) [] := by
 refine ⟨S.inj,fun x hx => ?_⟩
 cases x with
 | bx => exact ⟨_,S.tw,rfl⟩
 | cR => exact ⟨_,S.sh,rfl⟩
 | row => exact ⟨_,S.ct .row hx (by intro z; cases z) (by intro z; cases z),[],rfl,by simp [S0,aG]⟩
 | sent => exact ⟨_,S.ct .sent hx (by intro z; cases z) (by intro z; cases z),[],rfl,by simp [aG]⟩
 | dJ =>
   refine ⟨_,S.ct .dJ hx (by intro z; cases z) (by intro z; cases z),_,rfl,List.length_replicate,fun d hd => ⟨.non,?_,rfl⟩⟩
   rw [List.getElem?_replicate,if_pos hd]
 | rights => exact ⟨_,S.ct .rights hx (by intro z; cases z) (by intro z; cases z),rfl⟩
 | copies => exact ⟨_,S.ct .copies hx (by intro z; cases z) (by intro z; cases z),rfl⟩
 | ups => exact ⟨_,S.ct .ups hx (by intro z; cases z) (by intro z; cases z),rfl⟩
 | downs => exact ⟨_,S.ct .downs hx (by intro z; cases z) (by intro z; cases z),rfl⟩
 | rt d => exact ⟨_,S.ct (.rt d) hx (by intro z; cases z) (by intro z; cases z),by show HO.lst _ = HO.lst _; rw [ajE]; rfl⟩
 | cp d => exact ⟨_,S.ct (.cp d) hx (by intro z; cases z) (by intro z; cases z),by show HO.lst _ = HO.lst _; rw [anG]; rfl⟩
 | up d => exact ⟨_,S.ct (.up d) hx (by intro z; cases z) (by intro z; cases z),[],rfl,by simp [S0,aG]⟩
 | dn d => exact ⟨_,S.ct (.dn d) hx (by intro z; cases z) (by intro z; cases z),[],rfl,by simp [S0,aG]⟩
 | bN p => exact ⟨_,S.ct (.bN p) hx (by intro z; cases z) (by intro z; cases z),rfl⟩
 | iD p => exact ⟨_,S.ct (.iD p) hx (by intro z; cases z) (by intro z; cases z),rfl⟩
 | jx p => exact ⟨_,S.ct (.jx p) hx (by intro z; cases z) (by intro z; cases z),[],rfl,by simp [S0,pg0,aG]⟩
def ok0 (x : Mb) : Prop := x = .bx∨x = .row∨x = .dJ∨x = .cR∨x = .sent
def ok8 (n : Nat) (x : Mb) : Prop := (((ok0 x∨(x = .rights∨∃ d,d < n∧x = .rt d))∨(x = .copies∨∃ d,d < n∧x = .cp d))∨(x = .ups∨∃ d,d < n∧x = .up d))∨(x = .downs∨∃ d,d < n∧x = .dn d)
def A0 (tw row wi sh se : Addr) : Mb→Addr
 | .bx => tw
 | .row => row
 | .dJ => wi
 | .cR => sh
 | _ => se
def A1 (A : Mb→Addr) (a : Addr) (f : Nat→Addr) : Mb→Addr
 | .rights => a
 | .rt d => f d
 | x => A x
def A2 (A : Mb→Addr) (a : Addr) (f : Nat→Addr) : Mb→Addr
 | .copies => a
 | .cp d => f d
 | x => A x
def A3 (A : Mb→Addr) (a : Addr) (f : Nat→Addr) : Mb→Addr
 | .ups => a
 | .up d => f d
 | x => A x
def A4 (A : Mb→Addr) (a : Addr) (f : Nat→Addr) : Mb→Addr
 | .downs => a
 | .dn d => f d
 | x => A x
def JW (row wi sh se : Addr) : List (Key×V) := [(ks "row",.ref row),(ks "wishes",.ref wi),(ks "shelves",.ref sh),(ks "sent",.ref se)]
theorem ajF {row wi sh se : Addr} : HY [] (JW row wi sh se) = JW row wi sh se := by kernel_rfl
theorem anJ {row wi sh se a : Addr} : putK (JW row wi sh se) (ks "rights") (.ref a) = JW row wi sh se ++ [(ks "rights",.ref a)] := by kernel_rfl
theorem anK {row wi sh se a b : Addr} : putK (JW row wi sh se ++ [(ks "rights",.ref a)]) (ks "copies") (.ref b) = JW row wi sh se ++ [(ks "rights",.ref a),(ks "copies",.ref b)] := by kernel_rfl
theorem anL {row wi sh se a b c : Addr} : putK (JW row wi sh se ++ [(ks "rights",.ref a),(ks "copies",.ref b)]) (ks "ups") (.ref c) = JW row wi sh se ++ [(ks "rights",.ref a),(ks "copies",.ref b),(ks "ups",.ref c)] := by kernel_rfl
theorem anM {row wi sh se a b c d : Addr} : putK (JW row wi sh se ++ [(ks "rights",.ref a),(ks "copies",.ref b),(ks "ups",.ref c)]) (ks "downs") (.ref d) = JW row wi sh se ++ [(ks "rights",.ref a),(ks "copies",.ref b),(ks "ups",.ref c),(ks "downs",.ref d)] := by kernel_rfl
theorem anN {row wi sh se : Addr} {l : List (Key×V)} : fJ (JW row wi sh se ++ l) (ks "shelves") = some (.ref sh) := by kernel_rfl
theorem aiL (n : Nat) (v : V) : (List.replicate n [v]).flatten = List.replicate n v := by
 induction n with
 | zero => rfl
 | succ n ih => rw [List.replicate_succ,List.flatten_cons,ih,List.replicate_succ]; rfl
def kvS (x : Int) (r q : Addr) : List (Key×V) := [(ks "number",.int x),(ks "writer",.int (-1)),(ks "readers",.ref r),(ks "asked",.ref q),(ks "missing",.int 0)]
theorem ajG {x : Int} {r q : Addr} : HY [] (kvS x r q) = yp ⟨x,none,[],[],0⟩ r q := by kernel_rfl
def alr : Sp := fun vs H Q _ => ∃ n l,∃ ns : List Int,vs = [.int ((n : Nat) : Int),.ref l]∧H l = some (.lst (ns.map V.int))∧n≤1000∧ns.length≤1000∧
 ∀ A H',aX H' A n ns.length (S0 ns) []→bZ H H'→(∀ x : Mb,x.ok n ns.length→H (A x) = none)→Q (.ref (A .bx)) H'
section
variable {P : Program} {w : World} {K : PySem.W.Frag} {mg : Str→Option Value} {base : Heap} {t : JV}
theorem ab6 (T : Txt K w mg t) : cZ P w K mg base n8 1 t.iV t.zf ["_law_count","_law_numbers"] alr := by
 refine T.QW.ok qT (fun vs H Q E h => ?_) (fun cdv A outer s H vs Q E hr h => ?_)
 ·obtain ⟨n,l,ns,rfl,_⟩ := h; rfl
 ·obtain ⟨n,l,ns,rfl,hl,hn,hm,k⟩ := h
  have hu := j7 hr
  have sl : sizeLine = 16777216 := by decide
  refine' ⟨_,?sr,?_⟩
  case' sr => refine' ak ?WK ?Iu
  case' Iu => refine' ak ?WL ?Iv
  case' Iv => refine' ak ?WM ?Iw
  case' Iw => refine' ak ?WN ?WQ
  case' WQ => refine' ak ?afv ?WR
  case' WR => refine' ak ?afw ?WT
  case' WT => refine' aB ?afx
  case' WK => refine' bu (X := _) (x := "_law_town") (e := _) (te := _) (i := 2) ?anO ?anP ?anQ ?arJ ?anR ?anS
  case' anO => exact qT.nd
  case' anP => rfl
  case' anQ => exact (Or.inl rfl)
  case' anR => rfl
  case' anS => exact .inl rfl
  case' arJ => refine' aib (X := _) (trs := _) ?arK ?anT ?anU ?anV ?anW
  case' anT => rfl
  case' anU => rfl
  case' anV => exact List.cons_ne_nil _ _
  case' anW => decide
  case' arK => refine' lV (X := _) (tk := _) (tv := _) (trs := _) ?anY ?anZ ?als
  case' anY => exact aC
  case' anZ => refine' (bL ao)
  case' als => refine' lV (X := _) (tk := _) (tv := _) (trs := _) ?an0 ?an1 ?alu
  case' an0 => exact aC
  case' an1 => refine' bD akx ?alv ?alw
  case' alv => refine' (bL (aa rK ao))
  case' alw => refine' (pv 0)
  case' alu => refine' lV (X := _) (tk := _) (tv := _) (trs := _) ?an2 ?an3 ?alx
  case' an2 => exact aC
  case' an3 => refine' (bL ao)
  case' alx => refine' lV (X := _) (tk := _) (tv := _) (trs := _) ?an4 ?an5 ?aly
  case' an4 => exact aC
  case' an5 => refine' (bL ao)
  case' aly => exact aia
  case' WL => exact (km hu (pv 2) aC (kE (gB (xs := ["_law_k"]) (ys := ["_law_numbers"]) (js := [1]) rfl (by decide +kernel) (by decide +kernel) (by decide +kernel) (by rfl) ⟨⟨rfl,Or.inl rfl⟩,trivial⟩) rfl (iH (by rfl) T.mU (aa (pv 0) ao)) (fun _ _ _ _ _ => (dg (i := 0) (show List.Nodup ((["_law_k"] : List Str) ++ (["_law_numbers"] : List Str) : List Str) by decide +kernel) rfl (Or.inl rfl))) (fun _ _ _ _ _ => lW) (fun _ _ _ _ _ => (bD akx (bL (aa aC ao)) (dG (YL (K := K) rfl) (by rfl) T.Aj PySem.boot_len (aa (pv 1) ao))))) (by rfl))
  case' WM => exact (km hu (pv 2) aC (kE (gB (xs := ["_law_k"]) (ys := ["_law_numbers"]) (js := [1]) rfl (by decide +kernel) (by decide +kernel) (by decide +kernel) (by rfl) ⟨⟨rfl,Or.inl rfl⟩,trivial⟩) rfl (iH (by rfl) T.mU (aa (pv 0) ao)) (fun _ _ _ _ _ => (dg (i := 0) (show List.Nodup ((["_law_k"] : List Str) ++ (["_law_numbers"] : List Str) : List Str) by decide +kernel) rfl (Or.inl rfl))) (fun _ _ _ _ _ => lW) (fun _ _ _ _ _ => (iI (YM (K := K) rfl) (by rfl) T.Ip PyProof.Rows.Boot.«list» (aa (pv 1) ao)))) (by rfl))
  case' WN => exact (km hu (pv 2) aC (kE (gB (xs := ["_law_k"]) (ys := []) (js := []) rfl (by decide +kernel) (by decide +kernel) (by decide +kernel) (by rfl) trivial) rfl (iH (by rfl) T.mU (aa (pv 0) ao)) (fun _ _ _ _ _ => (dg (i := 0) (show List.Nodup ((["_law_k"] : List Str) ++ ([] : List Str) : List Str) by decide +kernel) rfl (Or.inl rfl))) (fun _ _ _ _ _ => lW) (fun _ _ _ _ _ => (bL ao))) (by rfl))
  case' afv => exact (km hu (pv 2) aC (kE (gB (xs := ["_law_k"]) (ys := []) (js := []) rfl (by decide +kernel) (by decide +kernel) (by decide +kernel) (by rfl) trivial) rfl (iH (by rfl) T.mU (aa (pv 0) ao)) (fun _ _ _ _ _ => (dg (i := 0) (show List.Nodup ((["_law_k"] : List Str) ++ ([] : List Str) : List Str) by decide +kernel) rfl (Or.inl rfl))) (fun _ _ _ _ _ => lW) (fun _ _ _ _ _ => (bL ao))) (by rfl))
  case' afw => refine' HS PassesOwn.never rfl (ux (pv 1)) (dg (i := 3) qT.nd rfl (Or.inl rfl)) ?alz
  case' alz => refine' ak ?afy ?ahj
  case' ahj => refine' aB ?alA
  case' afy => refine' bu (X := _) (x := "_law_shelf") (e := _) (te := _) (i := 4) ?an6 ?an7 ?an8 ?arL ?an9 ?aoa
  case' an6 => exact qT.nd
  case' an7 => rfl
  case' an8 => exact (Or.inl rfl)
  case' an9 => rfl
  case' aoa => exact .inl rfl
  case' arL => refine' aib (X := _) (trs := _) ?arM ?aob ?aoc ?aod ?aoe
  case' aob => rfl
  case' aoc => rfl
  case' aod => exact List.cons_ne_nil _ _
  case' aoe => decide
  case' arM => refine' lV (X := _) (tk := _) (tv := _) (trs := _) ?aof ?aog ?alB
  case' aof => exact aC
  case' aog => refine' (pv 3)
  case' alB => refine' lV (X := _) (tk := _) (tv := _) (trs := _) ?aoh ?aoi ?alC
  case' aoh => exact aC
  case' aoi => refine' (QJ Dc az)
  case' alC => refine' lV (X := _) (tk := _) (tv := _) (trs := _) ?aoj ?aok ?alD
  case' aoj => exact aC
  case' aok => refine' (bL ao)
  case' alD => refine' lV (X := _) (tk := _) (tv := _) (trs := _) ?aol ?aom ?alE
  case' aol => exact aC
  case' aom => refine' (bL ao)
  case' alE => refine' lV (X := _) (tk := _) (tv := _) (trs := _) ?aon ?aoo ?alF
  case' aon => exact aC
  case' aoo => refine' az
  case' alF => exact aia
  case' alA => exact (bM (eX PySem.F.plainAttrs_list PySem.F.slot_list_append PySem.F.type_list_append cD (bG hu (pv 2) aC (fun _ _ => rfl)) (aa (pv 4) ao)))
  case' afx => exact (bj (pv 2))
  try dsimp only [du,Cx.j6]
  show let Z1 : L2.TS := _; let Z2 : L2.TS := _; let Z3 : L2.TS := _; let Z4 : L2.TS := _; let Z5 : L2.TS := _; let Z6 : L2.TS := _; let Z7 : L2.TS := _; let Z8 : L2.TS := aQ Z6 (Z7); let Z9 : L2.TS := ael _ _ Z8; let Am : L2.TS := _; let D0 : Ends := _; (aQ Z1 (aQ Z2 (aQ Z3 (aQ Z4 (aQ Z5 (aQ Z9 (Am))))))) D0 _ _
  intro Z1 Z2 Z3 Z4 Z5 Z6 Z7 Z8 Z9 Am D0
  refine fun tw htw => ⟨CZ,fun row hrow => ⟨zz1,fun q0 hq0 => ⟨_,rfl,q0,(n : Int),[.non],rfl,rfl,aj,(by lia),(by lia),?_,fun wi hwi => ⟨CZ,fun sh hsh => ⟨CZ,fun se hse => ?_⟩⟩⟩⟩⟩
  ·rw [Int.toNat_natCast]; simp only [List.length_singleton]; lia
  rw [Int.toNat_natCast,aiL] at *
  have ntr : tw≠row := fun z => by rw [← z,aj] at hrow; cases hrow
  have ntq : tw≠q0 := fun z => by rw [← z,aq ntr,aj] at hq0; cases hq0
  have nrq : row≠q0 := fun z => by rw [← z,aj] at hq0; cases hq0
  have ntw : tw≠wi := fun z => by rw [← z,aq ntq,aq ntr,aj] at hwi; cases hwi
  have nrw : row≠wi := fun z => by rw [← z,aq nrq,aj] at hwi; cases hwi
  have nqw : q0≠wi := fun z => by rw [← z,aj] at hwi; cases hwi
  have nts : tw≠sh := fun z => by rw [← z,aq ntw,aq ntq,aq ntr,aj] at hsh; cases hsh
  have nrs : row≠sh := fun z => by rw [← z,aq nrw,aq nrq,aj] at hsh; cases hsh
  have nqs : q0≠sh := fun z => by rw [← z,aq nqw,aj] at hsh; cases hsh
  have nws : wi≠sh := fun z => by rw [← z,aj] at hsh; cases hsh
  have nte : tw≠se := fun z => by rw [← z,aq nts,aq ntw,aq ntq,aq ntr,aj] at hse; cases hse
  have nre : row≠se := fun z => by rw [← z,aq nrs,aq nrw,aq nrq,aj] at hse; cases hse
  have nqe : q0≠se := fun z => by rw [← z,aq nqs,aq nqw,aj] at hse; cases hse
  have nwe : wi≠se := fun z => by rw [← z,aq nws,aj] at hse; cases hse
  have nse : sh≠se := fun z => by rw [← z,aj] at hse; cases hse
  refine ⟨by rw [aq nte,aq nts,aq ntw,aq ntq,aq ntr,aj],JW row wi sh se,rfl,(by show 4≤15; decide),?_⟩
  rw [ajF]
  have axS : H row = none := Lv.upd _ hrow
  have fwi : H wi = none := Lv.upd _ (Lv.upd _ (Lv.upd _ hwi))
  have fsh : H sh = none := Lv.upd _ (Lv.upd _ (Lv.upd _ (Lv.upd _ hsh)))
  have fse : H se = none := Lv.upd _ (Lv.upd _ (Lv.upd _ (Lv.upd _ (Lv.upd _ hse))))
  have G0 : YF n ns H (upd (upd (upd (upd (upd (upd (upd H tw (.dK [])) row (.lst [])) q0 (.lst [.non])) wi (.lst (List.replicate n .non))) sh (.lst [])) se (.lst [])) tw (.dK (JW row wi sh se))) (A0 tw row wi sh se) ok0 (JW row wi sh se) [] := by
   refine ⟨?_,fun x y hx hy e => ?_,fun x hx => ?_,fun x hx h1 h2 => ?_,.inl rfl,.inr (.inr (.inr (.inl rfl))),aj,?_⟩
   ·refine fK ?_ htw
    exact (((((aA htw).trans (aA hrow)).trans (aA hq0)).trans (aA hwi)).trans (aA hsh)).trans (aA hse)
   ·rcases hx with rfl | rfl | rfl | rfl | rfl <;> rcases hy with rfl | rfl | rfl | rfl | rfl <;> first
     | rfl
     | (exfalso; exact ntr e) | (exfalso; exact ntw e) | (exfalso; exact nts e) | (exfalso; exact nte e) | (exfalso; exact nrw e) | (exfalso; exact nrs e) | (exfalso; exact nre e) | (exfalso; exact nws e) | (exfalso; exact nwe e) | (exfalso; exact nse e)
     | (exfalso; exact ntr e.symm) | (exfalso; exact ntw e.symm) | (exfalso; exact nts e.symm) | (exfalso; exact nte e.symm) | (exfalso; exact nrw e.symm) | (exfalso; exact nrs e.symm) | (exfalso; exact nre e.symm) | (exfalso; exact nws e.symm) | (exfalso; exact nwe e.symm) | (exfalso; exact nse e.symm)
   ·rcases hx with rfl | rfl | rfl | rfl | rfl
    ·exact htw
    ·exact axS
    ·exact fwi
    ·exact fsh
    ·exact fse
   ·rcases hx with rfl | rfl | rfl | rfl | rfl
    ·exact absurd rfl h1
    ·show upd _ tw _ row = _; rw [aq ntr.symm,aq nre,aq nrs,aq nrw,aq nrq,aj]; rfl
    ·show upd _ tw _ wi = _; rw [aq ntw.symm,aq nwe,aq nws,aj]; rfl
    ·exact absurd rfl h2
    ·show upd _ tw _ se = _; rw [aq nte.symm,aj]; rfl
   ·show upd _ tw _ sh = _; rw [aq nts.symm,aq nse,aj]
  generalize upd (upd (upd (upd (upd (upd (upd H tw (.dK [])) row (.lst [])) q0 (.lst [.non])) wi (.lst (List.replicate n .non))) sh (.lst [])) se (.lst [])) tw (.dK (JW row wi sh se)) = H0 at G0
  clear hrow hq0 hwi hsh hse ntr ntq nrq ntw nrw nqw nts nrs nqs nws nte nre nqe nwe nse
  have nb : -(2 ^ 62)≤((n : Nat) : Int)∧((n : Nat) : Int) < 2 ^ 62 := ⟨by lia,by lia⟩
  refine ⟨_,rfl,(n : Int),rfl,nb.1,nb.2,fun ar har => ?_⟩
  rw [Int.toNat_natCast]
  refine xO (c := List.replicate ns.length (.str "none")) (fun σ' => ∃ o,σ' = [o,some (.ref l)]) ⟨_,rfl⟩ har hn (fun i σ' h => by obtain ⟨o,rfl⟩ := h; exact ⟨_,rfl⟩) (fun σ' H' R ⟨o,e⟩ s' hR => ?_) (fun f1 H1 s1 ha1 hf1 axT => ?_)
  ·subst e
   have hl' := s' _ _ (G0.sm _ _ hl)
   refine ⟨zz1,fun q hq => ⟨_,rfl,l,_,rfl,.inl (cz.of (aA hq _ _ hl')),q,_,[.str "none"],rfl,rfl,aj,(by lia),?_,?_,fun z hz => ?_⟩⟩
   ·rw [List.length_map]; lia
   ·rw [List.length_map,Int.toNat_natCast]; simp only [List.length_singleton]; lia
   ·rw [List.length_map,Int.toNat_natCast,aiL]
    exact hR z _ (Lv.upd _ hz) ((aA hq).trans (aA hz)) aj
  have gt1 : H1 tw = some (.dK _) := s1 _ _ G0.tw
  refine ⟨_,rfl,tw,_,rfl,dput gt1 (by show 4 < sizeLine; decide) anJ,?_⟩
  have G1 := G0.more (A' := A1 (A0 tw row wi sh se) ar f1) (new := fun x => x = .rights∨∃ d,d < n∧x = .rt d) (kv' := JW row wi sh se ++ [(ks "rights",.ref ar)]) s1 (fun x hx => by rcases hx with rfl | rfl | rfl | rfl | rfl <;> rfl) (fun x hx => by rcases hx with rfl | rfl | rfl | rfl | rfl <;> rfl)
   (fun x hx => by
     rcases hx with rfl | ⟨d,hd,rfl⟩
     ·exact ⟨har,ha1⟩
     ·exact ⟨(hf1 d hd).1,(hf1 d hd).2.2⟩)
   (fun x y hx hy e => by
     rcases hx with rfl | ⟨d,hd,rfl⟩ <;> rcases hy with rfl | ⟨d',hd',rfl⟩
     ·rfl
     ·exact absurd e.symm (hf1 d' hd').2.1
     ·exact absurd e (hf1 d hd).2.1
     ·rw [axT d d' hd hd' e])
  have G1' : YF n ns H (upd H1 tw (.dK (JW row wi sh se ++ [(ks "rights",.ref ar)]))) _ _ _ [] := G1
  generalize upd H1 tw (.dK (JW row wi sh se ++ [(ks "rights",.ref ar)])) = H1' at G1'
  clear G1
  refine ⟨_,rfl,(n : Int),rfl,nb.1,nb.2,fun ac hac => ?_⟩
  rw [Int.toNat_natCast]
  refine xO (c := ns.map V.int) (fun σ' => ∃ o,σ' = [o,some (.ref l)]) ⟨_,rfl⟩ hac hn (fun i σ' h => by obtain ⟨o,rfl⟩ := h; exact ⟨_,rfl⟩) (fun σ' H' R ⟨o,e⟩ s' hR => ?_) (fun f2 H2 s2 ha2 hf2 alG => ?_)
  ·subst e
   have hl' := s' _ _ (G1'.sm _ _ hl)
   exact ⟨_,rfl,l,_,rfl,.inl (cz.of hl'),fun z hz => hR z _ hz (aA hz) aj⟩
  have gt2 : H2 tw = some (.dK _) := s2 _ _ G1'.tw
  refine ⟨_,rfl,tw,_,rfl,dput gt2 (by show 5 < sizeLine; decide) anK,?_⟩
  have G2 := G1'.more (A' := A2 (A1 (A0 tw row wi sh se) ar f1) ac f2) (new := fun x => x = .copies∨∃ d,d < n∧x = .cp d) (kv' := JW row wi sh se ++ [(ks "rights",.ref ar),(ks "copies",.ref ac)]) s2 (fun x hx => by rcases hx with (rfl | rfl | rfl | rfl | rfl) | rfl | ⟨d,_,rfl⟩ <;> rfl) (fun x hx => by rcases hx with (rfl | rfl | rfl | rfl | rfl) | rfl | ⟨d,_,rfl⟩ <;> rfl)
   (fun x hx => by
     rcases hx with rfl | ⟨d,hd,rfl⟩
     ·exact ⟨hac,ha2⟩
     ·exact ⟨(hf2 d hd).1,(hf2 d hd).2.2⟩)
   (fun x y hx hy e => by
     rcases hx with rfl | ⟨d,hd,rfl⟩ <;> rcases hy with rfl | ⟨d',hd',rfl⟩
     ·rfl
     ·exact absurd e.symm (hf2 d' hd').2.1
     ·exact absurd e (hf2 d hd).2.1
     ·rw [alG d d' hd hd' e])
  have G2' : YF n ns H (upd H2 tw (.dK (JW row wi sh se ++ [(ks "rights",.ref ar),(ks "copies",.ref ac)]))) _ _ _ [] := G2
  generalize upd H2 tw (.dK (JW row wi sh se ++ [(ks "rights",.ref ar),(ks "copies",.ref ac)])) = H2' at G2'
  clear G2
  refine ⟨_,rfl,(n : Int),rfl,nb.1,nb.2,fun au hau => ?_⟩
  rw [Int.toNat_natCast]
  refine xO (c := []) (fun σ' => ∃ o,σ' = [o]) ⟨_,rfl⟩ hau hn (fun i σ' h => by obtain ⟨o,rfl⟩ := h; exact ⟨_,rfl⟩) (fun σ' H' R ⟨o,e⟩ s' hR => ?_) (fun f3 H3 s3 ha3 hf3 axV => ?_)
  ·exact ⟨CZ,fun z hz => hR z _ hz (aA hz) aj⟩
  have gt3 : H3 tw = some (.dK _) := s3 _ _ G2'.tw
  refine ⟨_,rfl,tw,_,rfl,dput gt3 (by show 6 < sizeLine; decide) anL,?_⟩
  have G3 := G2'.more (A' := A3 (A2 (A1 (A0 tw row wi sh se) ar f1) ac f2) au f3) (new := fun x => x = .ups∨∃ d,d < n∧x = .up d) (kv' := JW row wi sh se ++ [(ks "rights",.ref ar),(ks "copies",.ref ac),(ks "ups",.ref au)]) s3 (fun x hx => by rcases hx with ((rfl | rfl | rfl | rfl | rfl) | rfl | ⟨d,_,rfl⟩) | rfl | ⟨d,_,rfl⟩ <;> rfl) (fun x hx => by rcases hx with ((rfl | rfl | rfl | rfl | rfl) | rfl | ⟨d,_,rfl⟩) | rfl | ⟨d,_,rfl⟩ <;> rfl)
   (fun x hx => by
     rcases hx with rfl | ⟨d,hd,rfl⟩
     ·exact ⟨hau,ha3⟩
     ·exact ⟨(hf3 d hd).1,(hf3 d hd).2.2⟩)
   (fun x y hx hy e => by
     rcases hx with rfl | ⟨d,hd,rfl⟩ <;> rcases hy with rfl | ⟨d',hd',rfl⟩
     ·rfl
     ·exact absurd e.symm (hf3 d' hd').2.1
     ·exact absurd e (hf3 d hd).2.1
     ·rw [axV d d' hd hd' e])
  have G3' : YF n ns H (upd H3 tw (.dK (JW row wi sh se ++ [(ks "rights",.ref ar),(ks "copies",.ref ac),(ks "ups",.ref au)]))) _ _ _ [] := G3
  generalize upd H3 tw (.dK (JW row wi sh se ++ [(ks "rights",.ref ar),(ks "copies",.ref ac),(ks "ups",.ref au)])) = H3' at G3'
  clear G3
  refine ⟨_,rfl,(n : Int),rfl,nb.1,nb.2,fun ad had => ?_⟩
  rw [Int.toNat_natCast]
  refine xO (c := []) (fun σ' => ∃ o,σ' = [o]) ⟨_,rfl⟩ had hn (fun i σ' h => by obtain ⟨o,rfl⟩ := h; exact ⟨_,rfl⟩) (fun σ' H' R ⟨o,e⟩ s' hR => ?_) (fun f4 H4 s4 ha4 hf4 arN => ?_)
  ·exact ⟨CZ,fun z hz => hR z _ hz (aA hz) aj⟩
  have gt4 : H4 tw = some (.dK _) := s4 _ _ G3'.tw
  refine ⟨_,rfl,tw,_,rfl,dput gt4 (by show 7 < sizeLine; decide) anM,?_⟩
  have G4 := G3'.more (A' := A4 (A3 (A2 (A1 (A0 tw row wi sh se) ar f1) ac f2) au f3) ad f4) (new := fun x => x = .downs∨∃ d,d < n∧x = .dn d) (kv' := JW row wi sh se ++ [(ks "rights",.ref ar),(ks "copies",.ref ac),(ks "ups",.ref au),(ks "downs",.ref ad)]) s4 (fun x hx => by rcases hx with (((rfl | rfl | rfl | rfl | rfl) | rfl | ⟨d,_,rfl⟩) | rfl | ⟨d,_,rfl⟩) | rfl | ⟨d,_,rfl⟩ <;> rfl) (fun x hx => by rcases hx with (((rfl | rfl | rfl | rfl | rfl) | rfl | ⟨d,_,rfl⟩) | rfl | ⟨d,_,rfl⟩) | rfl | ⟨d,_,rfl⟩ <;> rfl)
   (fun x hx => by
     rcases hx with rfl | ⟨d,hd,rfl⟩
     ·exact ⟨had,ha4⟩
     ·exact ⟨(hf4 d hd).1,(hf4 d hd).2.2⟩)
   (fun x y hx hy e => by
     rcases hx with rfl | ⟨d,hd,rfl⟩ <;> rcases hy with rfl | ⟨d',hd',rfl⟩
     ·rfl
     ·exact absurd e.symm (hf4 d' hd').2.1
     ·exact absurd e (hf4 d hd).2.1
     ·rw [arN d d' hd hd' e])
  have G4' : YF n ns H (upd H4 tw (.dK (JW row wi sh se ++ [(ks "rights",.ref ar),(ks "copies",.ref ac),(ks "ups",.ref au),(ks "downs",.ref ad)]))) _ _ _ [] := G4
  generalize upd H4 tw (.dK (JW row wi sh se ++ [(ks "rights",.ref ar),(ks "copies",.ref ac),(ks "ups",.ref au),(ks "downs",.ref ad)])) = H4' at G4'
  clear G4
  have okB : ∀ x,ok8 n x→(((ok0 x∨(x = .rights∨∃ d,d < n∧x = .rt d))∨(x = .copies∨∃ d,d < n∧x = .cp d))∨(x = .ups∨∃ d,d < n∧x = .up d))∨(x = .downs∨∃ d,d < n∧x = .dn d) := fun x hx => hx
  have G5 := G4'.weak (ok' := ok8 n) okB (.inl (.inl (.inl (.inl (.inl rfl))))) (.inl (.inl (.inl (.inl (.inr (.inr (.inr (.inl rfl))))))))
  clear G4' okB
  generalize hAB : A4 (A3 (A2 (A1 (A0 tw row wi sh se) ar f1) ac f2) au f3) ad f4 = AB at G5
  have hkv : JW row wi sh se ++ [(ks "rights",.ref ar),(ks "copies",.ref ac),(ks "ups",.ref au),(ks "downs",.ref ad)] = tkv AB := by rw [← hAB]; rfl
  have auZ : AB .bx = tw := by rw [← hAB]; rfl
  have axY : AB .cR = sh := by rw [← hAB]; rfl
  refine ⟨_,rfl,l,rfl,⟨_,cz.of (G5.sm _ _ hl)⟩,?_⟩
  let PV2 : Nat→St→Hp→Prop := fun i σ' H' => (∃ o3 o4,σ' = [some (.int n),some (.ref l),some (.ref tw),o3,o4])∧∃ A,(∀ x,ok8 n x→A x = AB x)∧YF n ns H H' A (fun x => ok8 n x∨∃ p,p < i∧(x = .bN p∨x = .iD p∨x = .jx p)) (JW row wi sh se ++ [(ks "rights",.ref ar),(ks "copies",.ref ac),(ks "ups",.ref au),(ks "downs",.ref ad)]) ((List.range i).map fun p => V.ref (A (.bN p)))
  refine J2 (xs := ns.map V.int) PV2 ?_ ?_ ?_ ?_
  ·refine ⟨⟨_,_,rfl⟩,AB,fun x _ => rfl,G5.weak (fun x hx => hx.elim id fun z => by obtain ⟨p,hp,_⟩ := z; exact absurd hp (Nat.not_lt_zero _)) (.inl G5.ot) (.inl G5.os)⟩
  ·rintro i σ' H' _ ⟨_,A',_,G⟩
   exact cz.of (G.sm _ _ hl)
  ·rintro i y σ' H' hy ⟨⟨o3,o4,rfl⟩,A',hA',G⟩
   have hi : i < ns.length := by have := (List.getElem?_eq_some_iff.mp hy).1; simpa using this
   have hy' : y = .int ns[i] := by
    rw [List.getElem?_map,List.getElem?_eq_getElem hi] at hy
    exact (Option.some.inj hy).symm
   subst hy'
   refine fun sf hsf => ⟨_,rfl,_,rfl,⟨CZ,fun r hr => ⟨CZ,fun q hq => ?_⟩⟩⟩
   have nsr : sf≠r := fun z => by rw [← z,aj] at hr; cases hr
   have nsq : sf≠q := fun z => by rw [← z,aq nsr,aj] at hq; cases hq
   have nrq : r≠q := fun z => by rw [← z,aj] at hq; cases hq
   have hr0 : H' r = none := Lv.upd _ hr
   have hq0 : H' q = none := Lv.upd _ (Lv.upd _ hq)
   refine ⟨by rw [aq nsq,aq nsr,aj],kvS ns[i] r q,rfl,(by show 5≤15; decide),?_⟩
   rw [ajG]
   have hpg : pg0 ns i = ⟨ns[i],none,[],[],0⟩ := by unfold pg0; rw [List.getElem?_eq_getElem hi]; rfl
   rw [← hpg]
   have s1 : bZ H' (upd (upd (upd (upd H' sf (.dK [])) r (.lst [])) q (.lst [])) sf (.dK (yp (pg0 ns i) r q))) := fK (((aA hsf).trans (aA hr)).trans (aA hq)) hsf
   have c1 : upd (upd (upd (upd H' sf (.dK [])) r (.lst [])) q (.lst [])) sf (.dK (yp (pg0 ns i) r q)) sf = some (.dK (yp (pg0 ns i) r q)) := aj
   have c2 : upd (upd (upd (upd H' sf (.dK [])) r (.lst [])) q (.lst [])) sf (.dK (yp (pg0 ns i) r q)) r = some (.lst []) := by rw [aq nsr.symm,aq nrq,aj]
   have c3 : upd (upd (upd (upd H' sf (.dK [])) r (.lst [])) q (.lst [])) sf (.dK (yp (pg0 ns i) r q)) q = some (.lst []) := by rw [aq nsq.symm,aj]
   generalize upd (upd (upd (upd H' sf (.dK [])) r (.lst [])) q (.lst [])) sf (.dK (yp (pg0 ns i) r q)) = H2 at s1 c1 c2 c3
   have htw : A' .bx = tw := by rw [hA' _ G5.ot,auZ]
   have hsh : A' .cR = sh := by rw [hA' _ G5.os,axY]
   have gt := s1 _ _ G.tw
   have gs := s1 _ _ G.sh
   rw [htw] at gt
   rw [hsh] at gs
   refine zd rfl (fc gt anN) ⟨.inl ⟨rfl,_,cz.of gs⟩,_,rfl,sh,_,_,rfl,rfl,gs,by rw [List.length_map,List.length_range]; lia,?_⟩
   have arO : ∀ x,(ok8 n x∨∃ p,p < i∧(x = .bN p∨x = .iD p∨x = .jx p))→x≠.bN i∧x≠.iD i∧x≠.jx i := by
    intro x hx
    rcases hx with hx | ⟨p,hp,hx⟩
    ·refine ⟨?_,?_,?_⟩ <;> (intro z; subst z; simp [ok8,ok0] at hx)
    ·rcases hx with rfl | rfl | rfl <;> refine ⟨?_,?_,?_⟩ <;> (intro z; cases z <;> exact absurd hp (Nat.lt_irrefl _))
   generalize hA2 : jA (jA (jA A' (.bN i) sf) (.iD i) r) (.jx i) q = A2'
   have e1 : A2' (.bN i) = sf := by rw [← hA2]; simp [jA]
   have e2 : A2' (.iD i) = r := by rw [← hA2]; simp [jA]
   have e3 : A2' (.jx i) = q := by rw [← hA2]; simp [jA]
   have eo : ∀ x,x≠.bN i→x≠.iD i→x≠.jx i→A2' x = A' x := fun x h1 h2 h3 => by rw [← hA2,bH _ _ h3,bH _ _ h2,bH _ _ h1]
   have G6 := G.bN (A' := A2') (new := fun x => x = .bN i∨x = .iD i∨x = .jx i) (zs' := ((List.range i).map fun p => V.ref (A' (.bN p))) ++ [.ref sf]) s1
    (fun x hx => by obtain ⟨h1,h2,h3⟩ := arO x hx; exact eo x h1 h2 h3)
    (fun x hx => by
      obtain ⟨h1,h2,h3⟩ := arO x hx
      cases x with
      | bN p =>
        have hp : p≠i := fun z => h1 (by rw [z])
        show HO.dK _ = HO.dK _
        rw [eo (.iD p) (by intro z; cases z) (by intro z; cases z; exact hp rfl) (by intro z; cases z),eo (.jx p) (by intro z; cases z) (by intro z; cases z) (by intro z; cases z; exact hp rfl)]
      | rights => show HO.lst _ = HO.lst _; congr 1; exact List.map_congr_left fun d _ => by rw [eo (.rt d) (by intro z; cases z) (by intro z; cases z) (by intro z; cases z)]
      | copies => show HO.lst _ = HO.lst _; congr 1; exact List.map_congr_left fun d _ => by rw [eo (.cp d) (by intro z; cases z) (by intro z; cases z) (by intro z; cases z)]
      | ups => show HO.lst _ = HO.lst _; congr 1; exact List.map_congr_left fun d _ => by rw [eo (.up d) (by intro z; cases z) (by intro z; cases z) (by intro z; cases z)]
      | downs => show HO.lst _ = HO.lst _; congr 1; exact List.map_congr_left fun d _ => by rw [eo (.dn d) (by intro z; cases z) (by intro z; cases z) (by intro z; cases z)]
      | _ => rfl)
    (fun x hx => by
      rcases hx with rfl | rfl | rfl
      ·rw [e1]; exact ⟨hsf,by rw [c1]; show some (HO.dK _) = some (HO.dK _); rw [e2,e3]⟩
      ·rw [e2]; exact ⟨hr0,c2⟩
      ·rw [e3]; exact ⟨hq0,c3⟩)
    (fun x y hx hy e => by
      rcases hx with rfl | rfl | rfl <;> rcases hy with rfl | rfl | rfl <;> first
       | rfl
       | (exfalso; rw [e1,e2] at e; exact nsr e) | (exfalso; rw [e1,e3] at e; exact nsq e) | (exfalso; rw [e2,e3] at e; exact nrq e)
       | (exfalso; rw [e2,e1] at e; exact nsr e.symm) | (exfalso; rw [e3,e1] at e; exact nsq e.symm) | (exfalso; rw [e3,e2] at e; exact nrq e.symm))
   rw [hsh] at G6
   refine ⟨⟨_,_,rfl⟩,A2',fun x hx => ?_,?_⟩
   ·obtain ⟨h1,h2,h3⟩ := arO x (.inl hx)
    rw [eo x h1 h2 h3]; exact hA' x hx
   ·have ez : ((List.range i).map fun p => V.ref (A' (.bN p))) ++ [.ref sf] = (List.range (i + 1)).map fun p => V.ref (A2' (.bN p)) := by
     rw [List.range_succ,List.map_append]
     congr 1
     ·exact List.map_congr_left fun p hp => by rw [eo (.bN p) (by intro z; cases z; exact absurd (List.mem_range.mp hp) (Nat.lt_irrefl _)) (by intro z; cases z) (by intro z; cases z)]
     ·show [V.ref sf] = [V.ref _]; rw [e1]
    rw [ez] at G6 ⊢
    refine G6.weak (ok' := fun x => ok8 n x∨∃ p,p < i + 1∧(x = .bN p∨x = .iD p∨x = .jx p)) (fun x hx => ?_) (Or.inl G5.ot) (Or.inl G5.os)
    rcases hx with hx | ⟨p,hp,hx⟩
    ·exact .inl (.inl hx)
    ·by_cases e : p = i
     ·subst e; exact .inr hx
     ·exact .inl (.inr ⟨p,by lia,hx⟩)
  ·rintro σ' H' ⟨⟨o3,o4,rfl⟩,A',hA',G⟩
   rw [List.length_map] at G
   have hk : JW row wi sh se ++ [(ks "rights",.ref ar),(ks "copies",.ref ac),(ks "ups",.ref au),(ks "downs",.ref ad)] = tkv A' := by
    rw [hkv]
    unfold tkv
    have o : ∀ x,ok8 n x→AB x = A' x := fun x hx => (hA' x hx).symm
    rw [o .row (.inl (.inl (.inl (.inl (.inr (.inl rfl)))))),o .dJ (.inl (.inl (.inl (.inl (.inr (.inr (.inl rfl))))))),o .cR (.inl (.inl (.inl (.inl (.inr (.inr (.inr (.inl rfl)))))))),o .sent (.inl (.inl (.inl (.inl (.inr (.inr (.inr (.inr rfl)))))))),o .rights (.inl (.inl (.inl (.inr (.inl rfl))))),o .copies (.inl (.inl (.inr (.inl rfl)))),o .ups (.inl (.inr (.inl rfl))),o .downs (.inr (.inl rfl))]
   rw [hk] at G
   have okF : ∀ x : Mb,x.ok n ns.length→ok8 n x∨∃ p,p < ns.length∧(x = .bN p∨x = .iD p∨x = .jx p) := by
    intro x hx
    cases x with
    | bx => exact .inl (.inl (.inl (.inl (.inl (.inl rfl)))))
    | row => exact .inl (.inl (.inl (.inl (.inl (.inr (.inl rfl))))))
    | dJ => exact .inl (.inl (.inl (.inl (.inl (.inr (.inr (.inl rfl)))))))
    | cR => exact .inl (.inl (.inl (.inl (.inl (.inr (.inr (.inr (.inl rfl))))))))
    | sent => exact .inl (.inl (.inl (.inl (.inl (.inr (.inr (.inr (.inr rfl))))))))
    | rights => exact .inl (.inl (.inl (.inl (.inr (.inl rfl)))))
    | copies => exact .inl (.inl (.inl (.inr (.inl rfl))))
    | ups => exact .inl (.inl (.inr (.inl rfl)))
    | downs => exact .inl (.inr (.inl rfl))
    | rt d => exact .inl (.inl (.inl (.inl (.inr (.inr ⟨d,hx,rfl⟩)))))
    | cp d => exact .inl (.inl (.inl (.inr (.inr ⟨d,hx,rfl⟩))))
    | up d => exact .inl (.inl (.inr (.inr ⟨d,hx,rfl⟩)))
    | dn d => exact .inl (.inr (.inr ⟨d,hx,rfl⟩))
    | bN p => exact .inr ⟨p,hx,.inl rfl⟩
    | iD p => exact .inr ⟨p,hx,.inr (.inl rfl)⟩
    | jx p => exact .inr ⟨p,hx,.inr (.inr rfl)⟩
   have G7 := G.weak (ok' := Mb.ok n ns.length) okF trivial trivial
   have htw : A' .bx = tw := by rw [hA' _ G5.ot,auZ]
   refine ⟨_,rfl,?_⟩
   rw [← htw]
   exact k A' H' G7.mir G7.sm G7.fr
end
end iz
namespace iz
open PySem L2
theorem afA {i j : Int} (h : i = j) : decide (V.int i = V.int j) = true := decide_eq_true (by rw [h])
theorem afB {i j : Int} (h : i≠j) : decide (V.int i = V.int j) = false := decide_eq_false fun z => h (V.int.inj z)
theorem Q5 {ns : List Int} {k : Int} (h0 : 0≤k) (h1 : k < (ns.length : Nat)) : ∃ z,Ol (ns.map V.int) k = some (.int z) := by
 obtain ⟨j,rfl⟩ : ∃ j : Nat,k = (j : Int) := ⟨k.toNat,by lia⟩
 have hj : j < ns.length := by lia
 exact ⟨ns[j],Gj (by rw [List.getElem?_map,List.getElem?_eq_getElem hj]; rfl)⟩
theorem cA.flat (x : cA) : x.d.flat := by cases x <;> simp [cA.d,D.flat,D.flats]
theorem alH {H : Hp} {b : Addr} {x : cA} (h : H b = some (.tup (cA.vs x))) : Rep H (.ref b) x.d := by
 cases x with
 | look d p => simp only [cA.d,Rep,aG]; exact ⟨b,_,rfl,h,_,_,rfl,rfl,_,_,rfl,rfl,_,_,rfl,rfl,rfl⟩
 | put d p n => simp only [cA.d,Rep,aG]; exact ⟨b,_,rfl,h,_,_,rfl,rfl,_,_,rfl,rfl,_,_,rfl,rfl,_,_,rfl,rfl,rfl⟩
 | rest d p => simp only [cA.d,Rep,aG]; exact ⟨b,_,rfl,h,_,_,rfl,rfl,_,_,rfl,rfl,_,_,rfl,rfl,rfl⟩
 | up d => simp only [cA.d,Rep,aG]; exact ⟨b,_,rfl,h,_,_,rfl,rfl,_,_,rfl,rfl,rfl⟩
 | down d => simp only [cA.d,Rep,aG]; exact ⟨b,_,rfl,h,_,_,rfl,rfl,_,_,rfl,rfl,rfl⟩
theorem afC {H : Hp} {v : V} {x : cA} (h : Rep H v x.d) : ∃ b,v = .ref b∧H b = some (.tup (cA.vs x)) := by
 cases x with
 | look d p => simp only [cA.d,Rep,aG] at h; obtain ⟨b,xs,rfl,hb,_,_,rfl,rfl,_,_,rfl,rfl,_,_,rfl,rfl,rfl⟩ := h; exact ⟨b,rfl,hb⟩
 | put d p n => simp only [cA.d,Rep,aG] at h; obtain ⟨b,xs,rfl,hb,_,_,rfl,rfl,_,_,rfl,rfl,_,_,rfl,rfl,_,_,rfl,rfl,rfl⟩ := h; exact ⟨b,rfl,hb⟩
 | rest d p => simp only [cA.d,Rep,aG] at h; obtain ⟨b,xs,rfl,hb,_,_,rfl,rfl,_,_,rfl,rfl,_,_,rfl,rfl,rfl⟩ := h; exact ⟨b,rfl,hb⟩
 | up d => simp only [cA.d,Rep,aG] at h; obtain ⟨b,xs,rfl,hb,_,_,rfl,rfl,_,_,rfl,rfl,rfl⟩ := h; exact ⟨b,rfl,hb⟩
 | down d => simp only [cA.d,Rep,aG] at h; obtain ⟨b,xs,rfl,hb,_,_,rfl,rfl,_,_,rfl,rfl,rfl⟩ := h; exact ⟨b,rfl,hb⟩
def DL (H : Hp) (vs : List V) (k : Nat) : Prop := ∃ ds : List cA,aG H vs (ds.map cA.d)∧ds.length≤k
theorem DL.nil (H : Hp) : DL H [] 0 := ⟨[],by simp [aG],Nat.le_refl _⟩
theorem DL.aU {H H' : Hp} {vs : List V} {k : Nat} (t : bY H H') (h : DL H vs k) : DL H' vs k := by obtain ⟨ds,r,l⟩ := h; exact ⟨ds,r.aU t (bU cA.flat _),l⟩
theorem DL.more {H : Hp} {vs : List V} {k j : Nat} (h : DL H vs k) (hk : k≤j) : DL H vs j := by obtain ⟨ds,r,l⟩ := h; exact ⟨ds,r,Nat.le_trans l hk⟩
theorem DL.append {H : Hp} {vs us : List V} {k j : Nat} (a : DL H vs k) (b : DL H us j) : DL H (vs ++ us) (k + j) := by
 obtain ⟨ds,r,l⟩ := a
 obtain ⟨es,r',l'⟩ := b
 exact ⟨ds ++ es,by rw [List.map_append]; exact r.append r',by rw [List.length_append]; lia⟩
theorem DL.cons {H : Hp} {us : List V} {k : Nat} {b : Addr} (x : cA) (h : H b = some (.tup (cA.vs x))) (r : DL H us k) : DL H (.ref b :: us) (k + 1) := by
 obtain ⟨ds,r,l⟩ := r
 refine ⟨x :: ds,?_,by simp; lia⟩
 simp only [List.map_cons,aG]
 exact ⟨_,_,rfl,alH h,r⟩
theorem DL.one {H : Hp} {b : Addr} (x : cA) (h : H b = some (.tup (cA.vs x))) : DL H [.ref b] 1 := DL.cons x h (DL.nil H)
theorem DL.len {H : Hp} {vs : List V} {k : Nat} (h : DL H vs k) : vs.length≤k := by obtain ⟨ds,r,l⟩ := h; rw [r.length,List.length_map]; exact l
theorem aoq {H : Hp} {d z fl : Addr} {us zs fs : List V} {Q : VK} {o : Option (Option V)} (ho : o = some (some (.ref fl))) (hd : H d = some (.lst us)) (hz : H z = some (.lst zs)) (hf : H fl = some (.lst fs)) (hl : us.length + zs.length + fs.length≤16000000)
 (k : ∀ r H',bZ H H'→H r = none→H' r = some (.lst (us ++ zs ++ fs))→Q (.ref r) H') : aqm (.ref d) (.ref z) H fun x H1 => ∃ v,o = some (some v)∧aqm x v H1 Q := by
 have sl : sizeLine = 16777216 := by decide
 refine ⟨d,z,us,zs,rfl,rfl,hd,hz,by lia,fun p hp => ⟨_,ho,p,fl,_,fs,rfl,rfl,aj,aA hp _ _ hf,by rw [List.length_append]; lia,fun q hq => ?_⟩⟩
 exact k q _ ((aA hp).trans (aA hq)) (Lv.upd _ hq) aj
def arQ : Sp := fun vs H Q _ => ∃ c : Int,∃ m : Nat,vs = [.int c,.int m]∧m≤1000∧∀ l (ns : List Int) H',ns.length = m→H l = none→bZ H H'→H' l = some (.lst (ns.map V.int))→Q (.ref l) H'
def aor : Sp := fun vs H Q _ => ∃ n : Nat,∃ c : Int,vs = [.int n,.int c]∧n≤100∧∀ l us H',H l = none→bZ H H'→H' l = some (.lst us)→DL H' us (20 * n + 100)→Q (.ref l) H'
section
variable {P : Program} {w : World} {K : PySem.W.Frag} {mg : Str→Option Value} {base : Heap} {t : JV}
theorem Sv (T : Txt K w mg t) : cZ P w K mg base n8 1 t.fO t.qC ["_law_cell","_law_pages"] arQ := by
 refine T.Eh.ok qj (fun vs H Q E h => ?_) (fun cdv A outer s H vs Q E hr h => ?_)
 ·obtain ⟨c,m,rfl,_⟩ := h; rfl
 ·obtain ⟨c,m,rfl,hm,k⟩ := h
  have sl : sizeLine = 16777216 := by decide
  refine ⟨_,(ak (bu (i := 2) qj.nd rfl (Or.inl rfl) (bD fB (bD yu (pv 0) az) (bD abi az az)))
   (ak (bu (i := 3) qj.nd rfl (Or.inr rfl) (bL (aa az (aa (QJ Dc az) (aa az (aa (pv 2) (aa (bD HW az (pv 2)) ao)))))))
   (aB (bj (kE (gB (xs := ["_law_k"]) (ys := ["_law_some","_law_cell"]) (js := [3,0]) rfl (by decide +kernel) (by decide +kernel) (by decide +kernel) (by rfl) ⟨⟨rfl,Or.inl rfl⟩,⟨⟨rfl,Or.inl rfl⟩,trivial⟩⟩) rfl (iH (by rfl) T.mU (aa (pv 1) ao)) (fun _ _ _ _ _ => (dg (i := 0) (show List.Nodup ((["_law_k"] : List Str) ++ (["_law_some","_law_cell"] : List Str) : List Str) by decide +kernel) rfl (Or.inl rfl))) (fun _ _ _ _ _ => lW) (fun _ _ _ _ _ => (bD jB (aL (auj (K := K) (r := ajc) bA rfl) (pv 1) (bD fB (bD jB (pv 2) (pv 0)) az) (fun _ _ => rfl)) (bD yu az (pv 0))))))))),?_⟩
  try dsimp only [du,Cx.j6]
  show let Z1 : L2.TS := _; let Z2 : L2.TS := _; let Z3 : L2.TS := _; let D0 : Ends := _; (aQ Z1 (aQ Z2 (Z3))) D0 _ _
  intro Z1 Z2 Z3 D0
  refine ⟨_,rfl,_,_,rfl,rfl,.inr ⟨by decide,by decide⟩,_,_,rfl,rfl,⟨by decide,by decide,by decide⟩,_,_,rfl,rfl,(show (0 : Int) < (10 : Int) ^ (30 : Int).toNat by decide),?_⟩
  refine ⟨_,rfl,_,rfl,_,rfl,_,_,rfl,rfl,zz5,fun z hz => ?_⟩
  have fact : ∃ far : Int,bZ H (upd H z (.lst [.int 0,.int (-1),.int 1000000000000,.int (c * 48271 % (10 : Int) ^ (30 : Int).toNat),.int (0 - c * 48271 % (10 : Int) ^ (30 : Int).toNat)]))∧upd H z (.lst [.int 0,.int (-1),.int 1000000000000,.int (c * 48271 % (10 : Int) ^ (30 : Int).toNat),.int (0 - c * 48271 % (10 : Int) ^ (30 : Int).toNat)]) z = some (.lst ([0,-1,1000000000000,far,0 - far].map V.int)) := ⟨_,aA hz,aj⟩
  obtain ⟨far,s1,hz'⟩ := fact
  have go : ∀ H1 : Hp,bZ H H1→H1 z = some (.lst ([0,-1,1000000000000,far,0 - far].map V.int))→∀ acc,H1 acc = none→Dg (Itr 0 m) (aav 0) ajj (Vk (rI0 fun i j => V.int (i + j)) (Vk (ajc K) (iY 1) (Vk (rI (fun _ j => 0 < j) fun i j => V.int (i % j)) (Vk (rI0 fun i j => V.int (i + j)) (iY 2) (iY 0)) (tC (V.int 5)))) (Vk (rI akj fun i j => V.int (i * j)) (tC (V.int 5)) (iY 0))) [none,some (.ref z),some (.int c)] acc H1 Q := fun H1 s1 hz' acc hacc => ?go
  ·refine ⟨_,rfl,(m : Int),rfl,(by lia),(by lia),fun acc hacc => ?_⟩
   exact go _ s1 hz' acc hacc
  let PV1 : Nat→List V→St→Hp→Prop := fun i zs σ' H' => (∃ o,σ' = [o,some (.ref z),some (.int c)])∧bZ H1 H'∧H' acc = some (.lst zs)∧∃ ns : List Int,ns.length = i∧zs = ns.map V.int
  refine Ia PV1 ?_ ?_ ?_ ?_
  ·exact ⟨⟨_,rfl⟩,aA hacc,aj,[],rfl,rfl⟩
  ·rintro i zs σ' H' _ ⟨_,_,h,_⟩; exact h
  ·rintro i zs σ' H' hi ⟨⟨o,rfl⟩,s',ha',ns,hl,rfl⟩
   obtain ⟨y,hy⟩ := Q5 (ns := [0,-1,1000000000000,far,0 - far]) (k := (c + (0 + (i : Int))) % 5) (by lia) (by show _ < ((5 : Nat) : Int); lia)
   refine Kd ⟨_,rfl,_,rfl,_,rfl,_,_,rfl,rfl,_,_,rfl,rfl,(show (0 : Int) < 5 by decide),z,_,_,_,rfl,rfl,cz.of (s' _ _ hz'),hy,_,rfl,_,_,rfl,rfl,.inl ⟨by decide,by decide⟩,_,_,rfl,rfl,?_⟩
   refine wL.mk hi ha' (by rw [List.length_map]; lia) ⟨⟨_,rfl⟩,fK s' hacc,aj,ns ++ [y + 5 * (0 + (i : Int))],by rw [List.length_append,hl]; rfl,by rw [List.map_append]; rfl⟩
  ·rintro zs σ' H' ⟨_,s',ha',ns,hl,rfl⟩
   exact k acc ns H' hl (bZ.free s1 hacc) (s1.trans s') ha'
theorem Ph (T : Txt K w mg t) : cZ P w K mg base n8 1 t.eZ t.oN ["_law_count","_law_cell"] aor := by
 refine T.Ai.ok cQ (fun vs H Q E h => ?_) (fun cdv A outer s H vs Q E hr h => ?_)
 ·obtain ⟨n,c,rfl,_⟩ := h; rfl
 ·obtain ⟨n,c,rfl,hn,k⟩ := h
  have sl : sizeLine = 16777216 := by decide
  refine' ⟨_,?sr,?_⟩
  case' sr => refine' ak ?WK ?Iu
  case' Iu => refine' ak ?WL ?Iv
  case' Iv => refine' ak ?WM ?Iw
  case' Iw => refine' ak ?WN ?WQ
  case' WQ => refine' ak ?afv ?WR
  case' WR => refine' ak ?afw ?WT
  case' WT => refine' ak ?afx ?ahk
  case' ahk => refine' ak ?alI ?ahl
  case' ahl => refine' ak ?alJ ?ahm
  case' ahm => refine' ak ?alK ?ahn
  case' ahn => refine' aB ?aho
  case' WK => exact (bu (i := 2) cQ.nd rfl (Or.inl rfl) (bD HW (pv 0) az))
  case' WL => exact (bu (i := 3) cQ.nd rfl (Or.inl rfl) (bL ao))
  case' WM => refine' HS PassesOwn.never rfl (iH (by rfl) T.mU (aa (pv 0) ao)) (dg (i := 4) cQ.nd rfl (Or.inl rfl)) ?alL
  case' alL => refine' aB ?afy
  case' afy => exact (bM (eX PySem.F.plainAttrs_list PySem.F.slot_list_extend PySem.F.type_list_extend kO (pv 3) (aa (bL (aa (b8 (aa aC (aa (pv 4) ao))) (aa (b8 (aa aC (aa (pv 4) ao))) ao))) ao)))
  case' WN => exact (bu (i := 3) cQ.nd rfl (Or.inl rfl) (bD lU (pv 3) (pv 3)))
  case' afv => exact (bu (i := 5) cQ.nd rfl (Or.inl rfl) (bL ao))
  case' afw => refine' HS PassesOwn.never rfl (iH (by rfl) T.mU (aa (pv 0) ao)) (dg (i := 4) cQ.nd rfl (Or.inl rfl)) ?alz
  case' alz => refine' aB ?alM
  case' alM => exact (bM (eX PySem.F.plainAttrs_list PySem.F.slot_list_extend PySem.F.type_list_extend kO (pv 5) (aa (bL (aa (b8 (aa aC (aa (pv 4) (aa az ao)))) (aa (b8 (aa aC (aa (pv 4) ao))) (aa (b8 (aa aC (aa (pv 4) ao))) ao)))) ao)))
  case' afx => exact (bu (i := 5) cQ.nd rfl (Or.inl rfl) (bD lU (pv 5) (bL (aa (b8 (aa aC (aa az (aa az ao)))) (aa (b8 (aa aC (aa az (aa az ao)))) (aa (b8 (aa aC (aa az ao))) (aa (b8 (aa aC (aa az ao))) ao)))))))
  case' alI => exact (bu (i := 5) cQ.nd rfl (Or.inl rfl) (bD lU (bD lU (pv 5) (bL (aa (b8 (aa aC (aa (pv 2) (aa az (aa (aL bA (bL (aa az (aa az ao))) (bD fB (pv 1) az) (fun _ _ => rfl)) ao))))) (aa (b8 (aa aC (aa (pv 2) ao))) ao)))) (pv 3)))
  case' alJ => exact (cu (aR cO (bD fB (bD ju (pv 1) az) az) az (bf _)) (aB (bu (i := 5) cQ.nd rfl (Or.inl rfl) (bD lU (bD lU (pv 5) (bL (aa (b8 (aa aC (aa (pv 2) (aa az ao)))) ao))) (pv 3)))) bB)
  case' alK => exact (bu (i := 5) cQ.nd rfl (Or.inl rfl) (bD lU (bD lU (pv 5) (bL (aa (b8 (aa aC (aa az (aa az ao)))) (aa (b8 (aa aC (aa az ao))) ao)))) (pv 3)))
  case' aho => exact (bj (bD lU (bD lU (pv 5) (bL (aa (b8 (aa aC (aa az (aa az (aa az ao))))) (aa (b8 (aa aC (aa az ao))) ao)))) (pv 3)))
  try dsimp only [du,Cx.j6]
  show let Z1 : L2.TS := _; let Z2 : L2.TS := _; let Z3 : L2.TS := _; let Z4 : L2.TS := ael _ _ Z3; let Z5 : L2.TS := _; let Z6 : L2.TS := _; let Z7 : L2.TS := _; let Z8 : L2.TS := ael _ _ Z7; let Z9 : L2.TS := _; let Am : L2.TS := _; let Lb : L2.TS := _; let Ld : L2.TS := cY _ Lb bJ; let Q0 : L2.TS := _; let Q3 : L2.TS := _; let D0 : Ends := _; (aQ Z1 (aQ Z2 (aQ Z4 (aQ Z5 (aQ Z6 (aQ Z8 (aQ Z9 (aQ Am (aQ Ld (aQ Q0 (Q3))))))))))) D0 _ _
  intro Z1 Z2 Z3 Z4 Z5 Z6 Z7 Z8 Z9 Am Lb Ld Q0 Q3 D0
  refine ⟨_,rfl,_,_,rfl,rfl,?_⟩
  refine ⟨CZ,fun fl hfl => ?_⟩
  have nb : -(2 ^ 62)≤((n : Nat) : Int)∧((n : Nat) : Int) < 2 ^ 62 := ⟨by lia,by lia⟩
  refine ⟨_,rfl,(n : Int),rfl,nb.1,nb.2,?_⟩
  rw [Int.toNat_natCast]
  let PV2 : Nat→St→Hp→Prop := fun i σ' H' => (∃ o4,σ' = [some (.int n),some (.int c),some (.int ((n : Int) - 1)),some (.ref fl),o4,none])∧bZ H H'∧∃ us,H' fl = some (.lst us)∧DL H' us (2 * i)
  refine Oh PV2 ?_ ?_ ?_
  ·exact ⟨⟨_,rfl⟩,aA hfl,[],aj,DL.nil _⟩
  ·rintro i σ' H' hi ⟨⟨o4,rfl⟩,s',us,hf',dl⟩
   refine ⟨_,rfl,.inl ⟨rfl,_,cz.of hf'⟩,⟨_,rfl,uo,fun b1 h1 => ⟨_,rfl,uo,fun b2 h2 => ⟨uo,fun z hz => ?_⟩⟩⟩⟩
   have sa := ((aA h1).trans (aA h2)).trans (aA (o := .lst [.ref b1,.ref b2]) hz)
   have hlen := dl.len
   refine ⟨fl,z,us,_,rfl,rfl,sa _ _ hf',.inl (cz.of aj),by simp only [List.length_cons,List.length_nil]; lia,?_⟩
   have n12 : b1≠b2 := fun q => by rw [← q,aj] at h2; cases h2
   have c1 : (upd (upd H' b1 (.tup [.str "down",.int (0 + (i : Int))])) b2 (.tup [.str "up",.int (0 + (i : Int))])) b1 = some (.tup (cA.down (0 + (i : Int))).vs) := by rw [aq n12,aj]; rfl
   have c2 : (upd (upd H' b1 (.tup [.str "down",.int (0 + (i : Int))])) b2 (.tup [.str "up",.int (0 + (i : Int))])) b2 = some (.tup (cA.up (0 + (i : Int))).vs) := by rw [aj]; rfl
   have sz := aA (o := .lst [.ref b1,.ref b2]) hz
   have tl := jw (vs := us ++ [.ref b1,.ref b2]) (sa _ _ hf')
   refine ⟨⟨_,rfl⟩,fK (s'.trans sa) hfl,_,aj,?_⟩
   have := ((dl.aU (aY sa)).append (DL.cons _ (sz _ _ c1) (DL.one _ (sz _ _ c2)))).aU tl
   exact this.more (by lia)
  ·rintro σ' H1 ⟨⟨o4,rfl⟩,s1,us,hf1,dl1⟩
   have azk := dl1.len
   refine ⟨_,rfl,_,rfl,fl,fl,us,us,rfl,rfl,hf1,hf1,by lia,fun fl2 au1 => ?_⟩
   have s2 := s1.trans (aA (o := .lst (us ++ us)) au1)
   have dl2 : DL (upd H1 fl2 (.lst (us ++ us))) (us ++ us) (4 * n) := ((dl1.append dl1).more (by lia)).aU (aY (aA au1))
   have hf2 : upd H1 fl2 (.lst (us ++ us)) fl2 = some (.lst (us ++ us)) := aj
   generalize upd H1 fl2 (.lst (us ++ us)) = H2 at s2 dl2 hf2
   generalize us ++ us = fs at dl2 hf2
   refine ⟨CZ,fun de hde => ?_⟩
   have hden : H de = none := bZ.free s2 hde
   have s3 := aA (o := .lst []) hde
   refine ⟨_,rfl,(n : Int),rfl,nb.1,nb.2,?_⟩
   rw [Int.toNat_natCast]
   let PV3 : Nat→St→Hp→Prop := fun i σ' H' => (∃ o4,σ' = [some (.int n),some (.int c),some (.int ((n : Int) - 1)),some (.ref fl2),o4,some (.ref de)])∧bZ H2 H'∧∃ us,H' de = some (.lst us)∧DL H' us (3 * i)
   refine Oh PV3 ?_ ?_ ?_
   ·exact ⟨⟨_,rfl⟩,s3,[],aj,DL.nil _⟩
   ·rintro i σ' H' hi ⟨⟨o4,rfl⟩,s',us,hf',dl⟩
    refine ⟨_,rfl,.inl ⟨rfl,_,cz.of hf'⟩,⟨_,rfl,zz3,fun b1 h1 => ⟨_,rfl,uo,fun b2 h2 => ⟨_,rfl,uo,fun b3 h3 => ⟨zz3,fun z hz => ?_⟩⟩⟩⟩⟩
    have sb2 := aA (o := .tup [.str "up",.int (0 + (i : Int))]) h2
    have sb3 := aA (o := .tup [.str "down",.int (0 + (i : Int))]) h3
    have sz := aA (o := .lst [.ref b1,.ref b2,.ref b3]) hz
    have sa := (((aA h1).trans sb2).trans sb3).trans sz
    have hlen := dl.len
    have c1 := sz _ _ (sb3 _ _ (sb2 _ _ (show upd H' b1 (.tup [.str "look",.int (0 + (i : Int)),.int 0]) b1 = some (.tup (cA.look (0 + (i : Int)) 0).vs) from aj)))
    have c2 := sz _ _ (sb3 _ _ (show _ = some (.tup (cA.up (0 + (i : Int))).vs) from aj))
    have c3 := sz _ _ (show _ = some (.tup (cA.down (0 + (i : Int))).vs) from aj)
    refine ⟨de,z,us,_,rfl,rfl,sa _ _ hf',.inl (cz.of aj),by simp only [List.length_cons,List.length_nil]; lia,?_⟩
    have tl := jw (vs := us ++ [.ref b1,.ref b2,.ref b3]) (sa _ _ hf')
    refine ⟨⟨_,rfl⟩,fK (s'.trans sa) hde,_,aj,?_⟩
    have := ((dl.aU (aY sa)).append (DL.cons _ c1 (DL.cons _ c2 (DL.one _ c3)))).aU tl
    exact this.more (by lia)
   ·rintro σ' H3 ⟨⟨o4,rfl⟩,s3',YG,hd3,dl3⟩
    have hf3 := s3' _ _ hf2
    have au2 := dl2.aU (aY s3')
    have s03 := s2.trans s3'
    have hl3 := dl3.len
    refine ⟨_,rfl,⟨zz3,fun b1 h1 => ⟨zz3,fun b2 h2 => ⟨uo,fun b3 h3 => ⟨uo,fun b4 h4 => ⟨zz4,fun z hz => ?_⟩⟩⟩⟩⟩⟩
    have sb2 := aA (o := .tup [.str "look",.int 0,.int 0]) h2
    have sb3 := aA (o := .tup [.str "up",.int 0]) h3
    have sb4 := aA (o := .tup [.str "down",.int 0]) h4
    have sz := aA (o := .lst [.ref b1,.ref b2,.ref b3,.ref b4]) hz
    have sa := ((((aA h1).trans sb2).trans sb3).trans sb4).trans sz
    have c1 := sz _ _ (sb4 _ _ (sb3 _ _ (sb2 _ _ (show upd H3 b1 (.tup [.str "rest",.int 0,.int 0]) b1 = some (.tup (cA.rest 0 0).vs) from aj))))
    have c2 := sz _ _ (sb4 _ _ (sb3 _ _ (show _ = some (.tup (cA.look 0 0).vs) from aj)))
    have c3 := sz _ _ (sb4 _ _ (show _ = some (.tup (cA.up 0).vs) from aj))
    have c4 := sz _ _ (show _ = some (.tup (cA.down 0).vs) from aj)
    refine ⟨de,z,YG,_,rfl,rfl,sa _ _ hd3,aj,by simp only [List.length_cons,List.length_nil]; lia,fun d4 hd4 => ?_⟩
    have s4 := aA (o := .lst (YG ++ [.ref b1,.ref b2,.ref b3,.ref b4])) hd4
    have dl4 := ((dl3.aU (aY sa)).append (DL.cons _ c1 (DL.cons _ c2 (DL.cons _ c3 (DL.one _ c4))))).aU (aY s4)
    have alN := au2.aU (aY (sa.trans s4))
    have hf4 := (sa.trans s4) _ _ hf3
    have s04 := s03.trans (sa.trans s4)
    have aow : upd (upd (upd (upd (upd (upd H3 b1 (.tup [.str "rest",.int 0,.int 0])) b2 (.tup [.str "look",.int 0,.int 0])) b3 (.tup [.str "up",.int 0])) b4 (.tup [.str "down",.int 0])) z (.lst [.ref b1,.ref b2,.ref b3,.ref b4])) d4 (.lst (YG ++ [.ref b1,.ref b2,.ref b3,.ref b4])) d4 = some (.lst (YG ++ [.ref b1,.ref b2,.ref b3,.ref b4])) := aj
    generalize upd (upd (upd (upd (upd (upd H3 b1 (.tup [.str "rest",.int 0,.int 0])) b2 (.tup [.str "look",.int 0,.int 0])) b3 (.tup [.str "up",.int 0])) b4 (.tup [.str "down",.int 0])) z (.lst [.ref b1,.ref b2,.ref b3,.ref b4])) d4 (.lst (YG ++ [.ref b1,.ref b2,.ref b3,.ref b4])) = H4 at dl4 alN hf4 s04 aow
    generalize YG ++ [.ref b1,.ref b2,.ref b3,.ref b4] = u4 at dl4 aow
    clear sb2 sb3 sb4 sz sa c1 c2 c3 c4 s4 h1 h2 h3 h4 hz hd4 dl3 au2 hf3 s03 hd3 s3' hl3
    have hl4 := dl4.len
    have hlf := alN.len
    have hpk : ∃ x : Int,Ol ([V.int 0,V.int 5] : List V) (c % 2) = some (.int x) := by
     have : c % 2 = 0∨c % 2 = 1 := by lia
     rcases this with e | e <;> rw [e] <;> exact ⟨_,rfl⟩
    obtain ⟨px,hpx⟩ := hpk
    refine ⟨_,rfl,_,rfl,⟨uo,fun y hy => ⟨_,rfl,_,_,rfl,rfl,(show (0 : Int) < 2 by decide),y,_,_,_,rfl,rfl,cz.of aj,hpx,zz4,fun b1 h1 => ⟨_,rfl,uo,fun b2 h2 => ⟨uo,fun z hz => ?_⟩⟩⟩⟩⟩
    have sy := aA (o := .lst [.int 0,.int 5]) hy
    have sb1 := aA (o := .tup [.str "put",.int ((n : Int) - 1),.int 0,.int px]) h1
    have sb2 := aA (o := .tup [.str "up",.int ((n : Int) - 1)]) h2
    have sz := aA (o := .lst [.ref b1,.ref b2]) hz
    have sa := ((sy.trans sb1).trans sb2).trans sz
    have c1 := sz _ _ (sb2 _ _ (show _ = some (.tup (cA.put ((n : Int) - 1) 0 px).vs) from aj))
    have c2 := sz _ _ (show _ = some (.tup (cA.up ((n : Int) - 1)).vs) from aj)
    refine aoq rfl (sa _ _ aow) aj (sa _ _ hf4) (by simp only [List.length_cons,List.length_nil]; lia) fun d5 H5 s5 hd5 arS => ?_
    have dl5 : DL H5 _ _ := (((dl4.aU (aY sa)).append (DL.cons _ c1 (DL.one _ c2))).append (alN.aU (aY sa))).aU (aY s5)
    have arT := alN.aU (aY (sa.trans s5))
    have hf5 := (sa.trans s5) _ _ hf4
    have s05 := s04.trans (sa.trans s5)
    generalize (u4 ++ [.ref b1,.ref b2]) ++ fs = u5 at dl5 arS
    clear sy sb1 sb2 sz sa c1 c2 s5 hy h1 h2 hz hd5 dl4 alN hf4 s04 aow hl4
    have hl5 := dl5.len
    try dsimp only [bJ]
    refine fP (fun σ' H' => ∃ o4 d6 us6,σ' = [some (.int n),some (.int c),some (.int ((n : Int) - 1)),some (.ref fl2),o4,some (.ref d6)]∧bZ H H'∧H' fl2 = some (.lst fs)∧DL H' fs (4 * n)∧H' d6 = some (.lst us6)∧DL H' us6 (11 * n + 20)) (fun N hN => ?_) ?_
    ·refine ⟨_,rfl,_,_,rfl,rfl,⟨by decide,by decide⟩,_,_,rfl,rfl,(show (0 : Int) < 3 by decide),rfl,_,rfl,?_⟩
     by_cases e : c / 2 % 3 = 1
     ·refine bF (afA e) ?_
      refine ⟨_,rfl,⟨_,rfl,zz3,fun b1 h1 => ⟨zz1,fun z hz => ?_⟩⟩⟩
      have sb1 := aA (o := .tup [.str "rest",.int ((n : Int) - 1),.int 0]) h1
      have sz := aA (o := .lst [.ref b1]) hz
      have sa := sb1.trans sz
      have c1 := sz _ _ (show _ = some (.tup (cA.rest ((n : Int) - 1) 0).vs) from aj)
      refine aoq rfl (sa _ _ arS) aj (sa _ _ hf5) (by simp only [List.length_cons,List.length_nil]; lia) fun d6 H6 s6 hd6 ax3 => ?_
      have dl6 : DL H6 _ _ := (((dl5.aU (aY sa)).append (DL.one _ c1)).append (arT.aU (aY sa))).aU (aY s6)
      exact hN _ _ ⟨_,d6,_,rfl,s05.trans (sa.trans s6),(sa.trans s6) _ _ hf5,arT.aU (aY (sa.trans s6)),ax3,dl6.more (by lia)⟩
     ·refine aO (afB e) ?_
      exact hN _ _ ⟨_,d5,_,rfl,s05,hf5,arT,arS,dl5.more (by lia)⟩
    ·rintro σ' H6 ⟨o4',d6,us6,rfl,s06,hf6,au5,hd6,dl6⟩
     have hl6 := dl6.len
     refine ⟨_,rfl,⟨zz3,fun b1 h1 => ⟨uo,fun b2 h2 => ⟨uo,fun z hz => ?_⟩⟩⟩⟩
     have sb1 := aA (o := .tup [.str "look",.int 0,.int 0]) h1
     have sb2 := aA (o := .tup [.str "up",.int 0]) h2
     have sz := aA (o := .lst [.ref b1,.ref b2]) hz
     have sa := (sb1.trans sb2).trans sz
     have c1 := sz _ _ (sb2 _ _ (show _ = some (.tup (cA.look 0 0).vs) from aj))
     have c2 := sz _ _ (show _ = some (.tup (cA.up 0).vs) from aj)
     refine aoq rfl (sa _ _ hd6) aj (sa _ _ hf6) (by simp only [List.length_cons,List.length_nil]; lia) fun d7 H7 s7 hd7 ax4 => ?_
     have dl7 : DL H7 _ _ := (((dl6.aU (aY sa)).append (DL.cons _ c1 (DL.one _ c2))).append (au5.aU (aY sa))).aU (aY s7)
     have ax5 := au5.aU (aY (sa.trans s7))
     have hf7 := (sa.trans s7) _ _ hf6
     have s07 := s06.trans (sa.trans s7)
     have hl7 := dl7.len
     clear sb1 sb2 sz sa c1 c2 s7 h1 h2 hz hd7
     refine ⟨_,rfl,⟨zz4,fun e1 h1 => ⟨uo,fun e2 h2 => ⟨uo,fun z2 hz => ?_⟩⟩⟩⟩
     have sb1 := aA (o := .tup [.str "put",.int 0,.int 0,.int 7]) h1
     have sb2 := aA (o := .tup [.str "up",.int 0]) h2
     have sz := aA (o := .lst [.ref e1,.ref e2]) hz
     have sa := (sb1.trans sb2).trans sz
     have c1 := sz _ _ (sb2 _ _ (show _ = some (.tup (cA.put 0 0 7).vs) from aj))
     have c2 := sz _ _ (show _ = some (.tup (cA.up 0).vs) from aj)
     refine aoq rfl (sa _ _ ax4) aj (sa _ _ hf7) (by simp only [List.length_cons,List.length_nil]; lia) fun d8 H8 s8 hd8 ax6 => ?_
     have dl8 : DL H8 _ _ := (((dl7.aU (aY sa)).append (DL.cons _ c1 (DL.one _ c2))).append (ax5.aU (aY sa))).aU (aY s8)
     exact k d8 _ H8 (bZ.free (s07.trans sa) hd8) (s07.trans (sa.trans s8)) ax6 (dl8.more (by lia))
end
end iz
namespace iz
open PySem L2
def aoz : Sp := fun vs H Q _ => ∃ l,∃ n m : Nat,∃ cs : List Int,vs = [.ref l,.int n,.int m]∧H l = some (.lst (cs.map V.int))∧0 < n∧n≤100∧0 < m∧m≤100∧cs.length≤100∧
 ∀ r us H',H r = none→bZ H H'→H' r = some (.lst us)→DL H' us 400→Q (.ref r) H'
def v9 : List V := [.str "look",.str "put",.str "up",.str "down",.str "put",.str "look",.str "rest",.str "down"]
theorem alP {j : Int} (h0 : 0≤j) (h1 : j < 8) : ∃ s : Str,Ol v9 j = some (.str s)∧(s = "put"∨s = "look"∨s = "rest"∨s = "up"∨s = "down") := by
 have : j = 0∨j = 1∨j = 2∨j = 3∨j = 4∨j = 5∨j = 6∨j = 7 := by lia
 rcases this with rfl | rfl | rfl | rfl | rfl | rfl | rfl | rfl
 ·exact ⟨_,rfl,.inr (.inl rfl)⟩
 ·exact ⟨_,rfl,.inl rfl⟩
 ·exact ⟨_,rfl,.inr (.inr (.inr (.inl rfl)))⟩
 ·exact ⟨_,rfl,.inr (.inr (.inr (.inr rfl)))⟩
 ·exact ⟨_,rfl,.inl rfl⟩
 ·exact ⟨_,rfl,.inr (.inl rfl)⟩
 ·exact ⟨_,rfl,.inr (.inr (.inl rfl))⟩
 ·exact ⟨_,rfl,.inr (.inr (.inr (.inr rfl)))⟩
section
variable {P : Program} {w : World} {K : PySem.W.Frag} {mg : Str→Option Value} {base : Heap} {t : JV}
set_option maxHeartbeats 8000000 in
theorem Ze (T : Txt K w mg t) : cZ P w K mg base n8 1 t.iw t.vW ["_law_cells","_law_count","_law_pages"] aoz := by
 refine T.KY.ok cj (fun vs H Q E h => ?_) (fun cdv A outer s H vs Q E hr h => ?_)
 ·obtain ⟨l,n,m,cs,rfl,_⟩ := h; rfl
 ·obtain ⟨l,n,m,cs,rfl,hl,hn0,hn,hm0,hm,hcs,k⟩ := h
  have sl : sizeLine = 16777216 := by decide
  refine' ⟨_,?sr,?_⟩
  case' sr => refine' ak ?WK ?Iu
  case' Iu => refine' ak ?WL ?Iv
  case' Iv => refine' ak ?WM ?Iw
  case' Iw => refine' aB ?WN
  case' WK => exact (bu (i := 3) cj.nd rfl (Or.inl rfl) (bL (aa aC (aa aC (aa aC (aa aC (aa aC (aa aC (aa aC (aa aC ao))))))))))
  case' WL => exact (bu (i := 4) cj.nd rfl (Or.inl rfl) (bL ao))
  case' WM => refine' HS PassesOwn.never rfl (iH (by rfl) T.mU (aa (bD ju (dG dO (by rfl) T.Aj PySem.boot_len (aa (pv 0) ao)) az) ao)) (dg (i := 5) cj.nd rfl (Or.inl rfl)) ?alL
  case' alL => refine' ak ?afy ?ahj
  case' ahj => refine' ak ?alA ?arU
  case' arU => refine' ak ?au6 ?arV
  case' arV => refine' ak ?au7 ?arW
  case' arW => refine' ak ?au8 ?arX
  case' arX => refine' ak ?au9 ?arY
  case' arY => refine' ak ?ava ?arZ
  case' arZ => refine' ak ?avb ?ar0
  case' ar0 => refine' ak ?avc ?ar3
  case' ar3 => refine' aB ?avd
  case' afy => exact (bu (i := 6) cj.nd rfl (Or.inl rfl) (bD jB (bD ju (aL bA (pv 0) (bD yu az (pv 5)) (fun _ _ => rfl)) az) (pv 5)))
  case' alA => exact (bu (i := 7) cj.nd rfl (Or.inl rfl) (bD jB (aL bA (pv 0) (bD jB (bD yu az (pv 5)) az) (fun _ _ => rfl)) (pv 5)))
  case' au6 => exact (bu (i := 8) cj.nd rfl (Or.inl rfl) (bD jB (aL bA (pv 0) (bD jB (bD yu az (pv 5)) az) (fun _ _ => rfl)) (pv 5)))
  case' au7 => exact (bu (i := 9) cj.nd rfl (Or.inl rfl) (aL bA (pv 3) (bD fB (bD jB (aL bA (pv 0) (bD yu az (pv 5)) (fun _ _ => rfl)) (bD yu az (pv 5))) az) (fun _ _ => rfl)))
  case' au8 => exact (bu (i := 10) cj.nd rfl (Or.inl rfl) (bD fB (pv 6) (pv 1)))
  case' au9 => exact (bu (i := 11) cj.nd rfl (Or.inl rfl) (bD fB (pv 7) (pv 2)))
  case' ava => refine' cu (aR cO (bD fB (bD ju (pv 8) az) az) az (bf _)) ?ave ?avf
  case' ave => refine' ak ?alM ?ar4
  case' ar4 => refine' aB ?avh
  case' alM => exact (bu (i := 12) cj.nd rfl (Or.inl rfl) (bD fB (pv 6) (bD abi az az)))
  case' avh => exact (bu (i := 10) cj.nd rfl (Or.inl rfl) (aL bA (bL (aa (QJ Dc az) (aa (pv 1) (aa az (aa (bD HW (QJ Dc az) (pv 12)) (aa (bD jB (pv 1) (pv 12)) ao)))))) (bD fB (pv 6) az) (fun _ _ => rfl)))
  case' avf => exact bB
  case' avb => refine' cu (aR cO (bD fB (bD ju (pv 8) az) az) az (bf _)) ?avi ?avj
  case' avi => refine' ak ?avk ?ar5
  case' ar5 => refine' aB ?avl
  case' avk => exact (bu (i := 12) cj.nd rfl (Or.inl rfl) (bD fB (pv 7) (bD abi az az)))
  case' avl => exact (bu (i := 11) cj.nd rfl (Or.inl rfl) (aL bA (bL (aa (QJ Dc az) (aa (pv 2) (aa az (aa (bD HW (QJ Dc az) (pv 12)) (aa (bD jB (pv 2) (pv 12)) ao)))))) (bD fB (pv 7) az) (fun _ _ => rfl)))
  case' avj => exact bB
  case' avc => refine' cu (aR cO (pv 9) aC (bf _)) ?avm ?avn
  case' avm => refine' ak ?avo ?ar6
  case' ar6 => refine' ak ?avp ?ar7
  case' ar7 => refine' ak ?avq ?ar8
  case' ar8 => refine' ak ?avr ?ar9
  case' ar9 => refine' aB ?avs
  case' avo => exact (bu (i := 13) cj.nd rfl (Or.inl rfl) (bD HW (bD fB (bD jB (bD ju (pv 7) az) (bD yu az (pv 5))) az) az))
  case' avp => refine' cu (aR apk (pv 13) az (bf _)) ?avt ?avu
  case' avt => refine' aB ?avv
  case' avv => exact (bu (i := 13) cj.nd rfl (Or.inl rfl) az)
  case' avu => refine' aB ?avw
  case' avw => exact (cu (aR apk (pv 13) az (bf _)) (aB (bu (i := 13) cj.nd rfl (Or.inl rfl) (bD jB az (pv 13)))) bB)
  case' avq => exact (bu (i := 14) cj.nd rfl (Or.inl rfl) (bD fB (bD yu (pv 7) az) (bD abi az az)))
  case' avr => exact (bu (i := 13) cj.nd rfl (Or.inl rfl) (aL bA (bL (aa (pv 13) (aa (pv 13) (aa (pv 14) (aa (bD HW az (pv 14)) ao))))) (bD fB (pv 6) az) (fun _ _ => rfl)))
  case' avs => exact (bM (eX PySem.F.plainAttrs_list PySem.F.slot_list_append PySem.F.type_list_append cD (pv 4) (aa (b8 (aa (pv 9) (aa (pv 10) (aa (pv 11) (aa (pv 13) ao))))) ao)))
  case' avn => refine' aB ?avx
  case' avx => refine' cu (PW.pt (wG (aR cO (pv 9) aC (bf _)) (p8 (aR cO (pv 9) aC (bf _))))) ?avy ?avz
  case' avy => refine' ak ?avA ?asa
  case' asa => refine' aB ?avB
  case' avA => exact (bM (eX PySem.F.plainAttrs_list PySem.F.slot_list_append PySem.F.type_list_append cD (pv 4) (aa (b8 (aa (pv 9) (aa (pv 10) (aa (pv 11) ao)))) ao)))
  case' avB => exact (cu (PW.pt (Oe (aR cO (pv 9) aC (bf _)) (JZ (aR cO (bD fB (bD ju (pv 7) az) az) az (bf _))))) (aB (bM (eX PySem.F.plainAttrs_list PySem.F.slot_list_append PySem.F.type_list_append cD (pv 4) (aa (b8 (aa aC (aa (pv 10) (aa (pv 11) ao)))) ao)))) bB)
  case' avz => refine' aB ?asb
  case' asb => exact (bM (eX PySem.F.plainAttrs_list PySem.F.slot_list_append PySem.F.type_list_append cD (pv 4) (aa (b8 (aa (pv 9) (aa (pv 10) ao))) ao)))
  case' avd => refine' cu (aR aaw (bD fB (pv 8) az) az (bf _)) ?avC ?avD
  case' avC => refine' ak ?asd ?aoA
  case' aoA => refine' aB ?ase
  case' asd => exact (bM (eX PySem.F.plainAttrs_list PySem.F.slot_list_append PySem.F.type_list_append cD (pv 4) (aa (b8 (aa aC (aa (bD fB (pv 8) (pv 1)) ao))) ao)))
  case' ase => exact (bM (eX PySem.F.plainAttrs_list PySem.F.slot_list_append PySem.F.type_list_append cD (pv 4) (aa (b8 (aa aC (aa (bD fB (bD jB (bD ju (pv 8) az) (pv 5)) (pv 1)) ao))) ao)))
  case' avD => exact bB
  case' WN => exact (bj (pv 4))
  try dsimp only [du,Cx.j6]
  show let Z1 : L2.TS := _; let Z2 : L2.TS := _; let Z3 : L2.TS := _; let Z4 : L2.TS := _; let Z5 : L2.TS := _; let Z6 : L2.TS := _; let Z7 : L2.TS := _; let Z8 : L2.TS := _; let Z9 : L2.TS := _; let Am : L2.TS := _; let Lb : L2.TS := aQ Z9 (Am); let Ld : L2.TS := cY _ Lb bJ; let Q0 : L2.TS := _; let Q3 : L2.TS := _; let Z15 : L2.TS := aQ Q0 (Q3); let Z16 : L2.TS := cY _ Z15 bJ; let Z17 : L2.TS := _; let Z18 : L2.TS := _; let Z19 : L2.TS := _; let Z20 : L2.TS := cY _ Z19 bJ; let Z21 : L2.TS := cY _ Z18 Z20; let Z22 : L2.TS := _; let Z23 : L2.TS := _; let Z24 : L2.TS := _; let Z25 : L2.TS := aQ Z17 (aQ Z21 (aQ Z22 (aQ Z23 (Z24)))); let Z26 : L2.TS := _; let Z27 : L2.TS := _; let Z28 : L2.TS := cY _ Z27 bJ; let Z29 : L2.TS := aQ Z26 (Z28); let Z30 : L2.TS := _; let Z31 : L2.TS := cY _ Z29 Z30; let Z32 : L2.TS := cY _ Z25 Z31; let Z33 : L2.TS := _; let Z34 : L2.TS := _; let Z35 : L2.TS := aQ Z33 (Z34); let Z36 : L2.TS := cY _ Z35 bJ; let Z37 : L2.TS := aQ Z3 (aQ Z4 (aQ Z5 (aQ Z6 (aQ Z7 (aQ Z8 (aQ Ld (aQ Z16 (aQ Z32 (Z36))))))))); let Z38 : L2.TS := ael _ _ Z37; let Z39 : L2.TS := _; let D0 : Ends := _; (aQ Z1 (aQ Z2 (aQ Z38 (Z39)))) D0 _ _
  intro Z1 Z2 Z3 Z4 Z5 Z6 Z7 Z8 Z9 Am Lb Ld Q0 Q3 Z15 Z16 Z17 Z18 Z19 Z20 Z21 Z22 Z23 Z24 Z25 Z26 Z27 Z28 Z29 Z30 Z31 Z32 Z33 Z34 Z35 Z36 Z37 Z38 Z39 D0
  refine ⟨zz8,fun wl hwl => ⟨CZ,fun as has => ?_⟩⟩
  have sw := aA (o := .lst v9) hwl
  have nwa : wl≠as := fun z => by rw [← z,aj] at has; cases has
  have avE : H as = none := Lv.upd _ has
  have s0 : bZ H (upd (upd H wl (.lst v9)) as (.lst [])) := sw.trans (aA has)
  have hw0 : upd (upd H wl (.lst v9)) as (.lst []) wl = some (.lst v9) := by rw [aq nwa,aj]
  refine ⟨_,rfl,l,_,rfl,.inl (cz.of (s0 _ _ hl)),_,_,rfl,rfl,⟨by decide,by decide⟩,((cs.length / 3 : Nat) : Int),by rw [List.length_map]; rfl,(by lia),(by lia),?_⟩
  rw [Int.toNat_natCast]
  let PV1 : Nat→St→Hp→Prop := fun i σ' H' => (∃ o5 o6 o7 o8 o9 o10 o11 o12 o13 o14,σ' = [some (.ref l),some (.int n),some (.int m),some (.ref wl),some (.ref as),o5,o6,o7,o8,o9,o10,o11,o12,o13,o14])∧bZ H H'∧H' wl = some (.lst v9)∧∃ us,H' as = some (.lst us)∧DL H' us (4 * i)
  refine Oh PV1 ?_ ?_ ?_
  ·exact ⟨⟨_,_,_,_,_,_,_,_,_,_,rfl⟩,s0,hw0,[],aj,DL.nil _⟩
  ·rintro i σ' H' hi ⟨⟨o5,o6,o7,o8,o9,o10,o11,o12,o13,o14,rfl⟩,s',hw',us,ha',dl⟩
   have hl' := s' _ _ hl
   have hul := dl.len
   obtain ⟨x0,hx0⟩ := Q5 (ns := cs) (k := 3 * (0 + (i : Int))) (by lia) (by lia)
   obtain ⟨x1,hx1⟩ := Q5 (ns := cs) (k := 3 * (0 + (i : Int)) + 1) (by lia) (by lia)
   obtain ⟨x2,hx2⟩ := Q5 (ns := cs) (k := 3 * (0 + (i : Int)) + 2) (by lia) (by lia)
   obtain ⟨wd0,hwd,hwo⟩ := alP (j := (x0 + 3 * (0 + (i : Int))) % 8) (by lia) (by lia)
   have M5 : akj 3 (0 + (i : Int)) := .inl ⟨by decide,by decide⟩
   refine ⟨_,rfl,_,rfl,_,_,rfl,rfl,M5,l,_,_,_,rfl,rfl,cz.of hl',hx0,_,_,rfl,rfl,⟨by decide,by decide⟩,_,rfl,_,_,rfl,rfl,?_⟩
   refine ⟨_,rfl,_,rfl,_,_,rfl,rfl,M5,_,_,rfl,rfl,l,_,_,_,rfl,rfl,cz.of hl',hx1,_,rfl,_,_,rfl,rfl,?_⟩
   refine ⟨_,rfl,_,rfl,_,_,rfl,rfl,M5,_,_,rfl,rfl,l,_,_,_,rfl,rfl,cz.of hl',hx2,_,rfl,_,_,rfl,rfl,?_⟩
   refine ⟨_,rfl,_,rfl,_,rfl,_,_,rfl,rfl,M5,l,_,_,_,rfl,rfl,cz.of hl',hx0,_,rfl,_,_,rfl,rfl,M5,_,_,rfl,rfl,_,_,rfl,rfl,(show (0 : Int) < 8 by decide),wl,_,_,_,rfl,rfl,cz.of hw',hwd,?_⟩
   refine ⟨_,rfl,_,rfl,_,_,rfl,rfl,(show (0 : Int) < n by lia),?_⟩
   refine ⟨_,rfl,_,rfl,_,_,rfl,rfl,(show (0 : Int) < m by lia),?_⟩
   have P30 : (0 : Int) < (10 : Int) ^ (30 : Int).toNat := by decide
   try dsimp only [bJ]
   refine fP (fun σ' YD => ∃ dk p12,σ' = [some (.ref l),some (.int n),some (.int m),some (.ref wl),some (.ref as),some (.int (0 + (i : Int))),some (.int (x0 / 8 + (0 + (i : Int)))),some (.int (x1 + (0 + (i : Int)))),some (.int (x2 + (0 + (i : Int)))),some (.str wd0),some (.int dk),some (.int ((x1 + (0 + (i : Int))) % (m : Int))),p12,o13,o14]∧bZ H' YD) (fun N hN => ?_) ?_
   ·refine ⟨_,rfl,_,_,rfl,rfl,⟨by decide,by decide⟩,_,_,rfl,rfl,(show (0 : Int) < 16 by decide),rfl,_,rfl,?_⟩
    by_cases e : (x2 + (0 + (i : Int))) / 16 % 16 = 7
    ·refine bF (afA e) ?_
     refine ⟨_,rfl,_,_,rfl,rfl,⟨by decide,by decide,by decide⟩,_,_,rfl,rfl,P30,?_⟩
     obtain ⟨y,hy⟩ := Q5 (ns := [-1,(n : Int),1000000000000,-2 - (x0 / 8 + (0 + (i : Int))) % (10 : Int) ^ (30 : Int).toNat,(n : Int) + (x0 / 8 + (0 + (i : Int))) % (10 : Int) ^ (30 : Int).toNat]) (k := (x0 / 8 + (0 + (i : Int))) % 5) (by lia) (by show _ < ((5 : Nat) : Int); lia)
     refine ⟨_,rfl,_,rfl,_,rfl,_,rfl,_,_,rfl,rfl,_,rfl,_,rfl,_,_,rfl,rfl,zz5,fun z hz => ⟨_,rfl,_,_,rfl,rfl,(show (0 : Int) < 5 by decide),z,_,_,_,rfl,rfl,cz.of aj,hy,?_⟩⟩
     exact hN _ _ ⟨_,_,rfl,aA hz⟩
    ·refine aO (afB e) ?_
     exact hN _ _ ⟨_,_,rfl,bZ.refl _⟩
   rintro σ' H1 ⟨dk,p12,rfl,s1⟩
   try dsimp only [bJ]
   refine fP (fun σ' YD => ∃ pg q12,σ' = [some (.ref l),some (.int n),some (.int m),some (.ref wl),some (.ref as),some (.int (0 + (i : Int))),some (.int (x0 / 8 + (0 + (i : Int)))),some (.int (x1 + (0 + (i : Int)))),some (.int (x2 + (0 + (i : Int)))),some (.str wd0),some (.int dk),some (.int pg),q12,o13,o14]∧bZ H' YD) (fun N hN => ?_) ?_
   ·refine ⟨_,rfl,_,_,rfl,rfl,⟨by decide,by decide⟩,_,_,rfl,rfl,(show (0 : Int) < 16 by decide),rfl,_,rfl,?_⟩
    by_cases e : (x2 + (0 + (i : Int))) / 16 % 16 = 11
    ·refine bF (afA e) ?_
     refine ⟨_,rfl,_,_,rfl,rfl,⟨by decide,by decide,by decide⟩,_,_,rfl,rfl,P30,?_⟩
     obtain ⟨y,hy⟩ := Q5 (ns := [-1,(m : Int),1000000000000,-2 - (x1 + (0 + (i : Int))) % (10 : Int) ^ (30 : Int).toNat,(m : Int) + (x1 + (0 + (i : Int))) % (10 : Int) ^ (30 : Int).toNat]) (k := (x1 + (0 + (i : Int))) % 5) (by lia) (by show _ < ((5 : Nat) : Int); lia)
     refine ⟨_,rfl,_,rfl,_,rfl,_,rfl,_,_,rfl,rfl,_,rfl,_,rfl,_,_,rfl,rfl,zz5,fun z hz => ⟨_,rfl,_,_,rfl,rfl,(show (0 : Int) < 5 by decide),z,_,_,_,rfl,rfl,cz.of aj,hy,?_⟩⟩
     exact hN _ _ ⟨_,_,rfl,s1.trans (aA hz)⟩
    ·refine aO (afB e) ?_
     exact hN _ _ ⟨_,_,rfl,s1⟩
   rintro σ' H2 ⟨pg,q12,rfl,s2⟩
   have ha2 := s2 _ _ ha'
   have dl2 := dl.aU (aY s2)
   have s02 := s'.trans s2
   have hw2 := s2 _ _ hw'
   have one : ∀ (H3 : Hp) (x : cA) (b : Addr) (YG : List V) (j : Nat),bZ H H3→H3 wl = some (.lst v9)→H3 as = some (.lst YG)→DL H3 YG j→H3 b = none→bZ H (upd (upd H3 b (.tup x.vs)) as (.lst (YG ++ [.ref b])))∧upd (upd H3 b (.tup x.vs)) as (.lst (YG ++ [.ref b])) wl = some (.lst v9)∧DL (upd (upd H3 b (.tup x.vs)) as (.lst (YG ++ [.ref b]))) (YG ++ [.ref b]) (j + 1) := fun H3 x b YG j s3 hw3 ha3 dl3 hb => by
    have sb := aA (o := .tup x.vs) hb
    have nwb : wl≠b := aF hw3 hb
    refine ⟨fK (s3.trans sb) avE,by rw [aq nwa,aq nwb]; exact hw3,?_⟩
    have tl := jw (vs := YG ++ [.ref b]) (sb _ _ ha3)
    exact ((dl3.aU (aY sb)).append (DL.one x aj)).aU tl
   try dsimp only [bJ]
   refine fP (fun σ' YD => ∃ p13 p14 us2,σ' = [some (.ref l),some (.int n),some (.int m),some (.ref wl),some (.ref as),some (.int (0 + (i : Int))),some (.int (x0 / 8 + (0 + (i : Int)))),some (.int (x1 + (0 + (i : Int)))),some (.int (x2 + (0 + (i : Int)))),some (.str wd0),some (.int dk),some (.int pg),q12,p13,p14]∧bZ H YD∧YD wl = some (.lst v9)∧YD as = some (.lst us2)∧DL YD us2 (4 * i + 2)) (fun N hN => ?_) ?_
   ·refine ⟨_,rfl,rfl,_,rfl,?_⟩
    rcases hwo with e | e | e | e | e
    ·subst e
     refine bF fu ?_
     refine ⟨_,rfl,_,_,rfl,rfl,⟨by decide,by decide⟩,_,rfl,_,_,rfl,rfl,.inl ⟨by decide,by decide⟩,_,_,rfl,rfl,_,_,rfl,rfl,(show (0 : Int) < 120 by decide),_,_,rfl,rfl,?_⟩
     try dsimp only [bJ]
     refine fP (fun σ' YD => ∃ nb,σ' = [some (.ref l),some (.int n),some (.int m),some (.ref wl),some (.ref as),some (.int (0 + (i : Int))),some (.int (x0 / 8 + (0 + (i : Int)))),some (.int (x1 + (0 + (i : Int)))),some (.int (x2 + (0 + (i : Int)))),some (.str "put"),some (.int dk),some (.int pg),q12,some (.int nb),o14]∧YD = H2) (fun N' hN' => ?_) ?_
     ·refine ⟨_,rfl,_,_,rfl,rfl,_,rfl,?_⟩
      by_cases e1 : (69 : Int) < ((x1 + (0 + (i : Int))) / 3 + 7 * (0 + (i : Int))) % 120 - 20
      ·refine bF (decide_eq_true e1) ?_
       exact hN' _ _ ⟨_,rfl,rfl⟩
      ·refine aO (decide_eq_false e1) ?_
       refine ⟨_,rfl,_,_,rfl,rfl,_,rfl,?_⟩
       by_cases e2 : (60 : Int) < ((x1 + (0 + (i : Int))) / 3 + 7 * (0 + (i : Int))) % 120 - 20
       ·refine bF (decide_eq_true e2) ?_
        refine ⟨_,rfl,_,_,rfl,rfl,?_⟩
        exact hN' _ _ ⟨_,rfl,rfl⟩
       ·refine aO (decide_eq_false e2) ?_
        exact hN' _ _ ⟨_,rfl,rfl⟩
     rintro σ' H2' ⟨nb,rfl,rfl⟩
     refine ⟨_,rfl,_,_,rfl,rfl,.inr ⟨by decide,by decide⟩,_,_,rfl,rfl,⟨by decide,by decide,by decide⟩,_,_,rfl,rfl,P30,?_⟩
     obtain ⟨y,hy⟩ := Q5 (ns := [nb,nb,(x1 + (0 + (i : Int))) * 48271 % (10 : Int) ^ (30 : Int).toNat,0 - (x1 + (0 + (i : Int))) * 48271 % (10 : Int) ^ (30 : Int).toNat]) (k := (x0 / 8 + (0 + (i : Int))) % 4) (by lia) (by show _ < ((4 : Nat) : Int); lia)
     refine ⟨_,rfl,_,rfl,_,rfl,_,rfl,_,_,rfl,rfl,zz4,fun z hz => ⟨_,rfl,_,_,rfl,rfl,(show (0 : Int) < 4 by decide),z,_,_,_,rfl,rfl,cz.of aj,hy,?_⟩⟩
     have sz := aA (o := .lst ([nb,nb,(x1 + (0 + (i : Int))) * 48271 % (10 : Int) ^ (30 : Int).toNat,0 - (x1 + (0 + (i : Int))) * 48271 % (10 : Int) ^ (30 : Int).toNat].map V.int)) hz
     refine ⟨_,rfl,.inl ⟨rfl,_,cz.of (sz _ _ ha2)⟩,_,rfl,_,rfl,_,rfl,_,rfl,zz4,fun b hb => ⟨as,us,_,rfl,rfl,(aA hb) _ _ (sz _ _ ha2),by lia,?_⟩⟩
     obtain ⟨k1,k2,k3⟩ := one _ (.put dk pg y) b us (4 * i) (s02.trans sz) (sz _ _ hw2) (sz _ _ ha2) (dl2.aU (aY sz)) hb
     exact hN _ _ ⟨_,_,_,rfl,k1,k2,aj,k3.more (by lia)⟩
    ·subst e
     refine aO (c7 (by decide +kernel)) ?_
     refine ⟨_,rfl,rfl,_,rfl,?_⟩
     refine bF fu (oh ?_)
     refine ⟨_,rfl,.inl ⟨rfl,_,cz.of ha2⟩,_,rfl,_,rfl,_,rfl,zz3,fun b hb => ⟨as,us,_,rfl,rfl,(aA hb) _ _ ha2,by lia,?_⟩⟩
     obtain ⟨k1,k2,k3⟩ := one _ (.look dk pg) b us (4 * i) s02 hw2 ha2 dl2 hb
     refine ⟨_,rfl,rfl,_,rfl,?_⟩
     refine aO (c7 (by decide +kernel)) (wJ ?_)
     exact hN _ _ ⟨_,_,_,rfl,k1,k2,aj,k3.more (by lia)⟩
    ·subst e
     refine aO (c7 (by decide +kernel)) ?_
     refine ⟨_,rfl,rfl,_,rfl,?_⟩
     refine aO (c7 (by decide +kernel)) ?_
     refine ⟨_,rfl,rfl,_,rfl,?_⟩
     refine bF fu ?_
     refine ⟨_,rfl,.inl ⟨rfl,_,cz.of ha2⟩,_,rfl,_,rfl,_,rfl,zz3,fun b hb => ⟨as,us,_,rfl,rfl,(aA hb) _ _ ha2,by lia,?_⟩⟩
     obtain ⟨k1,k2,k3⟩ := one _ (.rest dk pg) b us (4 * i) s02 hw2 ha2 dl2 hb
     have ayc := k3.len
     have ha3 : upd (upd H2 b (.tup (cA.rest dk pg).vs)) as (.lst (us ++ [.ref b])) as = some (.lst (us ++ [.ref b])) := aj
     have go : ∀ H3 : Hp,bZ H H3→H3 wl = some (.lst v9)→H3 as = some (.lst (us ++ [.ref b]))→DL H3 (us ++ [.ref b]) (4 * i + 1)→
      (cY (atq (aem (Vk rEq (iY 9) (tC (.str "rest")))) (aem (Vk rEq (Vk (rI (fun _ j => 0 < j) fun i j => V.int (i % j)) (Vk (rI atG fun i j => V.int (i / j)) (iY 7) (tC (.int 3))) (tC (.int 2))) (tC (.int 1))))) (ahY (tBM K "list" J7 (iY 4) (lF (akn (lF (tC (.str "look")) (lF (iY 10) (lF (iY 11) Gv)))) Gv))) bJ) { nx := N,rt := Q } [some (.ref l),some (.int n),some (.int m),some (.ref wl),some (.ref as),some (.int (0 + (i : Int))),some (.int (x0 / 8 + (0 + (i : Int)))),some (.int (x1 + (0 + (i : Int)))),some (.int (x2 + (0 + (i : Int)))),some (.str "rest"),some (.int dk),some (.int pg),q12,o13,o14] H3 := fun H3 g1 g2 g3 g4 => by
      refine ⟨_,rfl,rfl,_,rfl,?_⟩
      refine bF fu ?_
      refine ⟨_,rfl,_,_,rfl,rfl,⟨by decide,by decide⟩,_,_,rfl,rfl,(show (0 : Int) < 2 by decide),rfl,_,rfl,?_⟩
      by_cases e3 : (x1 + (0 + (i : Int))) / 3 % 2 = 1
      ·refine bF (afA e3) ?_
       refine ⟨_,rfl,.inl ⟨rfl,_,cz.of g3⟩,_,rfl,_,rfl,zz3,fun b2 hb2 => ⟨as,_,_,rfl,rfl,(aA hb2) _ _ g3,by lia,?_⟩⟩
       obtain ⟨m1,m2,m3⟩ := one _ (.look dk pg) b2 _ (4 * i + 1) g1 g2 g3 g4 hb2
       exact hN _ _ ⟨_,_,_,rfl,m1,m2,aj,m3.more (by lia)⟩
      ·refine aO (afB e3) ?_
       exact hN _ _ ⟨_,_,_,rfl,g1,g2,g3,g4.more (by lia)⟩
     exact go _ k1 k2 ha3 k3
    ·subst e
     refine aO (c7 (by decide +kernel)) ?_
     refine ⟨_,rfl,rfl,_,rfl,?_⟩
     refine aO (c7 (by decide +kernel)) ?_
     refine ⟨_,rfl,rfl,_,rfl,?_⟩
     refine aO (c7 (by decide +kernel)) ?_
     refine ⟨_,rfl,.inl ⟨rfl,_,cz.of ha2⟩,_,rfl,_,rfl,uo,fun b hb => ⟨as,us,_,rfl,rfl,(aA hb) _ _ ha2,by lia,?_⟩⟩
     obtain ⟨k1,k2,k3⟩ := one _ (.up dk) b us (4 * i) s02 hw2 ha2 dl2 hb
     exact hN _ _ ⟨_,_,_,rfl,k1,k2,aj,k3.more (by lia)⟩
    ·subst e
     refine aO (c7 (by decide +kernel)) ?_
     refine ⟨_,rfl,rfl,_,rfl,?_⟩
     refine aO (c7 (by decide +kernel)) ?_
     refine ⟨_,rfl,rfl,_,rfl,?_⟩
     refine aO (c7 (by decide +kernel)) ?_
     refine ⟨_,rfl,.inl ⟨rfl,_,cz.of ha2⟩,_,rfl,_,rfl,uo,fun b hb => ⟨as,us,_,rfl,rfl,(aA hb) _ _ ha2,by lia,?_⟩⟩
     obtain ⟨k1,k2,k3⟩ := one _ (.down dk) b us (4 * i) s02 hw2 ha2 dl2 hb
     exact hN _ _ ⟨_,_,_,rfl,k1,k2,aj,k3.more (by lia)⟩
   rintro σ' H3 ⟨p13,p14,YG,rfl,s03,hw3,ha3,dl3⟩
   have ayc := dl3.len
   refine ⟨_,rfl,_,_,rfl,rfl,(show (0 : Int) < 5 by decide),_,_,rfl,rfl,_,rfl,?_⟩
   by_cases e : (x2 + (0 + (i : Int))) % 5 < 4
   ·refine bF (decide_eq_true e) ?_
    refine ⟨_,rfl,.inl ⟨rfl,_,cz.of ha3⟩,_,rfl,_,rfl,_,_,rfl,rfl,(show (0 : Int) < n by lia),uo,fun b hb => ⟨as,YG,_,rfl,rfl,(aA hb) _ _ ha3,by lia,?_⟩⟩
    obtain ⟨k1,k2,k3⟩ := one _ (.up ((x2 + (0 + (i : Int))) % (n : Int))) b YG (4 * i + 2) s03 hw3 ha3 dl3 hb
    have aA7 := k3.len
    have ha4 : upd (upd H3 b (.tup (cA.up ((x2 + (0 + (i : Int))) % (n : Int))).vs)) as (.lst (YG ++ [.ref b])) as = some (.lst (YG ++ [.ref b])) := aj
    refine ⟨_,rfl,.inl ⟨rfl,_,cz.of ha4⟩,_,rfl,_,_,rfl,rfl,⟨by decide,by decide⟩,_,rfl,_,_,rfl,rfl,_,rfl,_,_,rfl,rfl,(show (0 : Int) < n by lia),uo,fun b2 hb2 => ⟨as,YG ++ [.ref b],_,rfl,rfl,aA hb2 as (.lst (YG ++ [.ref b])) aj,by lia,?_⟩⟩
    obtain ⟨m1,m2,m3⟩ := one _ (.down (((x2 + (0 + (i : Int))) / 4 + (0 + (i : Int))) % (n : Int))) b2 _ (4 * i + 3) k1 k2 ha4 k3 hb2
    exact ⟨⟨_,_,_,_,_,_,_,_,_,_,rfl⟩,m1,m2,_,aj,m3.more (by lia)⟩
   ·refine aO (decide_eq_false e) ?_
    exact ⟨⟨_,_,_,_,_,_,_,_,_,_,rfl⟩,s03,hw3,_,ha3,dl3.more (by lia)⟩
  ·rintro σ' H' ⟨⟨o5,o6,o7,o8,o9,o10,o11,o12,o13,o14,rfl⟩,s',_,us,ha',dl⟩
   exact ⟨_,rfl,k as us H' avE s' ha' (dl.more (by lia))⟩
end
end iz
namespace iz
open PySem L2
def ayd (K : PySem.W.Frag) : Sp := fun vs H Q _ => ∃ (a : Addr) (ns : List Int) (k : Int),vs = [.ref a,.int k]∧cz K H a (ns.map V.int)∧0≤k∧∀ z : Int,Q (.int z) H
section
variable {P : Program} {w : World} {K : PySem.W.Frag} {mg : Str→Option Value} {base : Heap} {t : JV}
theorem Ve (T : Txt K w mg t) : cZ P w K mg base n8 1 t.DP t.abF ["_law_script","_law_k"] (ayd K) := by
 refine T.Wh.ok anj (fun vs H Q E h => ?_) (fun cdv A outer s H vs Q E hr h => ?_)
 ·obtain ⟨a,ns,k,rfl,_⟩ := h; rfl
 ·obtain ⟨a,ns,k,rfl,ha,hk,q⟩ := h
  refine ⟨_,(ak (cu (aR aaw (pv 1) (dG dO (by rfl) T.Aj PySem.boot_len (aa (pv 0) ao)) (bf _)) (aB (bj (aL bA (pv 0) (pv 1) (fun _ _ => rfl)))) bB)
   (aB (bj az))),?_⟩
  try dsimp only [du,Cx.j6]
  show let Z1 : L2.TS := _; let Z2 : L2.TS := cY _ Z1 bJ; let Z3 : L2.TS := _; let D0 : Ends := _; (aQ Z2 (Z3)) D0 _ _
  intro Z1 Z2 Z3 D0
  refine ⟨_,rfl,_,rfl,a,_,rfl,.inl ha,_,_,rfl,rfl,_,rfl,?_⟩
  by_cases h : k < ((ns.map V.int).length : Nat)
  ·refine bF (decide_eq_true h) ?_
   obtain ⟨z,hz⟩ := Q5 hk (by simpa using h)
   exact ⟨_,rfl,_,rfl,a,_,k,_,rfl,rfl,ha,hz,q z⟩
  ·refine aO (decide_eq_false h) ?_
   exact q 0
end
theorem alQ (n p : Nat) : cnt n p (fun _ => []) (fun _ => []) = 0 := by
 unfold cnt
 induction n with
 | zero => rfl
 | succ n ih => rw [wR,ih]; rfl
theorem jV.start (n : Nat) (ns : List Int) : jV n ns.length (S0 ns) where
 pn p _ := ⟨(fun x h => nomatch h),(fun x h => nomatch h),(fun x h => nomatch h)⟩
 am p _ := ⟨fun _ => rfl,fun _ => rfl⟩
 up d _ l h := by cases h
 dn d _ l h := by cases h
 ws d _ w h := by cases h
 ct p _ := by rw [show (S0 ns).up = fun _ => [] from rfl,show (S0 ns).dn = fun _ => [] from rfl,alQ]; rfl
theorem Bd.start (ns : List Int) : Bd 0 (S0 ns) [] := ⟨fun p => Nat.le_refl _,fun d => Nat.le_refl _,Nat.le_refl _,fun d => Nat.zero_le _,Nat.zero_le _⟩
theorem Bd.sent {t : Nat} {S : TS} {se : List (Nat×Let)} (b : Bd t S se) : Bd t S [] := ⟨b.mu,b.up,b.row,b.dn,Nat.zero_le _⟩
theorem ints_rep (H : Hp) : ∀ ns : List Int,aG H (ns.map V.int) (ns.map D.i)
 | [] => by simp [aG]
 | x :: ns => by simp only [List.map_cons,aG]; exact ⟨_,_,rfl,rfl,ints_rep H ns⟩
theorem ints_size : ∀ ns : List Int,D.sizes (ns.map D.i)≤2 * ns.length
 | [] => by simp [D.sizes]
 | x :: ns => by have := ints_size ns; simp only [List.map_cons,D.sizes,D.size,List.length_cons]; lia
theorem alR (u v : Int) (hu : 1≤u∧u≤20) (hv : 1≤v∧v≤20) (b : Bool) : ∃ n : Nat,0 < n∧n≤20∧Ol [V.int u,V.int v] (if b = true then 1 else 0) = some (.int n) := by
 cases b with
 | false => exact ⟨u.toNat,by lia,by lia,by rw [Int.toNat_of_nonneg (by lia)]; rfl⟩
 | true => exact ⟨v.toNat,by lia,by lia,by rw [Int.toNat_of_nonneg (by lia)]; rfl⟩
theorem alS (ns : List Int) (lo hi : Option Int) : ∃ cs : List Int,YH (ns.map V.int) lo hi = cs.map V.int∧cs.length≤ns.length := by
 refine ⟨((ns.drop (HT.nA (ns.map V.int).length 0 lo)).take (HT.nA (ns.map V.int).length (ns.map V.int).length hi - HT.nA (ns.map V.int).length 0 lo)),?_,?_⟩
 ·unfold YH; rw [← List.map_drop,← List.map_take]
 ·rw [List.length_take,List.length_drop]; lia
theorem cz.same {K : PySem.W.Frag} {H H' : Hp} {a : Addr} {xs : List V} (h : cz K H a xs) (s : bZ H H') : cz K H' a xs := by
 rcases h with (h | ⟨o,h⟩) | h
 ·exact .inl (.inl (s _ _ h))
 ·exact .inl (.inr ⟨o,s _ _ h⟩)
 ·exact .inr h
end iz
namespace iz
open PySem L2
def alT (c : C4) (X : Addr) : Sp := fun vs H Q E => ∃ B n m S k,∃ d : Int,vs = [.ref (B .bx),.int d]∧cF c H B n m S k∧(inR d n→Q .non H)∧(¬ inR d n→E (.ref X) none H)
def alU (c : C4) (X : Addr) : Sp := fun vs H Q E => ∃ B n m S k,∃ d : Int,vs = [.ref (B .bx),.int d]∧cF c H B n m S k∧(inR d m→Q .non H)∧(¬ inR d m→E (.ref X) none H)
def alV (X : Addr) : Sp := fun vs H Q E => ∃ s l xs,vs = [s,.ref l]∧H l = some (.lst xs)∧(xs = []→E (.ref X) none H)∧∀ v r,xs = v :: r→Q v (upd H l (.lst r))
def aiM (c : C4) : Sp := fun vs H Q _ => ∃ B n m S k a l1 l2 xs ys es us,∃ d : Nat,vs = [.ref (B .bx),.int d,.ref a]∧cF c H B n m S k∧d < n∧H a = some (.tup [.ref l1,.ref l2])∧H l1 = some (.lst xs)∧H l2 = some (.lst ys)∧aG H xs (es.map evD)∧aG H ys (us.map UL.d)∧
 (∀ x : Tb,x.ok n m→l1≠B x)∧(∀ x : Tb,x.ok n m→l2≠B x)∧S.row.length + es.length≤1000000∧(S.up d).length + us.length≤1000000∧
 ∀ H',cF c H' B n m { S with up := bO S.up d (S.up d ++ us),row := fU S.row d es } k→TF H H' B n m→H' l1 = some (.lst xs)→aG H' xs (es.map evD)→Q (.ref l1) H'
theorem afE (es : List Ev) : D.flats (es.map evD) := bU (fun e => by simp [evD,D.flat,D.flats]) es
theorem aiN {H : Hp} : ∀ {es : List Ev} {xs : List V} {i : Nat} {y : V},aG H xs (es.map evD)→xs[i]? = some y→∃ e,es[i]? = some e∧Rep H y (evD e)
 | [],xs,i,y,h,hy => by simp only [List.map_nil,aG] at h; subst h; simp at hy
 | e :: es,xs,i,y,h,hy => by
   simp only [List.map_cons,aG] at h
   obtain ⟨v,us,rfl,rv,rl⟩ := h
   cases i with
   | zero => simp at hy; subst hy; exact ⟨e,rfl,rv⟩
   | succ i => simp at hy; obtain ⟨e',h1,h2⟩ := aiN rl hy; exact ⟨e',by simpa using h1,h2⟩
theorem afF {row : List RE} {d i : Nat} {es : List Ev} {e : Ev} (h : es[i]? = some e) : fU row d (es.take (i + 1)) = fU row d (es.take i) ++ [⟨e.1,d,e.2.1,e.2.2⟩] := by
 unfold fU
 rw [List.take_add_one,h]
 simp
section
variable {P : Program} {w : World} {K : PySem.W.Frag} {mg : Str→Option Value} {base : Heap} {t : JV}
abbrev c4 (t : JV) : C4 := ⟨t.bh,t.bI,t.gM,t.aD⟩
theorem Iz (T : Txt K w mg t) : cZ P w K mg base (CX1 P w) 1 t.di t.lr ["self","desk"] (alT (c4 t) t.aZ) := by
 refine T.Kw.okX Ie (fun vs H Q E h => ?_) (fun cdv A outer s H vs Q E hr h => ?_)
 ·obtain ⟨B,n,m,S,k,d,rfl,_⟩ := h; rfl
 ·obtain ⟨B,n,m,S,k,d,rfl,TA,k1,k2⟩ := h
  refine ⟨_,(aB (cu (PW.pt (wG (aR aaw (pv 1) az (bf _)) (p8 (aR Vl (pv 1) (dG dO (by rfl) T.Aj PySem.boot_len (aa (cL (pv 0) (by rfl)) ao)) (bf _))))) (aB (Df T.V5 (by rfl) T.aeV rfl Ka (aa aC ao))) bB)),?_⟩
  try dsimp only [du,Cx.j6]
  show let Z1 : L2.TS := _; let Z2 : L2.TS := cY _ Z1 bJ; let D0 : Ends := _; (Z2) D0 _ _
  intro Z1 Z2 D0
  obtain ⟨dx,ht⟩ := TA.ob
  refine ⟨_,rfl,_,_,rfl,rfl,_,rfl,?_⟩
  by_cases h0 : d < 0
  ·refine bF (decide_eq_true h0) (oh ?_)
   exact ⟨zz1,k2 fun h => by unfold inR at h; lia⟩
  ·refine aO (decide_eq_false h0) ?_
   refine ⟨_,rfl,_,rfl,B .bx,_,dx,_,_,rfl,ht,T.dN,T.gA,wU,B .lJ,_,rfl,.inl (cz.of TA.ds),_,_,rfl,rfl,_,rfl,?_⟩
   rw [List.length_map,List.length_range]
   by_cases h1 : (n : Int)≤d
   ·refine bF (decide_eq_true h1) ?_
    exact ⟨zz1,k2 fun h => by unfold inR at h; lia⟩
   ·refine aO (decide_eq_false h1) ?_
    exact k1 ⟨by lia,by lia⟩
theorem IK (T : Txt K w mg t) : cZ P w K mg base (CX1 P w) 1 t.dj t.lu ["self","page"] (alU (c4 t) t.aW) := by
 refine T.Kz.okX Ig (fun vs H Q E h => ?_) (fun cdv A outer s H vs Q E hr h => ?_)
 ·obtain ⟨B,n,m,S,k,d,rfl,_⟩ := h; rfl
 ·obtain ⟨B,n,m,S,k,d,rfl,TA,k1,k2⟩ := h
  refine ⟨_,(aB (cu (PW.pt (wG (aR aaw (pv 1) az (bf _)) (p8 (aR Vl (pv 1) (cL (pv 0) (by rfl)) (bf _))))) (aB (Df T.Kq (by rfl) T.aeW rfl Ka (aa aC ao))) bB)),?_⟩
  try dsimp only [du,Cx.j6]
  show let Z1 : L2.TS := _; let Z2 : L2.TS := cY _ Z1 bJ; let D0 : Ends := _; (Z2) D0 _ _
  intro Z1 Z2 D0
  obtain ⟨dx,ht⟩ := TA.ob
  refine ⟨_,rfl,_,_,rfl,rfl,_,rfl,?_⟩
  by_cases h0 : d < 0
  ·refine bF (decide_eq_true h0) (oh ?_)
   exact ⟨zz1,k2 fun h => by unfold inR at h; lia⟩
  ·refine aO (decide_eq_false h0) ?_
   refine ⟨_,rfl,_,rfl,B .bx,_,dx,_,_,rfl,ht,T.dN,T.je,ajs,_,_,rfl,rfl,_,rfl,?_⟩
   by_cases h1 : (m : Int)≤d
   ·refine bF (decide_eq_true h1) ?_
    exact ⟨zz1,k2 fun h => by unfold inR at h; lia⟩
   ·refine aO (decide_eq_false h1) ?_
    exact k1 ⟨by lia,by lia⟩
theorem pQ (T : Txt K w mg t) : cZ P w K mg base (CX1 P w) 1 t.cP t.jM ["self","road"] (alV t.aH) := by
 refine T.Gx.okX DK (fun vs H Q E h => ?_) (fun cdv A outer s H vs Q E hr h => ?_)
 ·obtain ⟨B,n,m,rfl,_⟩ := h; rfl
 ·obtain ⟨sv,l,xs,rfl,hl,k1,k2⟩ := h
  refine ⟨_,(ak (cu (HQ (Dd (pv 1) (fun _ => rfl))) (aB (Df T.lA (by rfl) T.V6 rfl Ka (aa aC ao))) bB)
   (aB (bj (eX PySem.F.plainAttrs_list PySem.F.slot_list_pop PySem.F.type_list_pop De (pv 1) (aa az ao))))),?_⟩
  try dsimp only [du,Cx.j6]
  show let Z1 : L2.TS := _; let Z2 : L2.TS := cY _ Z1 bJ; let Z3 : L2.TS := _; let D0 : Ends := _; (aQ Z2 (Z3)) D0 _ _
  intro Z1 Z2 Z3 D0
  cases xs with
  | nil =>
    refine ⟨_,rfl,_,.inl ⟨[],cz.of hl,rfl⟩,?_⟩
    exact oh ⟨zz1,k1 rfl⟩
  | cons v r =>
    refine ⟨_,rfl,_,.inl ⟨v :: r,cz.of hl,rfl⟩,wJ ?_⟩
    exact ⟨_,rfl,.inl ⟨rfl,_,cz.of hl⟩,l,_,0,0,_,rfl,rfl,hl,(by decide),(by decide),akS _ _,rfl,k2 v r rfl⟩
theorem mX (T : Txt K w mg t) : cZ P w K mg base n8 1 t.dF t.mH ["self","desk","told"] (aiM (c4 t)) := by
 refine T.O8.ok jy (fun vs H Q E h => ?_) (fun cdv A outer s H vs Q E hr h => ?_)
 ·obtain ⟨B,n,m,S,k,a,l1,l2,xs,ys,es,us,d,rfl,_⟩ := h; rfl
 ·obtain ⟨B,n,m,S,k,a,l1,l2,xs,ys,es,us,d,rfl,TA,hd,ha,h1,h2,r1,r2,n1,n2,z1,z2,fin⟩ := h
  have sl : sizeLine = 16777216 := by decide
  refine ⟨_,(ak (HS PassesOwn.never rfl (ux (aL bw (pv 2) az (fun _ _ => rfl))) (Og rfl (iG (dg (i := 3) jy.nd rfl (Or.inl rfl)) (iG (dg (i := 4) jy.nd rfl (Or.inl rfl)) (iG (dg (i := 5) jy.nd rfl (Or.inl rfl)) Gi)))) (aB (bM (eX PySem.F.plainAttrs_list PySem.F.slot_list_append PySem.F.type_list_append cD (cL (pv 0) (by rfl)) (aa (b8 (aa (pv 3) (aa (pv 1) (aa (pv 4) (aa (pv 5) ao))))) ao)))))
   (ak (bM (eX PySem.F.plainAttrs_list PySem.F.slot_list_extend PySem.F.type_list_extend kO (aL bA (cL (pv 0) (by rfl)) (pv 1) (fun _ _ => rfl)) (aa (aL bw (pv 2) az (fun _ _ => rfl)) ao)))
   (aB (bj (aL bw (pv 2) az (fun _ _ => rfl)))))),?_⟩
  try dsimp only [du,Cx.j6]
  show let Z1 : L2.TS := _; let Z2 : L2.TS := ael _ _ Z1; let Z3 : L2.TS := _; let Z4 : L2.TS := _; let D0 : Ends := _; (aQ Z2 (aQ Z3 (Z4))) D0 _ _
  intro Z1 Z2 Z3 Z4 D0
  refine zt rfl (dq.of ha) rfl ⟨l1,rfl,⟨_,cz.of h1⟩,?_⟩
  have hxl : xs.length = es.length := by rw [r1.length,List.length_map]
  let PV1 : Nat→St→Hp→Prop := fun i σ' H' => (∃ o1 o2 o3,σ' = [some (.ref (B .bx)),some (.int d),some (.ref a),o1,o2,o3])∧i≤xs.length∧cF (c4 t) H' B n m { S with row := fU S.row d (es.take i) } k∧TF H H' B n m
  refine J2 (xs := xs) PV1 ?_ ?_ ?_ ?_
  ·refine ⟨⟨_,_,_,rfl⟩,Nat.zero_le _,?_,TF.refl _ _ _ _⟩
   simpa [fU] using TA
  ·rintro i σ' H' _ ⟨_,_,_,f'⟩
   exact cz.of (f'.kp _ _ h1 n1)
  ·rintro i y σ' H' hy ⟨⟨o1,o2,o3,rfl⟩,hi,T',f'⟩
   have hi' : i < xs.length := (List.getElem?_eq_some_iff.mp hy).1
   obtain ⟨e,he,re⟩ := aiN (r1.aU (f'.tups TA) (afE _)) hy
   simp only [evD,Rep,aG] at re
   obtain ⟨c,us',rfl,hc,_,_,rfl,rfl,_,_,rfl,rfl,_,_,rfl,rfl,rfl⟩ := re
   refine ⟨c,_,rfl,dq.of hc,rfl,_,_,rfl,_,_,rfl,_,_,rfl,rfl,?_⟩
   obtain ⟨dx,ht⟩ := T'.ob
   obtain ⟨rv,e1,e2⟩ := T'.row
   have hrl : rv.length < sizeLine := by
    rw [e2.length,List.length_map]
    show (fU S.row d (es.take i)).length < _
    unfold fU
    rw [List.length_append,List.length_map,List.length_take]
    lia
   refine ⟨_,rfl,B .bx,_,dx,_,_,rfl,ht,T.dN,T.uV,ani,.inl ⟨rfl,_,cz.of e1⟩,_,rfl,_,rfl,_,rfl,_,rfl,zz4,fun b hbn => ?_⟩
   have s3 := aA (o := .tup [.str (aeK e.1),.int d,.int e.2.1,.int e.2.2]) hbn
   refine ⟨B .row,rv,_,rfl,rfl,s3 _ _ e1,hrl,?_⟩
   have rp3 : aG (upd H' b (.tup [.str (aeK e.1),.int d,.int e.2.1,.int e.2.2])) (rv ++ [.ref b]) ((fU S.row d (es.take (i + 1))).map RE.d) := by
    rw [afF he,List.map_append]
    refine aG.snoc (e2.aU (aY s3) (bU RE.flat _)) ?_
    simp only [RE.d,Rep,aG]
    exact ⟨b,_,rfl,aj,_,_,rfl,rfl,_,_,rfl,rfl,_,_,rfl,rfl,_,_,rfl,rfl,rfl⟩
   have T4 := (T'.same s3).ak1 rp3
   exact ⟨⟨_,_,_,rfl⟩,by lia,T4,f'.trans ((TF.of_same s3).trans (TF.wr (x := .row) trivial) (Tv.refl _ _ _ _)) (Tv.refl _ _ _ _)⟩
  ·rintro σ' H' ⟨⟨o1,o2,o3,rfl⟩,_,T',f'⟩
   rw [hxl,List.take_length] at T'
   obtain ⟨dx,ht⟩ := T'.ob
   obtain ⟨uv,u1,u2⟩ := T'.up d hd
   have ha' := f'.tups TA _ _ ha
   have h2' := f'.kp _ _ h2 n2
   have r2' := r2.aU (f'.tups TA) (bU UL.flat _)
   have hul : uv.length + ys.length≤sizeLine := by
    rw [u2.length,r2.length,List.length_map,List.length_map]
    show (S.up d).length + us.length≤_
    lia
   refine ⟨_,rfl,B .bx,_,dx,_,_,rfl,ht,T.dN,T.gC,abv,_,rfl,B .ups,_,_,_,rfl,rfl,cz.of T'.us,bK hd,.inl ⟨rfl,_,cz.of u1⟩,zt rfl (dq.of ha') rfl ⟨B (.up d),l2,uv,ys,rfl,rfl,u1,.inl (cz.of h2'),hul,?_⟩⟩
   have ru : aG H' (uv ++ ys) ((S.up d ++ us).map UL.d) := by rw [List.map_append]; exact aG.append u2 r2'
   have T5 := T'.aeR hd ru
   have f5 := f'.trans (TF.wr (B := B) (x := .up d) (n := n) (m := m) hd (o := .lst (uv ++ ys))) (Tv.refl _ _ _ _)
   have ha5 := f5.tups TA _ _ ha
   refine zt rfl (dq.of ha5) rfl ?_
   exact fin _ T5 f5 (f5.kp _ _ h1 n1) (r1.aU (f5.tups TA) (afE _))
end
end iz
namespace iz
open PySem L2
theorem alW {H H1 : Hp} {v : V} {es : List Ev} {us : List UL} (t : bY H H1) (r : Rep (nw H H1) v (.t [.l (es.map evD),.l (us.map UL.d)])) :
 ∃ a l1 l2 xs ys,v = .ref a∧H1 a = some (.tup [.ref l1,.ref l2])∧H1 l1 = some (.lst xs)∧H1 l2 = some (.lst ys)∧aG H1 xs (es.map evD)∧aG H1 ys (us.map UL.d)∧H l1 = none∧H l2 = none := by
 simp only [Rep,aG] at r
 obtain ⟨a,xs,rfl,ha,v1,q1,rfl,⟨l1,x1,rfl,h1,r1⟩,v2,q2,rfl,⟨l2,x2,rfl,h2,r2⟩,rfl⟩ := r
 have key : ∀ {l : Addr} {z : List V},nw H H1 l = some (.lst z)→H l = none := fun {l z} e => by
  obtain ⟨e1,e2 | ⟨ys,e2⟩⟩ := lX e
  ·exact e2
  ·have := t _ _ e2; rw [e1] at this; cases this
 exact ⟨a,l1,l2,x1,x2,rfl,(lX ha).1,(lX h1).1,(lX h2).1,r1.mono agU,r2.mono agU,key h1,key h2⟩
theorem WW {c : C4} {H H1 : Hp} {B : Tb→Addr} {n m d : Nat} {S : TS} {k k' : Nat} {z : DS×List Ev×List UL} {v : V} {Q : VK} {E : XK} (TA : cF c H B n m S k) (hd : d < n) (z1 : z.2.1.length≤1) (z2 : z.2.2.length≤1) (hr : S.row.length≤1500) (hu : (S.up d).length≤1500)
 (D1 : cg c.D H1 (B (.dk d)) (B (.cp d)) z.1 k') (hk : k≤k') (f1 : DF H H1 (B (.dk d)) (B (.cp d))) (r1 : Rep (nw H H1) v (.t [.l (z.2.1.map evD),.l (z.2.2.map UL.d)]))
 (fin : ∀ l1 xs H2,cF c H2 B n m (S.kW d z) k'→TF H H2 B n m→H2 l1 = some (.lst xs)→aG H2 xs (z.2.1.map evD)→Q (.ref l1) H2) : aiM c [.ref (B .bx),.int d,v] H1 Q E := by
 obtain ⟨T1,g1⟩ := TA.kW hd D1 f1 hk
 obtain ⟨a,l1,l2,xs,ys,rfl,ha,h1,h2,q1,q2,n1,n2⟩ := alW (g1.tups TA) r1
 refine ⟨B,n,m,_,k',a,l1,l2,xs,ys,z.2.1,z.2.2,d,rfl,T1,hd,ha,h1,h2,q1,q2,fun x hx => (TA.ne hx n1).symm,fun x hx => (TA.ne hx n2).symm,?_,?_,fun H2 T2 f2 e1 e2 => fin l1 xs H2 T2 (g1.trans f2 (Tv.refl _ _ _ _)) e1 e2⟩
 ·show S.row.length + _≤_; lia
 ·show (S.up d).length + _≤_; lia
def aiO (S : DS) : W→D
 | .look p => if S.ok (.look p) then .i (S.nm p) else .s "waits"
 | .put p x => if S.ok (.put p x) then .s "done" else .s "waits"
def ash (c : C4) (X : Addr) (H : Hp) (B : Tb→Addr) (n m : Nat) (S : TS) (k d p : Nat) (w : W) (Q : VK) (E : XK) : Prop :=
 ((S.ds d).ws = none→∀ v H',cF c H' B n m (S.kW d ((S.ds d).iC w p)) (k + 2)→TF H H' B n m→Rep H' v (aiO (S.ds d) w)→Q v H')∧((S.ds d).ws≠none→∀ H',bZ H H'→E (.ref X) none H')
def asi (c : C4) (X : Addr) : Sp := fun vs H Q E => ∃ B n m S k,∃ d p : Nat,vs = [.ref (B .bx),.int d,.int p]∧cF c H B n m S k∧d < n∧S.row.length≤1500∧(S.up d).length≤1500∧k≤800000∧ash c X H B n m S k d p (.look p) Q E
def avH (c : C4) (X : Addr) : Sp := fun vs H Q E => ∃ B n m S k,∃ d p : Nat,∃ x : Int,vs = [.ref (B .bx),.int d,.int p,.int x]∧cF c H B n m S k∧d < n∧S.row.length≤1500∧(S.up d).length≤1500∧k≤800000∧ash c X H B n m S k d p (.put p x) Q E
def asj (c : C4) (X : Addr) : Sp := fun vs H Q E => ∃ B n m S k,∃ d p : Nat,vs = [.ref (B .bx),.int d,.int p]∧cF c H B n m S k∧d < n∧(S.up d).length≤1500∧k≤800000∧
 ((S.ds d).rt p≠.no→∀ H',cF c H' B n m (S.vH d p) (k + 2)→TF H H' B n m→Q (.str "done") H')∧((S.ds d).rt p = .no→E (.ref X) none H)
section
variable {P : Program} {w : World} {K : PySem.W.Frag} {mg : Str→Option Value} {base : Heap} {t : JV}
theorem Sw (T : Txt K w mg t) : cZ P w K mg base (CX1 P w) 4 t.eO t.qx ["self","desk","page"] (asi (c4 t) t.aK) := by
 refine T.Wc.okX Ad (fun vs H Q E h => ?_) (fun cdv A outer s H vs Q E hr h => ?_)
 ·obtain ⟨B,n,m,S,k,d,p,rfl,_⟩ := h; rfl
 ·obtain ⟨B,n,m,S,k,d,p,rfl,TA,hd,z1,z2,z3,k1,k2⟩ := h
  refine ⟨_,(ak (bu (i := 3) Ad.nd rfl (Or.inl rfl) (cC (pv 0) T.dN T.mR (mX T) (hr.mono (by decide) : bR 1 _) T.oW .nil bW (aa (pv 1) (aa (cC (aL bA (cL (pv 0) (by rfl)) (pv 1) (fun _ _ => rfl)) T.dw T.Ks (K9 T) (hr.mono (by decide) : bR 3 _) T.QT .nil z9 (aa (b8 (aa aC (aa (pv 2) ao))) ao)) ao))))
   (aB (bj (pB (Dd (pv 3) (fun _ => rfl)) (aL bw (aL bA (pv 3) az (fun _ _ => rfl)) az (fun _ _ => rfl)) (gQ (by rfl) T.aiA))))),?_⟩
  try dsimp only [du,Cx.j6]
  show let Z1 : L2.TS := _; let Z2 : L2.TS := _; let D0 : Ends := _; (aQ Z1 (Z2)) D0 _ _
  intro Z1 Z2 D0
  obtain ⟨dx,ht⟩ := TA.ob
  obtain ⟨⟨yo,wv,g1,_⟩,_⟩ := TA.dk d hd
  refine ⟨_,rfl,B .bx,dx,_,rfl,ht,ag6,_,rfl,_,rfl,B .bx,_,dx,_,_,rfl,ht,T.dN,T.gA,wU,_,rfl,B .lJ,_,_,_,rfl,rfl,cz.of TA.ds,bK hd,B (.dk d),yo,_,rfl,g1,fj _ _ (by decide +kernel) (by decide +kernel),_,rfl,uo,fun b hb => ?_⟩
  have TB := TA.new (o := .tup [.str "look",.int p]) hb
  refine ⟨B (.dk d),B (.cp d),S.ds d,k,b,.look p,rfl,TB.dk d hd,by lia,aj,?_⟩
  cases hw : (S.ds d).ws with
  | some w' => exact k2 (by rw [hw]; exact nofun) _ (aA hb)
  | none =>
    intro v H1 D1 f1 r1
    have e1 := (S.ds d).aik (.look p) (p := p) rfl
    rw [e1] at D1 r1
    dsimp only [Gv,List.append_nil]
    refine WW (z := (S.ds d).iC (.look p) p) TB hd (DS.lH _ _ _).1 (DS.lH _ _ _).2 z1 z2 D1 (by lia) f1 r1 fun l1 xs H2 T2 f2 h1 r2 => ?_
    have f3 : TF H H2 B n m := (TF.of_same (aA hb)).trans f2 (Tv.refl _ _ _ _)
    have fin := k1 hw
    refine ⟨_,rfl,_,.inl ⟨xs,cz.of h1,rfl⟩,?_⟩
    unfold aiO at fin
    by_cases ho : (S.ds d).ok (.look p)
    ·have ez : ((S.ds d).iC (.look p) p).2.1 = [(false,(p : Int),(S.ds d).nm p)] := by unfold DS.iC; rw [if_pos ho]; rfl
     rw [ez] at r2
     simp only [List.map_cons,List.map_nil,evD,aG,Rep] at r2
     obtain ⟨_,_,rfl,⟨c,us',rfl,hc,_,_,rfl,rfl,_,_,rfl,rfl,_,_,rfl,rfl,rfl⟩,rfl⟩ := r2
     refine oh ?_
     refine ⟨_,rfl,l1,_,0,_,rfl,rfl,cz.of h1,rfl,c,_,2,_,rfl,rfl,dq.of hc,rfl,?_⟩
     refine fin _ _ T2 f3 ?_
     dsimp only
     rw [if_pos ho]
     simp only [Rep]
    ·have ez : ((S.ds d).iC (.look p) p).2.1 = [] := by unfold DS.iC; rw [if_neg ho]
     rw [ez] at r2
     simp only [List.map_nil,aG] at r2
     subst r2
     refine wJ ?_
     refine fin _ _ T2 f3 ?_
     dsimp only
     rw [if_neg ho]
     simp only [Rep]
theorem WX (T : Txt K w mg t) : cZ P w K mg base (CX1 P w) 4 t.fD t.sV ["self","desk","page","number"] (avH (c4 t) t.aK) := by
 refine T.Y5.okX DG (fun vs H Q E h => ?_) (fun cdv A outer s H vs Q E hr h => ?_)
 ·obtain ⟨B,n,m,S,k,d,p,x,rfl,_⟩ := h; rfl
 ·obtain ⟨B,n,m,S,k,d,p,x,rfl,TA,hd,z1,z2,z3,k1,k2⟩ := h
  refine ⟨_,(ak (bu (i := 4) DG.nd rfl (Or.inl rfl) (cC (pv 0) T.dN T.mR (mX T) (hr.mono (by decide) : bR 1 _) T.oW .nil bW (aa (pv 1) (aa (cC (aL bA (cL (pv 0) (by rfl)) (pv 1) (fun _ _ => rfl)) T.dw T.Ks (K9 T) (hr.mono (by decide) : bR 3 _) T.QT .nil z9 (aa (b8 (aa aC (aa (pv 2) (aa (pv 3) ao)))) ao)) ao))))
   (aB (bj (pB (Dd (pv 4) (fun _ => rfl)) (gQ (by rfl) T.ak7) (gQ (by rfl) T.aiA))))),?_⟩
  try dsimp only [du,Cx.j6]
  show let Z1 : L2.TS := _; let Z2 : L2.TS := _; let D0 : Ends := _; (aQ Z1 (Z2)) D0 _ _
  intro Z1 Z2 D0
  obtain ⟨dx,ht⟩ := TA.ob
  obtain ⟨⟨yo,wv,g1,_⟩,_⟩ := TA.dk d hd
  refine ⟨_,rfl,B .bx,dx,_,rfl,ht,ag6,_,rfl,_,rfl,B .bx,_,dx,_,_,rfl,ht,T.dN,T.gA,wU,_,rfl,B .lJ,_,_,_,rfl,rfl,cz.of TA.ds,bK hd,B (.dk d),yo,_,rfl,g1,fj _ _ (by decide +kernel) (by decide +kernel),_,rfl,_,rfl,zz3,fun b hb => ?_⟩
  have TB := TA.new (o := .tup [.str "put",.int p,.int x]) hb
  refine ⟨B (.dk d),B (.cp d),S.ds d,k,b,.put p x,rfl,TB.dk d hd,by lia,aj,?_⟩
  cases hw : (S.ds d).ws with
  | some w' => exact k2 (by rw [hw]; exact nofun) _ (aA hb)
  | none =>
    intro v H1 D1 f1 r1
    have e1 := (S.ds d).aik (.put p x) (p := p) rfl
    rw [e1] at D1 r1
    dsimp only [Gv,List.append_nil]
    refine WW (z := (S.ds d).iC (.put p x) p) TB hd (DS.lH _ _ _).1 (DS.lH _ _ _).2 z1 z2 D1 (by lia) f1 r1 fun l1 xs H2 T2 f2 h1 r2 => ?_
    have f3 : TF H H2 B n m := (TF.of_same (aA hb)).trans f2 (Tv.refl _ _ _ _)
    have fin := k1 hw
    refine ⟨_,rfl,_,.inl ⟨xs,cz.of h1,rfl⟩,?_⟩
    unfold aiO at fin
    by_cases ho : (S.ds d).ok (.put p x)
    ·have ez : ((S.ds d).iC (.put p x) p).2.1 = [(true,(p : Int),x)] := by unfold DS.iC; rw [if_pos ho]; rfl
     rw [ez] at r2
     simp only [List.map_cons,List.map_nil,evD,aG] at r2
     obtain ⟨_,_,rfl,_,rfl⟩ := r2
     refine oh ?_
     refine fin _ _ T2 f3 ?_
     dsimp only
     rw [if_pos ho]
     simp only [Rep]
    ·have ez : ((S.ds d).iC (.put p x) p).2.1 = [] := by unfold DS.iC; rw [if_neg ho]
     rw [ez] at r2
     simp only [List.map_nil,aG] at r2
     subst r2
     refine wJ ?_
     refine fin _ _ T2 f3 ?_
     dsimp only
     rw [if_neg ho]
     simp only [Rep]
theorem Sx (T : Txt K w mg t) : cZ P w K mg base (CX1 P w) 4 t.eQ t.qy ["self","desk","page"] (asj (c4 t) t.aV) := by
 refine T.Wf.okX R1 (fun vs H Q E h => ?_) (fun cdv A outer s H vs Q E hr h => ?_)
 ·obtain ⟨B,n,m,S,k,d,p,rfl,_⟩ := h; rfl
 ·obtain ⟨B,n,m,S,k,d,p,rfl,TA,hd,z2,z3,k1,k2⟩ := h
  have sl : sizeLine = 16777216 := by decide
  refine ⟨_,(ak (bM (eX PySem.F.plainAttrs_list PySem.F.slot_list_extend PySem.F.type_list_extend kO (aL bA (cL (pv 0) (by rfl)) (pv 1) (fun _ _ => rfl)) (aa (cC (aL bA (cL (pv 0) (by rfl)) (pv 1) (fun _ _ => rfl)) T.dw T.abO (abZ T) (hr.mono (by decide) : bR 3 _) T.ae5 .nil z9 (aa (pv 2) ao)) ao)))
   (aB (bj (gQ (by rfl) T.ak7)))),?_⟩
  try dsimp only [du,Cx.j6]
  show let Z1 : L2.TS := _; let Z2 : L2.TS := _; let D0 : Ends := _; (aQ Z1 (Z2)) D0 _ _
  intro Z1 Z2 D0
  obtain ⟨dx,ht⟩ := TA.ob
  obtain ⟨⟨yo,wv,g1,_⟩,_⟩ := TA.dk d hd
  obtain ⟨uv,u1,u2⟩ := TA.up d hd
  refine ⟨_,rfl,B .bx,_,dx,_,_,rfl,ht,T.dN,T.gC,abv,_,rfl,B .ups,_,_,_,rfl,rfl,cz.of TA.us,bK hd,.inl ⟨rfl,_,cz.of u1⟩,_,rfl,B .bx,_,dx,_,_,rfl,ht,T.dN,T.gA,wU,_,rfl,B .lJ,_,_,_,rfl,rfl,cz.of TA.ds,bK hd,B (.dk d),yo,_,rfl,g1,fj _ _ (by decide +kernel) (by decide +kernel),_,rfl,?_⟩
  refine ⟨B (.dk d),B (.cp d),S.ds d,k,p,rfl,TA.dk d hd,by lia,?_⟩
  by_cases e : (S.ds d).rt p = .no
  ·rw [if_pos e]; exact k2 e
  ·rw [if_neg e]
   intro v H1 D1 f1 r1
   obtain ⟨T1,g2⟩ := TA.kW hd D1 f1 (by lia)
   have er : ((S.ds d).rest p).2 = .l ((if (S.ds d).rt p = .wr then [UL.gave p ((S.ds d).nm p)] else []).map UL.d) := by
    unfold DS.rest
    dsimp only
    split <;> rfl
   rw [er] at r1
   simp only [Rep] at r1
   obtain ⟨l,ys,rfl,hl,r2⟩ := r1
   obtain ⟨hl1,hl0⟩ := lX hl
   obtain ⟨uw,u3,u4⟩ := T1.up d hd
   have hlen : ((if (S.ds d).rt p = .wr then [UL.gave p ((S.ds d).nm p)] else [] : List UL)).length≤1 := by split <;> simp
   have hyl : uw.length + ys.length≤sizeLine := by
    rw [u4.length,r2.length,List.length_map,List.length_map]
    show (S.up d).length + _≤_
    lia
   refine ⟨B (.up d),l,uw,ys,rfl,rfl,u3,.inl (cz.of hl1),hyl,?_⟩
   have ru : aG H1 (uw ++ ys) ((S.up d ++ (if (S.ds d).rt p = .wr then [UL.gave p ((S.ds d).nm p)] else [])).map UL.d) := by rw [List.map_append]; exact aG.append u4 (r2.mono agU)
   have T5 := T1.aeR hd ru
   have f5 := g2.trans (TF.wr (B := B) (x := .up d) (n := n) (m := m) hd (o := .lst (uw ++ ys))) (Tv.refl _ _ _ _)
   refine k1 e _ ?_ f5
   have es : S.vH d p = { S with ds := bO S.ds d ((S.ds d).rest p).1,up := bO S.up d (S.up d ++ (if (S.ds d).rt p = .wr then [UL.gave p ((S.ds d).nm p)] else [])) } := by
    unfold TS.vH TS.kW fU DS.rest
    simp
   rw [es]
   exact T5
end
end iz
namespace iz
open PySem L2
def avI (c : C4) (X : Addr) : Sp := fun vs H Q E => ∃ B n m S k,∃ d : Nat,vs = [.ref (B .bx),.int d]∧cF c H B n m S k∧d < n∧jV n m S∧(∀ p,(S.pg p).mu≤3000)∧(∀ e,(S.dn e).length≤9030000)∧(S.up d = []→E (.ref X) none H)∧
 ∀ l r,S.up d = l :: r→∀ b B' H',cF c H' B' n m (S.agW d l r) k→TF H H' B n m→Tv H B B' n m→B' .bx = B .bx→H' b = some (.tup l.vs)→Q (.ref b) H'
def avJ (c : C4) (X : Addr) : Sp := fun vs H Q E => ∃ B n m S k,∃ d : Nat,vs = [.ref (B .bx),.int d]∧cF c H B n m S k∧d < n∧jV n m S∧S.row.length≤1500∧(S.up d).length≤1500∧k≤800000∧(S.dn d = []→E (.ref X) none H)∧
 ∀ l r,S.dn d = l :: r→∀ b H',cF c H' B n m (S.RV d l r) (k + 2)→TF H H' B n m→H' b = some (.tup l.vs)→Q (.ref b) H'
theorem aaV {H : Hp} : ∀ {l : List (Nat×Let)} {vs : List V} {i : Nat} {v : V},aG H vs (l.map pairD)→vs[i]? = some v→∃ x,l[i]? = some x∧Rep H v (pairD x)
 | [],vs,i,v,h,hv => by simp only [List.map_nil,aG] at h; subst h; simp at hv
 | x :: l,vs,i,v,h,hv => by
   simp only [List.map_cons,aG] at h
   obtain ⟨u,us,rfl,ru,rl⟩ := h
   cases i with
   | zero => simp at hv; subst hv; exact ⟨x,rfl,ru⟩
   | succ i => simp at hv; obtain ⟨x',h1,h2⟩ := aaV rl hv; exact ⟨x',by simpa using h1,h2⟩
section
variable {P : Program} {w : World} {K : PySem.W.Frag} {mg : Str→Option Value} {base : Heap} {t : JV}
theorem IV (T : Txt K w mg t) : cZ P w K mg base (CX1 P w) 6 t.dm t.lz ["self","desk"] (avJ (c4 t) t.aH) := by
 refine T.KD.okX sI (fun vs H Q E h => ?_) (fun cdv A outer s H vs Q E hr h => ?_)
 ·obtain ⟨B,n,m,S,k,d,rfl,_⟩ := h; rfl
 ·obtain ⟨B,n,m,S,k,d,rfl,TA,hd,I,z1,z2,z3,k1,k2⟩ := h
  refine ⟨_,(ak (bu (i := 2) sI.nd rfl (Or.inl rfl) (cC (pv 0) T.dN T.pP (pQ T) (hr.mono (by decide) : bR 1 _) T.qN .nil z9 (aa (aL bA (cL (pv 0) (by rfl)) (pv 1) (fun _ _ => rfl)) ao)))
   (ak (bM (cC (pv 0) T.dN T.mR (mX T) (hr.mono (by decide) : bR 1 _) T.oW .nil bW (aa (pv 1) (aa (cC (aL bA (cL (pv 0) (by rfl)) (pv 1) (fun _ _ => rfl)) T.dw T.abN (abY T) (hr.mono (by decide) : bR 4 _) T.ae3 .nil bW (aa (pv 2) ao)) ao))))
   (aB (bj (pv 2))))),?_⟩
  try dsimp only [du,Cx.j6]
  show let Z1 : L2.TS := _; let Z2 : L2.TS := _; let Z3 : L2.TS := _; let D0 : Ends := _; (aQ Z1 (aQ Z2 (Z3))) D0 _ _
  intro Z1 Z2 Z3 D0
  obtain ⟨dx,ht⟩ := TA.ob
  obtain ⟨uv,u1,u2⟩ := TA.dn d hd
  refine ⟨_,rfl,B .bx,dx,_,rfl,ht,ak5,_,rfl,B .bx,_,dx,_,_,rfl,ht,T.dN,T.gG,aaL,_,rfl,B .downs,_,_,_,rfl,rfl,cz.of TA.os,bK hd,?_⟩
  refine ⟨_,B (.dn d),uv,rfl,u1,fun e0 => ?_,fun v r0 e0 => ?_⟩
  ·subst e0
   refine k1 ?_
   cases e : S.dn d with
   | nil => rfl
   | cons l r => rw [e] at u2; simp only [List.map_cons,aG] at u2; obtain ⟨_,_,z,_⟩ := u2; cases z
  ·subst e0
   cases e : S.dn d with
   | nil => rw [e] at u2; simp only [List.map_nil,aG] at u2; cases u2
   | cons l r =>
     rw [e] at u2
     obtain ⟨b,us,z,hb,u3⟩ := afq u2
     cases z
     have T1 := TA.ajp hd u3
     have f1 : TF H (upd H (B (.dn d)) (.lst r0)) B n m := TF.wr (x := .dn d) hd
     have hb1 := f1.tups TA _ _ hb
     generalize upd H (B (.dn d)) (.lst r0) = H1 at T1 f1 hb1
     obtain ⟨yo,ht1⟩ := T1.ob
     obtain ⟨⟨dx2,wv,g1,_⟩,_⟩ := T1.dk d hd
     obtain ⟨p,hp,hpl,_⟩ := I.dn d hd l (by rw [e]; simp)
     refine ⟨_,rfl,B .bx,yo,_,rfl,ht1,ag6,_,rfl,_,rfl,B .bx,_,yo,_,_,rfl,ht1,T.dN,T.gA,wU,_,rfl,B .lJ,_,_,_,rfl,rfl,cz.of T1.ds,bK hd,B (.dk d),dx2,_,rfl,g1,fj _ _ (by decide +kernel) (by decide +kernel),_,rfl,?_⟩
     refine ⟨B (.dk d),B (.cp d),S.ds d,k,b,l,rfl,T1.dk d hd,by lia,hb1,fun v H2 D2 f2 r2 => ?_⟩
     rw [(S.ds d).am7 l hpl] at D2 r2
     dsimp only [Gv,List.append_nil]
     refine WW (z := (S.ds d).wN l) T1 hd (DS.Gs _ _).1 (DS.Gs _ _).2 z1 z2 D2 (by lia) f2 r2 fun l1 xs H3 T3 f3 h1 r3 => ?_
     refine ⟨_,rfl,?_⟩
     exact k2 l r e b H3 T3 (f1.trans f3 (Tv.refl _ _ _ _)) (f3.tups T1 _ _ hb1)
theorem Pj (T : Txt K w mg t) : cZ P w K mg base (CX1 P w) 6 t.dW t.oM ["self","desk"] (avI (c4 t) t.aH) := by
 refine T.Sd.okX iK (fun vs H Q E h => ?_) (fun cdv A outer s H vs Q E hr h => ?_)
 ·obtain ⟨B,n,m,S,k,d,rfl,_⟩ := h; rfl
 ·obtain ⟨B,n,m,S,k,d,rfl,TA,hd,I,z1,z2,k1,k2⟩ := h
  have sl : sizeLine = 16777216 := by decide
  refine ⟨_,(ak (bu (i := 2) iK.nd rfl (Or.inl rfl) (cC (pv 0) T.dN T.pP (pQ T) (hr.mono (by decide) : bR 1 _) T.qN .nil z9 (aa (aL bA (cL (pv 0) (by rfl)) (pv 1) (fun _ _ => rfl)) ao)))
   (ak (bu (i := 3) iK.nd rfl (Or.inl rfl) (cC (cL (pv 0) (by rfl)) T.aha T.abP (ab1 T) (hr.mono (by decide) : bR 5 _) T.afa .nil bW (aa (pv 1) (aa (pv 2) ao))))
   (ak (HS PassesOwn.leaving rfl (ux (pv 3)) (Og rfl (iG (dg (i := 4) iK.nd rfl (Or.inl rfl)) (iG (dg (i := 5) iK.nd rfl (Or.inl rfl)) Gi))) (aB (bM (eX PySem.F.plainAttrs_list PySem.F.slot_list_append PySem.F.type_list_append cD (aL bA (cL (pv 0) (by rfl)) (pv 4) (fun _ _ => rfl)) (aa (pv 5) ao)))))
   (aB (bj (pv 2)))))),?_⟩
  try dsimp only [du,Cx.j6]
  show let Z1 : L2.TS := _; let Z2 : L2.TS := _; let Z3 : L2.TS := _; let Z4 : L2.TS := ael _ _ Z3; let Z5 : L2.TS := _; let D0 : Ends := _; (aQ Z1 (aQ Z2 (aQ Z4 (Z5)))) D0 _ _
  intro Z1 Z2 Z3 Z4 Z5 D0
  obtain ⟨dx,ht⟩ := TA.ob
  obtain ⟨uv,u1,u2⟩ := TA.up d hd
  refine ⟨_,rfl,B .bx,dx,_,rfl,ht,ak5,_,rfl,B .bx,_,dx,_,_,rfl,ht,T.dN,T.gC,abv,_,rfl,B .ups,_,_,_,rfl,rfl,cz.of TA.us,bK hd,?_⟩
  refine ⟨_,B (.up d),uv,rfl,u1,fun e0 => ?_,fun v r0 e0 => ?_⟩
  ·subst e0
   refine k1 ?_
   cases e : S.up d with
   | nil => rfl
   | cons l r => rw [e] at u2; simp only [List.map_cons,aG] at u2; obtain ⟨_,_,z,_⟩ := u2; cases z
  ·subst e0
   cases e : S.up d with
   | nil => rw [e] at u2; simp only [List.map_nil,aG] at u2; cases u2
   | cons l r =>
     rw [e] at u2
     obtain ⟨b,us,z,hb,u3⟩ := aiD u2
     cases z
     obtain ⟨_,hlp,hlg,hok⟩ := I.take hd e
     have T1 := TA.aeR hd u3
     have f1 : TF H (upd H (B (.up d)) (.lst r0)) B n m := TF.wr (x := .up d) hd
     have hb1 := f1.tups TA _ _ hb
     generalize upd H (B (.up d)) (.lst r0) = H1 at T1 f1 hb1
     obtain ⟨yo,ht1⟩ := T1.ob
     obtain ⟨dx2,hh⟩ := T1.hl.ob
     refine ⟨_,rfl,B .bx,_,yo,_,_,rfl,ht1,T.dN,T.qW,ak4,B (.h .hall),dx2,_,rfl,hh,akW,_,rfl,_,rfl,?_⟩
     refine ⟨fun x => B (.h x),m,S.pg,b,l,d,rfl,T1.hl,hb1,hlp,hlg,(I.pn _ hlp).rw,by have := z1 l.pg; lia,?_⟩
     intro pl A' vs H2 hpl HA2 hf2 mv nl eh hl2 rp2
     obtain ⟨T2,f2,tv2⟩ := T1.hall HA2 hf2 mv eh
     have hb2 := f2.tups T1 _ _ hb1
     have nl2 : ∀ x : Tb,x.ok n m→pl≠mvB B A' x := fun x hx => by
      cases x with
      | h y => exact nl y hx
      | _ => exact (T1.ne hx hpl).symm
     generalize hB2 : mvB B A' = B2 at T2 tv2 nl2
     have et : B2 .bx = B .bx := by rw [← hB2]; rfl
     have f12 := f1.trans f2 (Tv.refl _ _ _ _)
     have avK : Tv H B B2 n m := fun x hx => (tv2 x hx).imp id fun z => f1.lv _ z
     have hvl : vs.length = ((S.pg l.pg).take l.pg d l).2.length := by rw [rp2.length,List.length_map]
     have htl := ((S.pg l.pg).air l.pg d l).2
     have Zb := z1 l.pg
     generalize hz : ((S.pg l.pg).take l.pg d l).2 = zs at rp2 hvl htl hok
     rw [← et]
     refine ⟨_,rfl,pl,rfl,⟨_,cz.of hl2⟩,?_⟩
     let PV1 : Nat→St→Hp→Prop := fun i σ' H' => (∃ o1 o2,σ' = [some (.ref (B2 .bx)),some (.int d),some (.ref b),some (.ref pl),o1,o2])∧i≤vs.length∧cF (c4 t) H' B2 n m { S with up := bO S.up d r,pg := bO S.pg l.pg ((S.pg l.pg).take l.pg d l).1,dn := post S.dn (zs.take i) } k∧TF H2 H' B2 n m
     refine J2 (xs := vs) PV1 ?_ ?_ ?_ ?_
     ·refine ⟨⟨_,_,rfl⟩,Nat.zero_le _,?_,TF.refl _ _ _ _⟩
      simpa [post] using T2
     ·rintro i σ' H' _ ⟨_,_,_,f'⟩
      exact cz.of (f'.kp _ _ hl2 nl2)
     ·rintro i y σ' H' hy ⟨⟨o1,o2,rfl⟩,hi,T',f'⟩
      have hi' : i < vs.length := (List.getElem?_eq_some_iff.mp hy).1
      obtain ⟨q,hq,rq⟩ := aaV (rp2.aU (f'.tups T2) (cW _)) hy
      have hqm : q∈zs := List.mem_of_getElem? hq
      have hqn : q.1 < n := (hok q hqm).1
      obtain ⟨qd,ql⟩ := q
      simp only [pairD,Rep,aG] at rq
      obtain ⟨c,us',rfl,hc,_,_,rfl,rfl,lv,_,rfl,rlv,rfl⟩ := rq
      have htk : zs.take (i + 1) = zs.take i ++ [(qd,ql)] := by rw [List.take_add_one,hq]; rfl
      refine ⟨c,_,rfl,dq.of hc,rfl,_,_,rfl,_,_,rfl,rfl,?_⟩
      obtain ⟨dx3,ht3⟩ := T'.ob
      obtain ⟨dv,d1,d2⟩ := T'.dn qd hqn
      have hdl : dv.length < sizeLine := by
       rw [d2.length,List.length_map]
       show (post S.dn (zs.take i) qd).length < _
       have h1 := Kf S.dn (zs.take i) qd
       have h2 := z2 qd
       have h3 : (zs.take i).length≤zs.length := by rw [List.length_take]; lia
       lia
      refine ⟨_,rfl,B2 .bx,_,dx3,_,_,rfl,ht3,T.dN,T.gG,aaL,_,rfl,B2 .downs,_,_,_,rfl,rfl,cz.of T'.os,bK hqn,.inl ⟨rfl,_,cz.of d1⟩,_,rfl,B2 (.dn qd),dv,_,rfl,rfl,d1,hdl,?_⟩
      have rp3 : aG H' (dv ++ [lv]) ((post S.dn (zs.take i) qd ++ [ql]).map Let.d) := by
       rw [List.map_append]
       exact aG.snoc d2 rlv
      have T4 := T'.ajp hqn rp3
      refine ⟨⟨_,_,rfl⟩,by lia,?_,f'.trans (TF.wr (x := .dn qd) hqn) (Tv.refl _ _ _ _)⟩
      rw [htk,aaI]
      exact T4
     ·rintro σ' H' ⟨⟨o1,o2,rfl⟩,_,T',f'⟩
      rw [hvl,List.take_length] at T'
      refine ⟨_,rfl,?_⟩
      refine k2 l r e b B2 H' ?_ (f12.trans f' avK) avK et (f'.tups T2 _ _ hb2)
      unfold TS.agW
      rw [hz]
      exact T'
end
end iz
namespace iz
open PySem L2
def xOf (nd np wt nc nl : Addr) (s : Str) : Addr := if s = "no desk" then nd else if s = "no page" then np else if s = "waiting" then wt else if s = "no copy" then nc else nl
section
variable {nd np wt nc nl : Addr}
theorem alX : xOf nd np wt nc nl "no desk" = nd := by kernel_rfl
theorem alY : xOf nd np wt nc nl "no page" = np := by kernel_rfl
theorem alZ : xOf nd np wt nc nl "waiting" = wt := by kernel_rfl
theorem al0 : xOf nd np wt nc nl "no copy" = nc := by kernel_rfl
theorem ahp : xOf nd np wt nc nl "no letter" = nl := by kernel_rfl
end
def asl (c : C4) (X : Str→Addr) : Sp := fun vs H Q E => ∃ B n m S k a x se,∃ tt : Nat,vs = [.ref (B .bx),.ref a]∧cF c H B n m S k∧H a = some (.tup (cA.vs x))∧jV n m S∧Bd tt S se∧tt≤1500∧k≤800000∧
 (oX n m S x = ""→∀ v B' H',cF c H' B' n m (S.step n m x).1 (k + 2)→TF H H' B n m→Tv H B B' n m→B' .bx = B .bx→Rep H' v (S.step n m x).2→Q v H')∧
 ∀ s,oX n m S x = s→s≠""→∀ H',bZ H H'→E (.ref (X s)) none H'
section
variable {n m d : Nat} {S : TS} (h1 : inR (d : Int) n)
include h1
theorem aiP : oX n m S (.up d) = bif (S.up d).isEmpty then ("no letter" : Str) else "" := by show (if inR (d : Int) n then _ else _) = _; rw [if_pos h1]; rfl
theorem aaW : oX n m S (.down d) = bif (S.dn d).isEmpty then ("no letter" : Str) else "" := by show (if inR (d : Int) n then _ else _) = _; rw [if_pos h1]; rfl
theorem aaX {p : Int} (h2 : inR p m) : oX n m S (.rest d p) = bif decide ((S.ds d).rt p = .no) then ("no copy" : Str) else "" := by show (if inR (d : Int) n then (if inR p m then _ else _) else _) = _; rw [if_pos h1,if_pos h2]; rfl
theorem ajH {p : Int} (h2 : inR p m) : oX n m S (.look d p) = bif (S.ds d).ws.isSome then ("waiting" : Str) else "" := by show (if inR (d : Int) n then (if inR p m then _ else _) else _) = _; rw [if_pos h1,if_pos h2]; rfl
theorem al1 {p y : Int} (h2 : inR p m) : oX n m S (.put d p y) = bif (S.ds d).ws.isSome then ("waiting" : Str) else "" := by show (if inR (d : Int) n then (if inR p m then _ else _) else _) = _; rw [if_pos h1,if_pos h2]; rfl
theorem aiQ {q : W} (h2 : inR q.pg m) : oX n m S (wd d q) = bif (S.ds d).ws.isSome then ("waiting" : Str) else "" := by
 cases q with
 | look p => exact ajH h1 h2
 | put p y => exact al1 h1 h2
theorem aoC {p : Int} {x : cA} (h2 : ¬ inR p m) (hx : x = .look d p∨(∃ y,x = .put d p y)∨x = .rest d p) : oX n m S x = "no page" := by
 rcases hx with rfl | ⟨y,rfl⟩ | rfl <;> (show (if inR (d : Int) n then (if inR p m then _ else _) else _) = _; rw [if_pos h1,if_neg h2])
end
theorem al3 (S : DS) (w : W) : aiO S w = if S.ok w then aaU S w else .s "waits" := by cases w <;> rfl
section
variable {P : Program} {w : World} {K : PySem.W.Frag} {mg : Str→Option Value} {base : Heap} {t : JV}
abbrev xT (t : JV) : Str→Addr := xOf t.aZ t.aW t.aK t.aV t.aH
theorem Sy (T : Txt K w mg t) : cZ P w K mg base (CX1 P w) 7 t.eN t.qw ["self","deed"] (asl (c4 t) (xT t)) := by
 refine T.Wa.okX kJ (fun vs H Q E h => ?_) (fun cdv A outer s H vs Q E hr h => ?_)
 ·obtain ⟨B,n,m,S,k,a,x,se,tt,rfl,_⟩ := h; rfl
 ·obtain ⟨B,n,m,S,k,a,x,se,tt,rfl,TA,ha,I,bd,ht0,hk,k1,k2⟩ := h
  have n1 : ("no desk" : Str)≠"" := by decide +kernel
  have n2 : ("no page" : Str)≠"" := by decide +kernel
  have n3 : ("no letter" : Str)≠"" := by decide +kernel
  have n4 : ("no copy" : Str)≠"" := by decide +kernel
  have n5 : ("waiting" : Str)≠"" := by decide +kernel
  have hbt := apy ht0
  obtain ⟨dx,ht⟩ := TA.ob
  have hrow := bd.row
  refine ⟨_,(ak (bu (i := 2) kJ.nd rfl (Or.inl rfl) (aL bw (pv 1) az (fun _ _ => rfl)))
   (ak (bu (i := 3) kJ.nd rfl (Or.inl rfl) (aL bw (pv 1) az (fun _ _ => rfl)))
   (ak (bM (cC (pv 0) T.dN T.Ik (Iz T) (hr.mono (by decide) : bR 1 _) T.Ky .nil z9 (aa (pv 3) ao)))
   (ak (cu (aR cO (pv 2) aC (bf _)) (aB (bj (cC (pv 0) T.dN T.O7 (Pj T) (hr.mono (by decide) : bR 6 _) T.Sg .nil z9 (aa (pv 3) ao)))) bB)
   (ak (cu (aR cO (pv 2) aC (bf _)) (aB (bj (cC (pv 0) T.dN T.Im (IV T) (hr.mono (by decide) : bR 6 _) T.KH .nil z9 (aa (pv 3) ao)))) bB)
   (ak (bu (i := 4) kJ.nd rfl (Or.inl rfl) (aL bw (pv 1) az (fun _ _ => rfl)))
   (ak (bM (cC (pv 0) T.dN T.Il (IK T) (hr.mono (by decide) : bR 1 _) T.KC .nil z9 (aa (pv 4) ao)))
   (ak (cu (aR cO (pv 2) aC (bf _)) (aB (bj (cC (pv 0) T.dN T.R9 (Sx T) (hr.mono (by decide) : bR 4 _) T.Wg .nil z9 (aa (pv 3) (aa (pv 4) ao))))) bB)
   (ak (cu (aR cO (pv 2) aC (bf _)) (aB (bj (cC (pv 0) T.dN T.R8 (Sw T) (hr.mono (by decide) : bR 4 _) T.Wd .nil z9 (aa (pv 3) (aa (pv 4) ao))))) bB)
   (aB (bj (cC (pv 0) T.dN T.We (WX T) (hr.mono (by decide) : bR 4 _) T.Y6 .nil z9 (aa (pv 3) (aa (pv 4) (aa (aL bw (pv 1) az (fun _ _ => rfl)) ao))))))))))))))),?_⟩
  try dsimp only [du,Cx.j6]
  show let Z1 : L2.TS := _; let Z2 : L2.TS := _; let Z3 : L2.TS := _; let Z4 : L2.TS := _; let Z5 : L2.TS := cY _ Z4 bJ; let Z6 : L2.TS := _; let Z7 : L2.TS := cY _ Z6 bJ; let Z8 : L2.TS := _; let Z9 : L2.TS := _; let Am : L2.TS := _; let Lb : L2.TS := cY _ Am bJ; let Ld : L2.TS := _; let Q0 : L2.TS := cY _ Ld bJ; let Q3 : L2.TS := _; let D0 : Ends := _; (aQ Z1 (aQ Z2 (aQ Z3 (aQ Z5 (aQ Z7 (aQ Z8 (aQ Z9 (aQ Lb (aQ Q0 (Q3)))))))))) D0 _ _
  intro Z1 Z2 Z3 Z4 Z5 Z6 Z7 Z8 Z9 Am Lb Ld Q0 Q3 D0
  refine zt rfl (dq.of ha) (cA.at0 x) ?_
  refine zt rfl (dq.of ha) (cA.at1 x) ?_
  refine ⟨_,rfl,B .bx,dx,_,rfl,ht,aq4,_,rfl,B,n,m,S,k,x.dk,rfl,TA,fun hin => ?_,fun hn => ?_⟩
  ·obtain ⟨d,hd⟩ : ∃ d : Nat,x.dk = (d : Int) := ⟨x.dk.toNat,by unfold inR at hin; lia⟩
   have hdn : d < n := by unfold inR at hin; lia
   have SJ : inR (d : Int) n := by rw [← hd]; exact hin
   have hup := bd.up d
   rw [hd]
   have dJ : ∀ (wq : W) (p : Nat),x = wd d wq→wq.pg = (p : Int)→p < m→ash (c4 t) t.aK H B n m S k d p wq Q E := fun wq p ex ew hp => by
    subst ex
    have h2 : inR wq.pg m := by rw [ew]; exact ⟨by lia,by lia⟩
    refine ⟨fun h0 v H' T' f' r' => ?_,fun h0 H' s' => ?_⟩
    ·have st := (aiK hdn hp ew h0).1
     refine k1 ?_ v B H' ?_ f' (Tv.refl _ _ _ _) rfl ?_
     ·rw [aiQ SJ h2,h0]; rfl
     ·rw [st]; exact T'
     ·rw [st,← al3]; exact r'
    ·have := k2 "waiting" (by
      obtain ⟨w',hw'⟩ := Option.ne_none_iff_exists'.mp h0
      rw [aiQ SJ h2,hw']; rfl) n5 H' s'
     rw [show xT t "waiting" = t.aK from alZ] at this
     exact this
   have ahq : ∀ p : Int,¬ inR p m→(x = .look d p∨(∃ y,x = .put d p y)∨x = .rest d p)→E (.ref t.aW) none H := fun p hp hx => by
    have := k2 "no page" (aoC SJ hp hx) n2 H (bZ.refl _)
    rw [show xT t "no page" = t.aW from alY] at this
    exact this
   refine ⟨_,rfl,rfl,_,rfl,?_⟩
   cases x with
   | up d' =>
     have ed : d' = (d : Int) := hd
     subst ed
     refine bF fu ?_
     refine ⟨_,rfl,B .bx,dx,_,rfl,ht,aq9,_,rfl,B,n,m,S,k,d,rfl,TA,hdn,I,fun p => by have := bd.mu p; lia,fun e => by have := bd.dn e; lia,fun e => ?_,fun l r e b B' H' T' f' tv' et' hb' => ?_⟩
     ·have := k2 "no letter" (by rw [aiP SJ,e]; rfl) n3 H (bZ.refl _)
      rw [show xT t "no letter" = t.aH from ahp] at this
      exact this
     ·have st : S.step n m (.up d) = (S.agW d l r,l.d) := by simp only [TS.step]; rw [if_pos SJ,Int.toNat_natCast]; unfold TS.upD; rw [e]
      refine k1 (by rw [aiP SJ,e]; rfl) _ B' H' ?_ f' tv' et' ?_
      ·rw [st]; exact T'.more (by lia)
      ·rw [st]; exact Wx hb'
   | down d' =>
     have ed : d' = (d : Int) := hd
     subst ed
     refine aO (c7 (a := "down") (b := "up") (by decide +kernel)) ?_
     refine ⟨_,rfl,rfl,_,rfl,?_⟩
     refine bF fu ?_
     refine ⟨_,rfl,B .bx,dx,_,rfl,ht,ara,_,rfl,B,n,m,S,k,d,rfl,TA,hdn,I,by lia,by lia,hk,fun e => ?_,fun l r e b H' T' f' hb' => ?_⟩
     ·have := k2 "no letter" (by rw [aaW SJ,e]; rfl) n3 H (bZ.refl _)
      rw [show xT t "no letter" = t.aH from ahp] at this
      exact this
     ·have st : S.step n m (.down d) = (S.RV d l r,l.d) := by simp only [TS.step]; rw [if_pos SJ,Int.toNat_natCast]; unfold TS.QM; rw [e]
      refine k1 (by rw [aaW SJ,e]; rfl) _ B H' ?_ f' (Tv.refl _ _ _ _) rfl ?_
      ·rw [st]; exact T'
      ·rw [st]; exact aiJ hb'
   | rest d' p =>
     have ed : d' = (d : Int) := hd
     subst ed
     refine aO (c7 (a := "rest") (b := "up") (by decide +kernel)) ?_
     refine ⟨_,rfl,rfl,_,rfl,?_⟩
     refine aO (c7 (a := "rest") (b := "down") (by decide +kernel)) ?_
     refine zt rfl (dq.of ha) rfl ?_
     refine ⟨_,rfl,B .bx,dx,_,rfl,ht,ag5,_,rfl,B,n,m,S,k,p,rfl,TA,fun hp => ?_,fun hp => ahq p hp (.inr (.inr rfl))⟩
     obtain ⟨pn,rfl⟩ : ∃ q : Nat,p = (q : Int) := ⟨p.toNat,by unfold inR at hp; lia⟩
     refine ⟨_,rfl,rfl,_,rfl,?_⟩
     refine bF fu ?_
     refine ⟨_,rfl,B .bx,dx,_,rfl,ht,aq8,_,rfl,_,rfl,B,n,m,S,k,d,pn,rfl,TA,hdn,by lia,hk,fun e H' T' f' => ?_,fun e => ?_⟩
     ·have st : S.step n m (.rest d pn) = (S.vH d pn,.s "done") := by simp only [TS.step]; rw [if_pos SJ,if_pos hp,Int.toNat_natCast,if_neg e,Int.toNat_natCast]
      refine k1 (by rw [aaX SJ hp,decide_eq_false e]; rfl) _ B H' ?_ f' (Tv.refl _ _ _ _) rfl ?_
      ·rw [st]; exact T'
      ·rw [st]; simp only [Rep]
     ·have := k2 "no copy" (by rw [aaX SJ hp,decide_eq_true e]; rfl) n4 H (bZ.refl _)
      rw [show xT t "no copy" = t.aV from al0] at this
      exact this
   | look d' p =>
     have ed : d' = (d : Int) := hd
     subst ed
     refine aO (c7 (a := "look") (b := "up") (by decide +kernel)) ?_
     refine ⟨_,rfl,rfl,_,rfl,?_⟩
     refine aO (c7 (a := "look") (b := "down") (by decide +kernel)) ?_
     refine zt rfl (dq.of ha) rfl ?_
     refine ⟨_,rfl,B .bx,dx,_,rfl,ht,ag5,_,rfl,B,n,m,S,k,p,rfl,TA,fun hp => ?_,fun hp => ahq p hp (.inl rfl)⟩
     obtain ⟨pn,rfl⟩ : ∃ q : Nat,p = (q : Int) := ⟨p.toNat,by unfold inR at hp; lia⟩
     refine ⟨_,rfl,rfl,_,rfl,?_⟩
     refine aO (c7 (a := "look") (b := "rest") (by decide +kernel)) ?_
     refine ⟨_,rfl,rfl,_,rfl,?_⟩
     refine bF fu ?_
     exact ⟨_,rfl,B .bx,dx,_,rfl,ht,aq6,_,rfl,_,rfl,B,n,m,S,k,d,pn,rfl,TA,hdn,by lia,by lia,hk,dJ (.look pn) pn rfl rfl (by unfold inR at hp; lia)⟩
   | put d' p y =>
     have ed : d' = (d : Int) := hd
     subst ed
     refine aO (c7 (a := "put") (b := "up") (by decide +kernel)) ?_
     refine ⟨_,rfl,rfl,_,rfl,?_⟩
     refine aO (c7 (a := "put") (b := "down") (by decide +kernel)) ?_
     refine zt rfl (dq.of ha) rfl ?_
     refine ⟨_,rfl,B .bx,dx,_,rfl,ht,ag5,_,rfl,B,n,m,S,k,p,rfl,TA,fun hp => ?_,fun hp => ahq p hp (.inr (.inl ⟨y,rfl⟩))⟩
     obtain ⟨pn,rfl⟩ : ∃ q : Nat,p = (q : Int) := ⟨p.toNat,by unfold inR at hp; lia⟩
     refine ⟨_,rfl,rfl,_,rfl,?_⟩
     refine aO (c7 (a := "put") (b := "rest") (by decide +kernel)) ?_
     refine ⟨_,rfl,rfl,_,rfl,?_⟩
     refine aO (c7 (a := "put") (b := "look") (by decide +kernel)) ?_
     exact ⟨_,rfl,B .bx,dx,_,rfl,ht,aq7,_,rfl,_,rfl,zt rfl (dq.of ha) rfl ⟨B,n,m,S,k,d,pn,y,rfl,TA,hdn,by lia,by lia,hk,dJ (.put pn y) pn rfl rfl (by unfold inR at hp; lia)⟩⟩
  ·have := k2 "no desk" (by unfold oX; rw [if_neg hn]) n1 H (bZ.refl _)
   rw [show xT t "no desk" = t.aZ from alX] at this
   exact this
end
end iz
namespace iz
open PySem L2
structure Kp (p : Addr) (H H' : Hp) : Prop where
 kp : ∀ b o,H b = some o→b≠p→H' b = some o
 lv : Lv H H'
theorem Kp.trans {p : Addr} {H H1 H2 : Hp} (x : Kp p H H1) (y : Kp p H1 H2) : Kp p H H2 := ⟨fun b o h n => y.kp b o (x.kp b o h n) n,x.lv.trans y.lv⟩
theorem Kp.same {p : Addr} {H H1 : Hp} (s : bZ H H1) : Kp p H H1 := ⟨fun b o h _ => s b o h,Lv.same s⟩
theorem Kp.upd {p : Addr} {H : Hp} {o : HO} : Kp p H (upd H p o) := ⟨fun b u h n => by rw [aq n]; exact h,Lv.upd⟩
theorem Kp.tups {p : Addr} {H H1 : Hp} (k : Kp p H H1) {o : HO} (hp : H p = some o) (ho : ∀ xs,o≠.tup xs) : bY H H1 := fun b xs e => k.kp b _ e fun z => by rw [z,hp] at e; exact ho xs (Option.some.inj e)
theorem ajI {ι : Type} {A : ι→Addr} {ok : ι→Prop} (rk : ι→Nat) (Hs : Nat→Hp) (mono : ∀ i,Lv (Hs i) (Hs (i + 1))) (new : ∀ x,ok x→Hs (rk x) (A x) = none) (live : ∀ x,ok x→∃ o,Hs (rk x + 1) (A x) = some o)
 (same : ∀ x y,ok x→ok y→rk x = rk y→A x = A y→x = y) : ∀ x y,ok x→ok y→A x = A y→x = y := by
 have mo : ∀ k i,Lv (Hs i) (Hs (i + k)) := fun k => by
  induction k with
  | zero => exact fun i => Lv.refl _
  | succ k ih => exact fun i => (ih i).trans (mono (i + k))
 have key : ∀ x y,ok x→ok y→rk x < rk y→A x≠A y := fun x y hx hy h e => by
  obtain ⟨o,h1⟩ := live x hx
  have h2 := mo (rk y - (rk x + 1)) (rk x + 1) (A x)
  rw [show rk x + 1 + (rk y - (rk x + 1)) = rk y by lia,e,new y hy] at h2
  rw [e,h2 rfl] at h1
  cases h1
 intro x y hx hy e
 rcases Nat.lt_trichotomy (rk x) (rk y) with h | h | h
 ·exact absurd e (key x y hx hy h)
 ·exact same x y hx hy h e
 ·exact absurd e.symm (key y x hy hx h)
def ds0 : DS := ⟨fun _ => .no,fun _ => 0,none⟩
theorem ahr {C : Addr} {n : Nat} {acc : Addr} {te : TE} {σ : St} {H1 : Hp} {Q : VK} (Pσ : St→Prop) (h0 : Pσ σ) (hacc : H1 acc = none) (hn : n≤1000)
 (hg : ∀ i σ',Pσ σ'→Pσ (σ'.set 0 (some (.int i))))
 (hel : ∀ σ' H' (R : VK),Pσ σ'→(∀ x d YD,H' x = none→H' d = none→bZ H' YD→cg C YD x d ds0 0→R (.ref x) YD)→te σ' H' R)
 (hd : ∀ (f g : Nat→Addr) H',bZ H1 H'→H' acc = some (.lst ((List.range n).map fun d => V.ref (f d)))→(∀ d,d < n→H1 (f d) = none∧H1 (g d) = none∧f d≠acc∧g d≠acc∧cg C H' (f d) (g d) ds0 0)→(∀ d e,d < n→e < n→f d = f e→d = e)→(∀ d e,d < n→e < n→g d = g e→d = e)→Q (.ref acc) H') :
 Dg (Itr 0 n) (aav 0) ajj te σ acc H1 Q := by
 have sl : sizeLine = 16777216 := by decide
 let PV1 : Nat→List V→St→Hp→Prop := fun i zs σ' H' => Pσ σ'∧bZ H1 H'∧H' acc = some (.lst zs)∧∃ f g : Nat→Addr,zs = (List.range i).map (fun d => V.ref (f d))∧(∀ d,d < i→H1 (f d) = none∧H1 (g d) = none∧f d≠acc∧g d≠acc∧cg C H' (f d) (g d) ds0 0)∧(∀ d e,d < i→e < i→f d = f e→d = e)∧∀ d e,d < i→e < i→g d = g e→d = e
 refine Ia PV1 ?_ ?_ ?_ ?_
 ·exact ⟨h0,aA hacc,aj,fun _ => 0,fun _ => 0,rfl,fun d hd => absurd hd (Nat.not_lt_zero _),fun d e hd => absurd hd (Nat.not_lt_zero _),fun d e hd => absurd hd (Nat.not_lt_zero _)⟩
 ·rintro i zs σ' H' _ ⟨_,_,h,_⟩
  exact h
 ·rintro i zs σ' H' hi ⟨hp,s',ha',f,g,rfl,hf,inj,alG⟩
  refine Kd (hel _ H' _ (hg _ _ hp) fun x d YD hx hdn s'' D'' => ?_)
  have anH := s'' _ _ ha'
  have nax : acc≠x := aF ha' hx
  have nad : acc≠d := aF ha' hdn
  have hz : ((List.range i).map fun d => V.ref (f d)).length < sizeLine := by rw [List.length_map,List.length_range]; lia
  have tl := jw (vs := (List.range i).map (fun d => V.ref (f d)) ++ [.ref x]) anH
  have live : ∀ e,e < i→(∃ o,H' (f e) = some o)∧∃ o,H' (g e) = some o := fun e he => by
   obtain ⟨⟨dx,v,e1,_⟩,⟨kvs,e2,_⟩⟩ := (hf e he).2.2.2.2
   exact ⟨⟨_,e1⟩,⟨_,e2⟩⟩
  refine wL.mk hi anH hz ⟨hg _ _ hp,fK (s'.trans s'') hacc,aj,bO f i x,bO g i d,?_,fun e he => ?_,fun a e hd he h => ?_,fun a e hd he h => ?_⟩
  ·rw [List.range_succ,List.map_append]
   congr 1
   ·refine List.map_congr_left fun d hd => ?_
    rw [bC _ _ (Nat.ne_of_lt (List.mem_range.mp hd))]
   ·show [V.ref x] = [V.ref _]; rw [aM]
  ·by_cases y : e = i
   ·subst y
    rw [aM,aM]
    exact ⟨bZ.free s' hx,bZ.free s' hdn,nax.symm,nad.symm,D''.keep tl (fun o z => by rw [aq nax.symm]; exact z) fun o z => by rw [aq nad.symm]; exact z⟩
   ·rw [bC _ _ y,bC _ _ y]
    obtain ⟨h1,h2,h3,h4,h5⟩ := hf e (by lia)
    exact ⟨h1,h2,h3,h4,(h5.same s'').keep tl (fun o z => by rw [aq h3]; exact z) fun o z => by rw [aq h4]; exact z⟩
  ·by_cases h1 : a = i
   ·by_cases h2 : e = i
    ·rw [h1,h2]
    ·rw [h1,aM,bC _ _ h2] at h
     obtain ⟨⟨o,z⟩,_⟩ := live e (by lia)
     rw [← h,hx] at z; cases z
   ·by_cases h2 : e = i
    ·rw [h2,aM,bC _ _ h1] at h
     obtain ⟨⟨o,z⟩,_⟩ := live a (by lia)
     rw [h,hx] at z; cases z
    ·rw [bC _ _ h1,bC _ _ h2] at h; exact inj a e (by lia) (by lia) h
  ·by_cases h1 : a = i
   ·by_cases h2 : e = i
    ·rw [h1,h2]
    ·rw [h1,aM,bC _ _ h2] at h
     obtain ⟨_,⟨o,z⟩⟩ := live e (by lia)
     rw [← h,hdn] at z; cases z
   ·by_cases h2 : e = i
    ·rw [h2,aM,bC _ _ h1] at h
     obtain ⟨_,⟨o,z⟩⟩ := live a (by lia)
     rw [h,hdn] at z; cases z
    ·rw [bC _ _ h1,bC _ _ h2] at h; exact alG a e (by lia) (by lia) h
 ·rintro zs σ' H' ⟨_,s',ha',f,g,rfl,hf,inj,alG⟩
  exact hd f g H' s' ha' hf inj alG
def ahs (c : C4) : Sp := fun vs H Q _ => ∃ p dx l,∃ n : Nat,∃ ns : List Int,vs = [.ref p,.int n,.ref l]∧H p = some (.ins c.T dx [])∧H l = some (.lst (ns.map V.int))∧n≤1000∧ns.length≤1000∧
 ∀ B H',B .bx = p→(∀ x : Tb,x.ok n ns.length→x≠.bx→H (B x) = none)→cF c H' B n ns.length (S0 ns) 0→Kp p H H'→Q .non H'
def rkT : Tb→Nat
 | .bx => 0
 | .h _ => 1
 | .lJ => 2
 | .dk _ => 2
 | .cp _ => 2
 | .ups => 3
 | .up _ => 3
 | .downs => 4
 | .dn _ => 4
 | .row => 5
def hsT (a b c d e f : Hp) : Nat→Hp
 | 0 => fun _ => none
 | 1 => a
 | 2 => b
 | 3 => c
 | 4 => d
 | 5 => e
 | _ => f
def bT (p : Addr) (A : Hb→Addr) (ad au aw r : Addr) (f g u o : Nat→Addr) : Tb→Addr
 | .bx => p
 | .h x => A x
 | .lJ => ad
 | .dk d => f d
 | .cp d => g d
 | .ups => au
 | .up d => u d
 | .downs => aw
 | .dn d => o d
 | .row => r
end iz
namespace iz
open PySem L2
section
variable {P : Program} {w : World} {K : PySem.W.Frag} {mg : Str→Option Value} {base : Heap} {t : JV}
theorem ab8 (T : Txt K w mg t) : cZ P w K mg base n8 5 t.il t.zb ["self","count","numbers"] (ahs (c4 t)) := by
 refine T.afb.ok abD (fun vs H Q E h => ?_) (fun cdv A outer s H vs Q E hr h => ?_)
 ·obtain ⟨p,dx,l,n,ns,rfl,_⟩ := h; rfl
 ·obtain ⟨p,dx,l,n,ns,rfl,hp,hl,hn,hns,fin⟩ := h
  have nb : -(2 ^ 62)≤((n : Nat) : Int)∧((n : Nat) : Int) < 2 ^ 62 := ⟨by lia,by lia⟩
  have nlp : l≠p := jf hl hp (by intro z; cases z)
  refine ⟨_,(ak (fZ (pv 0) (dG dO (by rfl) T.Aj PySem.boot_len (aa (pv 2) ao)) (by rfl))
   (ak (fZ (pv 0) (abk T.abH (ab2 T) (hr.mono (by decide) : bR 4 _) (by rfl) T.arf T.ae8 .nil bW (aa (pv 2) ao)) (by rfl))
   (ak (fZ (pv 0) (kE (gB (xs := ["desk"]) (ys := []) (js := []) rfl (by decide +kernel) (by decide +kernel) (by decide +kernel) (by rfl) trivial) rfl (iH (by rfl) T.mU (aa (pv 1) ao)) (fun _ _ _ _ _ => (dg (i := 0) (show List.Nodup ((["desk"] : List Str) ++ ([] : List Str) : List Str) by decide +kernel) rfl (Or.inl rfl))) (fun _ _ _ _ _ => lW) (fun _ _ _ _ _ => (akp T.abG (abX T) (hr.mono (by decide) : bR 2 _) (by rfl) T.ard T.ae0 .nil bW))) (by rfl))
   (ak (fZ (pv 0) (kE (gB (xs := ["desk"]) (ys := []) (js := []) rfl (by decide +kernel) (by decide +kernel) (by decide +kernel) (by rfl) trivial) rfl (iH (by rfl) T.mU (aa (pv 1) ao)) (fun _ _ _ _ _ => (dg (i := 0) (show List.Nodup ((["desk"] : List Str) ++ ([] : List Str) : List Str) by decide +kernel) rfl (Or.inl rfl))) (fun _ _ _ _ _ => lW) (fun _ _ _ _ _ => (bL ao))) (by rfl))
   (ak (fZ (pv 0) (kE (gB (xs := ["desk"]) (ys := []) (js := []) rfl (by decide +kernel) (by decide +kernel) (by decide +kernel) (by rfl) trivial) rfl (iH (by rfl) T.mU (aa (pv 1) ao)) (fun _ _ _ _ _ => (dg (i := 0) (show List.Nodup ((["desk"] : List Str) ++ ([] : List Str) : List Str) by decide +kernel) rfl (Or.inl rfl))) (fun _ _ _ _ _ => lW) (fun _ _ _ _ _ => (bL ao))) (by rfl))
   (aB (fZ (pv 0) (bL ao) (by rfl)))))))),?_⟩
  try dsimp only [du,Cx.j6]
  show let Z1 : L2.TS := _; let Z2 : L2.TS := _; let Z3 : L2.TS := _; let Z4 : L2.TS := _; let Z5 : L2.TS := _; let Z6 : L2.TS := _; let D0 : Ends := _; (aQ Z1 (aQ Z2 (aQ Z3 (aQ Z4 (aQ Z5 (Z6)))))) D0 _ _
  intro Z1 Z2 Z3 Z4 Z5 Z6 D0
  refine ⟨_,rfl,l,_,rfl,.inl (cz.of hl),_,rfl,p,_,dx,[],rfl,hp,T.dN,T.je,(by show 0 < 1000; decide),?_⟩
  rw [List.length_map]
  have K1 : Kp p H (upd H p (.ins t.bh dx (fW "page_count" (.int (ns.length : Nat)) []))) := Kp.upd
  have hp1 : upd H p (.ins t.bh dx (fW "page_count" (.int (ns.length : Nat)) [])) p = some (.ins t.bh dx (fW "page_count" (.int (ns.length : Nat)) [])) := aj
  generalize upd H p (.ins t.bh dx (fW "page_count" (.int (ns.length : Nat)) [])) = H1 at K1 hp1
  refine ⟨_,rfl,fun x dx' hx hdx nx => ?_⟩
  have hl1 := K1.kp _ _ hl nlp
  refine ⟨x,dx',l,ns,rfl,aj,?_,hns,fun Ah H2 eh fr HA kp2 lv2 => ⟨rfl,?_⟩⟩
  ·rw [aq (aF hl1 hx),aq (aF hl1 hdx)]; exact hl1
  have s12 : bZ H1 H2 := fun b o e => kp2 b o (by rw [aq (aF e hx),aq (aF e hdx)]; exact e) (aF e hx)
  have frA : ∀ z : Hb,z.ok ns.length→H1 (Ah z) = none := fun z hz => by
   by_cases e : z = .hall
   ·rw [e,eh]; exact hx
   ·exact Lv.upd _ (Lv.upd _ (fr z hz e))
  clear kp2 fr
  refine ⟨_,rfl,p,_,dx,_,rfl,s12 _ _ hp1,T.dN,T.qW,(by show 1 < 1000; decide),?_⟩
  generalize hf2 : fW "hall" (.ref x) (fW "page_count" (.int (ns.length : Nat)) []) = fs2
  have hl2 : fs2.length = 2 := by rw [← hf2]; rfl
  have K2 : Kp p H1 (upd H2 p (.ins t.bh dx fs2)) := (Kp.same s12).trans Kp.upd
  have K2' : Kp p H2 (upd H2 p (.ins t.bh dx fs2)) := Kp.upd
  have hp2 : upd H2 p (.ins t.bh dx fs2) p = some (.ins t.bh dx fs2) := aj
  have tm2 := K2'.tups (s12 _ _ hp1) (fun xs z => by cases z)
  have npA : ∀ z : Hb,z.ok ns.length→Ah z≠p := fun z hz e => by have := frA z hz; rw [e,hp1] at this; cases this
  have HA2 := HA.keep tm2 (fun z hz o e => K2'.kp _ o e (npA z hz))
  clear HA tm2 K2'
  generalize upd H2 p (.ins t.bh dx fs2) = H2' at K2 hp2 HA2
  refine ⟨_,rfl,(n : Int),rfl,nb.1,nb.2,fun ad had => ?_⟩
  rw [Int.toNat_natCast]
  refine ahr (C := t.bI) (fun σ' => ∃ o,σ' = [o]) ⟨_,rfl⟩ had hn (fun i σ' h => by obtain ⟨o,rfl⟩ := h; exact ⟨_,rfl⟩) (fun σ' H' R ⟨o,e⟩ hR => ?_) (fun f g H3 s3 ha3 hf3 ayj ayk => ?_)
  ·intro y dy hy hdy ny
   refine ⟨y,dy,rfl,aj,fun d YD hd'' D'' k'' => ⟨rfl,hR y d YD hy (Lv.upd _ (Lv.upd _ hd'')) (fun b o e => k'' b o ?_ (aF e hy)) D''⟩⟩
   rw [aq (aF e hy),aq (aF e hdy)]; exact e
  refine ⟨_,rfl,p,_,dx,_,rfl,s3 _ _ hp2,T.dN,T.gA,(by rw [hl2]; show 2 < 1000; decide),?_⟩
  generalize aoD : fW "desks" (.ref ad) fs2 = fs3
  have hl3 : fs3.length = 3 := by rw [← aoD,← hf2]; kernel_rfl
  have K3 : Kp p H2' (upd H3 p (.ins t.bh dx fs3)) := (Kp.same s3).trans Kp.upd
  have K3' : Kp p H3 (upd H3 p (.ins t.bh dx fs3)) := Kp.upd
  have hp3 : upd H3 p (.ins t.bh dx fs3) p = some (.ins t.bh dx fs3) := aj
  have tm3 := K3'.tups (s3 _ _ hp2) (fun xs z => by cases z)
  have np3 : ∀ b,H2' b = none→b≠p := fun b e z => by rw [z,hp2] at e; cases e
  have asn := K3'.kp _ _ ha3 (np3 _ had)
  have hD3 : ∀ d,d < n→cg t.bI (upd H3 p (.ins t.bh dx fs3)) (f d) (g d) ds0 0 := fun d hd => by
   obtain ⟨q1,q2,_,_,q5⟩ := hf3 d hd
   exact q5.keep tm3 (fun o e => K3'.kp _ o e (np3 _ q1)) fun o e => K3'.kp _ o e (np3 _ q2)
  clear ha3 tm3 K3'
  generalize upd H3 p (.ins t.bh dx fs3) = H3' at K3 hp3 asn hD3
  refine ⟨_,rfl,(n : Int),rfl,nb.1,nb.2,fun au hau => ?_⟩
  rw [Int.toNat_natCast]
  refine xO (c := []) (fun σ' => ∃ o,σ' = [o]) ⟨_,rfl⟩ hau hn (fun i σ' h => by obtain ⟨o,rfl⟩ := h; exact ⟨_,rfl⟩) (fun σ' H' R ⟨o,e⟩ s' hR => ?_) (fun u H4 s4 ha4 hf4 arN => ?_)
  ·exact ⟨CZ,fun z hz => hR z _ hz (aA hz) aj⟩
  refine ⟨_,rfl,p,_,dx,_,rfl,s4 _ _ hp3,T.dN,T.gC,(by rw [hl3]; show 3 < 1000; decide),?_⟩
  generalize aso : fW "roads_up" (.ref au) fs3 = fs4
  have hl4 : fs4.length = 4 := by rw [← aso,← aoD,← hf2]; kernel_rfl
  have K4 : Kp p H3' (upd H4 p (.ins t.bh dx fs4)) := (Kp.same s4).trans Kp.upd
  have K4' : Kp p H4 (upd H4 p (.ins t.bh dx fs4)) := Kp.upd
  have hp4 : upd H4 p (.ins t.bh dx fs4) p = some (.ins t.bh dx fs4) := aj
  have np4 : ∀ b,H3' b = none→b≠p := fun b e z => by rw [z,hp3] at e; cases e
  have asp := K4'.kp _ _ ha4 (np4 _ hau)
  have hU4 : ∀ d,d < n→upd H4 p (.ins t.bh dx fs4) (u d) = some (.lst []) := fun d hd => K4'.kp _ _ (hf4 d hd).2.2 (np4 _ (hf4 d hd).1)
  clear ha4 K4'
  generalize upd H4 p (.ins t.bh dx fs4) = H4' at K4 hp4 asp hU4
  refine ⟨_,rfl,(n : Int),rfl,nb.1,nb.2,fun aw haw => ?_⟩
  rw [Int.toNat_natCast]
  refine xO (c := []) (fun σ' => ∃ o,σ' = [o]) ⟨_,rfl⟩ haw hn (fun i σ' h => by obtain ⟨o,rfl⟩ := h; exact ⟨_,rfl⟩) (fun σ' H' R ⟨o,e⟩ s' hR => ?_) (fun o H5 s5 ha5 hf5 ayo => ?_)
  ·exact ⟨CZ,fun z hz => hR z _ hz (aA hz) aj⟩
  refine ⟨_,rfl,p,_,dx,_,rfl,s5 _ _ hp4,T.dN,T.gG,(by rw [hl4]; show 4 < 1000; decide),?_⟩
  generalize avM : fW "roads_down" (.ref aw) fs4 = fs5
  have hl5 : fs5.length = 5 := by rw [← avM,← aso,← aoD,← hf2]; kernel_rfl
  have K5 : Kp p H4' (upd H5 p (.ins t.bh dx fs5)) := (Kp.same s5).trans Kp.upd
  have K5' : Kp p H5 (upd H5 p (.ins t.bh dx fs5)) := Kp.upd
  have hp5 : upd H5 p (.ins t.bh dx fs5) p = some (.ins t.bh dx fs5) := aj
  have np5 : ∀ b,H4' b = none→b≠p := fun b e z => by rw [z,hp4] at e; cases e
  have asr := K5'.kp _ _ ha5 (np5 _ haw)
  have hO5 : ∀ d,d < n→upd H5 p (.ins t.bh dx fs5) (o d) = some (.lst []) := fun d hd => K5'.kp _ _ (hf5 d hd).2.2 (np5 _ (hf5 d hd).1)
  clear ha5 K5'
  generalize upd H5 p (.ins t.bh dx fs5) = H5' at K5 hp5 asr hO5
  refine ⟨CZ,fun r hr6 => ?_⟩
  have npr : r≠p := fun z => by rw [z,hp5] at hr6; cases hr6
  refine ⟨_,rfl,p,_,dx,_,rfl,(by rw [aq npr.symm]; exact hp5),T.dN,T.uV,(by rw [hl5]; show 5 < 1000; decide),?_⟩
  have efs : fW "row" (.ref r) fs5 = RZ ns.length x ad au aw r := by rw [← avM,← aso,← aoD,← hf2]; exact ak3
  rw [efs]
  have K6 : Kp p H5' (upd (upd H5' r (.lst [])) p (.ins t.bh dx (RZ ns.length x ad au aw r))) := (Kp.same (aA hr6)).trans Kp.upd
  have hp6 : upd (upd H5' r (.lst [])) p (.ins t.bh dx (RZ ns.length x ad au aw r)) p = some (.ins t.bh dx (RZ ns.length x ad au aw r)) := aj
  have ass : upd (upd H5' r (.lst [])) p (.ins t.bh dx (RZ ns.length x ad au aw r)) r = some (.lst []) := by rw [aq npr,aj]
  generalize upd (upd H5' r (.lst [])) p (.ins t.bh dx (RZ ns.length x ad au aw r)) = H6 at K6 hp6 ass
  have K56 := K6
  have K46 := K5.trans K56
  have K36 := K4.trans K46
  have K26 := K3.trans K36
  have nH : ∀ b,H1 b = none→H b = none := K1.lv
  have ayv := K26.tups hp2 (fun xs z => by cases z)
  have ayw := K36.tups hp3 (fun xs z => by cases z)
  refine fin (bT p Ah ad au aw r f g u o) H6 rfl (fun z hz hzn => ?_) ⟨?_,⟨dx,?_⟩,?_,?_,?_,⟨[],ass,?_⟩,fun d hd => ⟨[],?_,?_⟩,fun d hd => ⟨[],?_,?_⟩,fun d hd => ?_,?_⟩ (K1.trans (K2.trans K26))
  ·cases z with
   | bx => exact absurd rfl hzn
   | h y => exact nH _ (frA y hz)
   | lJ => exact nH _ (K2.lv _ had)
   | dk d => exact nH _ (K2.lv _ (hf3 d hz).1)
   | cp d => exact nH _ (K2.lv _ (hf3 d hz).2.1)
   | ups => exact nH _ (K2.lv _ (K3.lv _ hau))
   | up d => exact nH _ (K2.lv _ (K3.lv _ (hf4 d hz).1))
   | downs => exact nH _ (K2.lv _ (K3.lv _ (K4.lv _ haw)))
   | dn d => exact nH _ (K2.lv _ (K3.lv _ (K4.lv _ (hf5 d hz).1)))
   | row => exact nH _ (K2.lv _ (K3.lv _ (K4.lv _ (K5.lv _ hr6))))
  ·refine ajI rkT (hsT H1 H2' H3' H4' H5' H6) (fun i => ?_) (fun z hz => ?_) (fun z hz => ?_) (fun y z hy hz hrk e => ?_)
   ·match i with
    | 0 => exact fun _ _ => rfl
    | 1 => exact K2.lv
    | 2 => exact K3.lv
    | 3 => exact K4.lv
    | 4 => exact K5.lv
    | 5 => exact K6.lv
    | _ + 6 => exact Lv.refl _
   ·cases z with
    | bx => rfl
    | h y => exact frA y hz
    | lJ => exact had
    | dk d => exact (hf3 d hz).1
    | cp d => exact (hf3 d hz).2.1
    | ups => exact hau
    | up d => exact (hf4 d hz).1
    | downs => exact haw
    | dn d => exact (hf5 d hz).1
    | row => exact hr6
   ·cases z with
    | bx => exact ⟨_,hp1⟩
    | h y => obtain ⟨o',e',_⟩ := HA2.live y hz; exact ⟨o',e'⟩
    | lJ => exact ⟨_,asn⟩
    | dk d => obtain ⟨⟨dz,vz,ez,_⟩,_⟩ := hD3 d hz; exact ⟨_,ez⟩
    | cp d => obtain ⟨_,⟨kz,ez,_⟩⟩ := hD3 d hz; exact ⟨_,ez⟩
    | ups => exact ⟨_,asp⟩
    | up d => exact ⟨_,hU4 d hz⟩
    | downs => exact ⟨_,asr⟩
    | dn d => exact ⟨_,hO5 d hz⟩
    | row => exact ⟨_,ass⟩
   ·have dc : ∀ a b,a < n→b < n→f a≠g b := fun a b ha hb e => by
     obtain ⟨⟨dz,vz,ez,_⟩,_⟩ := hD3 a ha
     obtain ⟨_,⟨kz,ez2,_⟩⟩ := hD3 b hb
     rw [e,ez2] at ez; cases ez
    cases y with
    | bx => cases z <;> first | rfl | cases hrk
    | row => cases z <;> first | rfl | cases hrk
    | h a => cases z with
      | h b => rw [HA2.inj a b hy hz e]
      | _ => cases hrk
    | lJ => cases z with
      | lJ => rfl
      | dk d => exact absurd e.symm (hf3 d hz).2.2.1
      | cp d => exact absurd e.symm (hf3 d hz).2.2.2.1
      | _ => cases hrk
    | dk a => cases z with
      | lJ => exact absurd e (hf3 a hy).2.2.1
      | dk b => rw [ayj a b hy hz e]
      | cp b => exact absurd e (dc a b hy hz)
      | _ => cases hrk
    | cp a => cases z with
      | lJ => exact absurd e (hf3 a hy).2.2.2.1
      | dk b => exact absurd e.symm (dc b a hz hy)
      | cp b => rw [ayk a b hy hz e]
      | _ => cases hrk
    | ups => cases z with
      | ups => rfl
      | up b => exact absurd e.symm (hf4 b hz).2.1
      | _ => cases hrk
    | up a => cases z with
      | ups => exact absurd e (hf4 a hy).2.1
      | up b => rw [arN a b hy hz e]
      | _ => cases hrk
    | downs => cases z with
      | downs => rfl
      | dn b => exact absurd e.symm (hf5 b hz).2.1
      | _ => cases hrk
    | dn a => cases z with
      | downs => exact absurd e (hf5 a hy).2.1
      | dn b => rw [ayo a b hy hz e]
      | _ => cases hrk
  ·show H6 p = some (.ins t.bh dx (RZ ns.length (Ah .hall) ad au aw r))
   rw [eh]; exact hp6
  ·exact K36.kp _ _ asn (np3 _ had)
  ·exact K46.kp _ _ asp (np4 _ hau)
  ·exact K56.kp _ _ asr (np5 _ haw)
  ·simp only [S0,List.map_nil,aG]
  ·exact K46.kp _ _ (hU4 d hd) (np4 _ (hf4 d hd).1)
  ·simp only [S0,List.map_nil,aG]
  ·exact K56.kp _ _ (hO5 d hd) (np5 _ (hf5 d hd).1)
  ·simp only [S0,List.map_nil,aG]
  ·exact ((hD3 d hd).keep ayw (fun o e => K36.kp _ o e (np3 _ (hf3 d hd).1)) (fun o e => K36.kp _ o e (np3 _ (hf3 d hd).2.1))).congr (fun _ => rfl) (fun _ z => absurd rfl z) rfl
  ·exact HA2.keep ayv (fun z hz o e => K26.kp _ o e (npA z hz))
end
end iz
namespace iz
open PySem L2
def aoE (c : C4) : Sp := fun vs H Q _ => ∃ B n m S k a x se,∃ tt : Nat,vs = [.ref (B .bx),.ref a]∧cF c H B n m S k∧H a = some (.tup (cA.vs x))∧jV n m S∧Bd tt S se∧tt≤1500∧k≤800000∧
 ∀ v B' H',cF c H' B' n m (S.step n m x).1 (k + 2)→TF H H' B n m→Tv H B B' n m→B' .bx = B .bx→Rep H' v (S.step n m x).2→Q v H'
theorem al4 (n m : Nat) (S : TS) (x : cA) : oX n m S x = ""∨oX n m S x = "no desk"∨oX n m S x = "no page"∨oX n m S x = "waiting"∨oX n m S x = "no copy"∨oX n m S x = "no letter" := by
 unfold oX
 split
 ·cases x with
  | up d => dsimp only; cases (S.up d.toNat).isEmpty <;> simp
  | down d => dsimp only; cases (S.dn d.toNat).isEmpty <;> simp
  | rest d p =>
    dsimp only
    split
    ·cases decide ((S.ds d.toNat).rt p = .no) <;> simp
    ·simp
  | look d p =>
    dsimp only
    split
    ·cases (S.ds d.toNat).ws.isSome <;> simp
    ·simp
  | put d p y =>
    dsimp only
    split
    ·cases (S.ds d.toNat).ws.isSome <;> simp
    ·simp
 ·simp
section
variable {P : Program} {w : World} {K : PySem.W.Frag} {mg : Str→Option Value} {base : Heap} {t : JV}
theorem ab9 (T : Txt K w mg t) : cZ P w K mg base n8 8 t.iU t.zc ["town","deed"] (aoE (c4 t)) := by
 refine T.QV.ok abE (fun vs H Q E h => ?_) (fun cdv A outer s H vs Q E hr h => ?_)
 ·obtain ⟨B,n,m,S,k,a,x,se,tt,rfl,_⟩ := h; rfl
 ·obtain ⟨B,n,m,S,k,a,x,se,tt,rfl,TA,ha,I,bd,ht0,hk,fin⟩ := h
  obtain ⟨dx,ht⟩ := TA.ob
  refine ⟨_,(aB (aqv Ot (fun _ _ => (aB (bj (akF (pv 0) T.dN T.R7 (Sy T) (hr.mono (by decide) : bR 7 _) T.Wb (aa (pv 1) ao))))) (Vx Ot (by rfl) T.aeV T.V5 (fun _ => (aB (bj aC))) (Vx Ot (by rfl) T.aeW T.Kq (fun _ => (aB (bj aC))) (Vx Ot (by rfl) T.aaM T.wX (fun _ => (aB (bj aC))) (Vx Ot (by rfl) T.aeX T.wY (fun _ => (aB (bj aC))) (Vx Ot (by rfl) T.V6 T.lA (fun _ => (aB (bj aC))) aqu))))))),?_⟩
  try dsimp only [du,Cx.j6]
  refine ⟨_,rfl,B .bx,dx,_,rfl,ht,aq5,_,rfl,B,n,m,S,k,a,x,se,tt,rfl,TA,ha,I,bd,ht0,hk,fun _ v B' H' T' f' tv' et' r' => fin v B' H' T' f' tv' et' r',fun s es hs H' same => ?_⟩
  have out : Q (.str s) H' := by
   have st := (afr (n := n) (m := m) (S := S) (x := x) (by rw [es]; exact hs)).1
   rw [es] at st
   refine fin _ B H' ?_ (TF.of_same same) (Tv.refl _ _ _ _) rfl ?_
   ·rw [st]; exact (TA.same same).more (by lia)
   ·rw [st]; simp only [Rep]
  have hm := al4 n m S x
  rw [es] at hm
  rcases hm with rfl | rfl | rfl | rfl | rfl | rfl
  ·exact absurd rfl hs
  ·rw [show xT t "no desk" = t.aZ from alX]
   exact ⟨t.aZ,_,rfl,T.V5,bF (by simp) out⟩
  ·rw [show xT t "no page" = t.aW from alY]
   refine ⟨t.aW,_,rfl,T.Kq,aO ?_ ⟨t.aW,_,rfl,T.Kq,bF (by simp) out⟩⟩
   have n1 := T.oO
   have n2 := T.eU
   simp [n1,n2]
  ·rw [show xT t "waiting" = t.aK from alZ]
   refine ⟨t.aK,_,rfl,T.wX,aO ?_ ⟨t.aK,_,rfl,T.wX,aO ?_ ⟨t.aK,_,rfl,T.wX,bF (by simp) out⟩⟩⟩
   ·have n1 := T.mJ
    have n2 := T.eU
    simp [n1,n2]
   ·have n1 := T.mK
    have n2 := T.fX
    simp [n1,n2]
  ·rw [show xT t "no copy" = t.aV from al0]
   refine ⟨t.aV,_,rfl,T.wY,aO ?_ ⟨t.aV,_,rfl,T.wY,aO ?_ ⟨t.aV,_,rfl,T.wY,aO ?_ ⟨t.aV,_,rfl,T.wY,bF (by simp) out⟩⟩⟩⟩
   ·have n1 := T.oR
    have n2 := T.eU
    simp [n1,n2]
   ·have n1 := T.oU
    have n2 := T.fX
    simp [n1,n2]
   ·have n1 := T.mL
    have n2 := T.iy
    simp [n1,n2]
  ·rw [show xT t "no letter" = t.aH from ahp]
   refine ⟨t.aH,_,rfl,T.lA,aO ?_ ⟨t.aH,_,rfl,T.lA,aO ?_ ⟨t.aH,_,rfl,T.lA,aO ?_ ⟨t.aH,_,rfl,T.lA,aO ?_ ⟨t.aH,_,rfl,T.lA,bF (by simp) out⟩⟩⟩⟩⟩
   ·have n1 := T.lB
    have n2 := T.eU
    simp [n1,n2]
   ·have n1 := T.lC
    have n2 := T.fX
    simp [n1,n2]
   ·have n1 := T.jY
    have n2 := T.iy
    simp [n1,n2]
   ·have n1 := T.lD
    have n2 := T.jZ
    simp [n1,n2]
end
end iz
namespace iz
open PySem L2
def Zf (n m : Nat) (S : TS) (xs : List cA) : TS := xs.foldl (fun S x => (S.step n m x).1) S
def IW (n m : Nat) : TS→List cA→List D
 | _,[] => []
 | S,x :: xs => (S.step n m x).2 :: IW n m (S.step n m x).1 xs
theorem Pk (n m : Nat) (S : TS) (xs : List cA) (x : cA) : Zf n m S (xs ++ [x]) = ((Zf n m S xs).step n m x).1 := by unfold Zf; rw [List.foldl_append]; rfl
theorem Pn (n m : Nat) : ∀ (S : TS) (xs : List cA) (x : cA),IW n m S (xs ++ [x]) = IW n m S xs ++ [((Zf n m S xs).step n m x).2]
 | S,[],x => rfl
 | S,y :: xs,x => by
   show _ :: IW n m _ (xs ++ [x]) = _ :: (IW n m _ xs ++ _)
   rw [Pn]
   rfl
theorem aaY (S : TS) (d p : Nat) (w : W) (told : D) (h : told.flat) : (S.wish d p w told).2.flat := by
 unfold TS.wish
 split
 ·trivial
 ·dsimp only; split
  ·exact h
  ·trivial
theorem Pq (n m : Nat) (S : TS) (x : cA) : (S.step n m x).2.flat := by
 cases x with
 | up d =>
   simp only [TS.step]
   split
   ·unfold TS.upD; split
    ·trivial
    ·exact UL.flat _
   ·trivial
 | down d =>
   simp only [TS.step]
   split
   ·unfold TS.QM; split
    ·trivial
    ·exact Let.flat _
   ·trivial
 | rest d p =>
   simp only [TS.step]
   split
   ·split
    ·split <;> trivial
    ·trivial
   ·trivial
 | look d p =>
   simp only [TS.step]
   split
   ·split
    ·exact aaY _ _ _ _ _ trivial
    ·trivial
   ·trivial
 | put d p y =>
   simp only [TS.step]
   split
   ·split
    ·exact aaY _ _ _ _ _ trivial
    ·trivial
   ·trivial
theorem lN (n m : Nat) : ∀ (S : TS) (xs : List cA),D.flats (IW n m S xs)
 | S,[] => trivial
 | S,x :: xs => ⟨Pq n m S x,lN n m _ xs⟩
theorem WY {H : Hp} : ∀ {l : List cA} {vs : List V} {i : Nat} {v : V},aG H vs (l.map cA.d)→vs[i]? = some v→∃ x,l[i]? = some x∧Rep H v x.d
 | [],vs,i,v,h,hv => by simp only [List.map_nil,aG] at h; subst h; simp at hv
 | x :: l,vs,i,v,h,hv => by
   simp only [List.map_cons,aG] at h
   obtain ⟨u,us,rfl,ru,rl⟩ := h
   cases i with
   | zero => simp at hv; subst hv; exact ⟨x,rfl,ru⟩
   | succ i => simp at hv; obtain ⟨x',h1,h2⟩ := WY rl hv; exact ⟨x',by simpa using h1,h2⟩
theorem jV.run {n m : Nat} : ∀ {xs : List cA} {S : TS},jV n m S→jV n m (Zf n m S xs)
 | [],S,h => h
 | x :: xs,S,h => jV.run (xs := xs) (h.step x)
theorem Bd.run {n m : Nat} : ∀ {xs : List cA} {S : TS} {k : Nat},Bd k S []→Bd (k + xs.length) (Zf n m S xs) []
 | [],S,k,h => h
 | x :: xs,S,k,h => by
   have := Bd.run (n := n) (m := m) (xs := xs) (k := k + 1) ((h.step (n := n) (m := m) x).sent)
   rw [List.length_cons,show k + (xs.length + 1) = k + 1 + xs.length by lia]
   exact this
def ajJ : Sp := fun vs H Q _ => ∃ n : Nat,∃ ns : List Int,∃ l dl us xs,vs = [.int n,.ref l,.ref dl]∧H l = some (.lst (ns.map V.int))∧H dl = some (.lst us)∧aG H us (List.map cA.d xs)∧n≤1000∧ns.length≤1000∧xs.length≤1500∧
 ∀ r zs H',bZ H H'→H r = none→H' r = some (.lst zs)→aG H' zs (IW n ns.length (S0 ns) xs)→Q (.ref r) H'
section
variable {P : Program} {w : World} {K : PySem.W.Frag} {mg : Str→Option Value} {base : Heap} {t : JV}
theorem aht (T : Txt K w mg t) : cZ P w K mg base n8 9 t.lK t.Ih ["count","numbers","deeds"] ajJ := by
 refine T.aaN.ok V1 (fun vs H Q E h => ?_) (fun cdv A outer s H vs Q E hr h => ?_)
 ·obtain ⟨n,ns,l,dl,us,xs,rfl,_⟩ := h; rfl
 ·obtain ⟨n,ns,l,dl,us,xs,rfl,hl,hdl,rd,hn,hns,hxs,fin⟩ := h
  have sl : sizeLine = 16777216 := by decide
  refine ⟨_,(ak (bu (i := 3) V1.nd rfl (Or.inr rfl) (abk T.abI (ab8 T) (hr.mono (by decide) : bR 6 _) (by rfl) T.arh T.afc .nil bW (aa (pv 0) (aa (pv 1) ao))))
   (aB (bj (kE (gB (xs := ["deed"]) (ys := ["town"]) (js := [3]) rfl (by decide +kernel) (by decide +kernel) (by decide +kernel) (by rfl) ⟨⟨rfl,Or.inl rfl⟩,trivial⟩) rfl (ux (pv 2)) (fun _ _ _ _ _ => (dg (i := 0) (show List.Nodup ((["deed"] : List Str) ++ (["town"] : List Str) : List Str) by decide +kernel) rfl (Or.inl rfl))) (fun _ _ _ _ _ => lW) (fun _ _ _ _ _ => (cG (ab9 T) (hr.mono (by decide) : bR 8 _) (by rfl) T.afh T.QV.kp T.afg .nil bW (aa (pv 1) (aa (pv 0) ao)))))))),?_⟩
  try dsimp only [du,Cx.j6]
  show let Z1 : L2.TS := _; let Z2 : L2.TS := _; let D0 : Ends := _; (aQ Z1 (Z2)) D0 _ _
  intro Z1 Z2 D0
  refine ⟨_,rfl,_,rfl,fun p dx hp hdx nx => ?_⟩
  refine ⟨p,dx,l,n,ns,rfl,aj,?_,hn,hns,fun B H1 eB fr T1 k1 => ⟨rfl,?_⟩⟩
  ·rw [aq (aF hl hp),aq (aF hl hdx)]; exact hl
  have s1 : bZ H H1 := fun b o e => k1.kp b o (by rw [aq (aF e hp),aq (aF e hdx)]; exact e) (aF e hp)
  have fr1 : ∀ x : Tb,x.ok n ns.length→H (B x) = none := fun x hx => by
   by_cases e : x = .bx
   ·rw [e,eB]; exact hp
   ·exact Lv.upd _ (Lv.upd _ (fr x hx e))
  clear fr k1
  have hul : us.length = xs.length := by rw [rd.length,List.length_map]
  refine ⟨_,rfl,dl,rfl,⟨_,cz.of (s1 _ _ hdl)⟩,fun acc hacc => ?_⟩
  let PV1 : Nat→List V→St→Hp→Prop := fun i zs σ' H' => (∃ o,σ' = [o,some (.ref p)])∧bZ H H'∧H' acc = some (.lst zs)∧zs.length = i∧aG H' zs (IW n ns.length (S0 ns) (xs.take i))∧∃ B' : Tb→Addr,B' .bx = p∧cF (c4 t) H' B' n ns.length (Zf n ns.length (S0 ns) (xs.take i)) (2 * i)∧(∀ x : Tb,x.ok n ns.length→H (B' x) = none∧B' x≠acc)
  refine Gk (xs := us) PV1 ?_ ?_ ?_ ?_
  ·refine ⟨⟨_,rfl⟩,s1.trans (aA hacc),aj,rfl,by simp [IW,aG],B,eB,T1.new hacc,fun x hx => ⟨fr1 x hx,T1.ne hx hacc⟩⟩
  ·rintro i zs σ' H' _ ⟨_,s',ha',_⟩
   exact ⟨cz.of (s' _ _ hdl),ha'⟩
  ·rintro i y zs σ' H' hy hi ⟨⟨o,rfl⟩,s',ha',hz,rp,B',eB',T',fr'⟩
   obtain ⟨x,hx,rx⟩ := WY (rd.aU (aY s') (bU cA.flat _)) hy
   obtain ⟨a,rfl,hxa⟩ := afC rx
   have htk : xs.take (i + 1) = xs.take i ++ [x] := by rw [List.take_add_one,hx]; rfl
   refine Kd ?_
   have hti : (xs.take i).length≤1500 := by rw [List.length_take]; lia
   have bd := Bd.run (n := n) (m := ns.length) (xs := xs.take i) (Bd.start ns)
   rw [Nat.zero_add] at bd
   refine ⟨_,rfl,_,rfl,B',n,ns.length,_,2 * i,a,x,[],(xs.take i).length,(by rw [eB']; rfl),T',hxa,jV.run (jV.start n ns),bd,hti,by lia,fun v B2 H2 T2 f2 tv2 et2 r2 => ?_⟩
   have ha2 : H2 acc = some (.lst zs) := f2.kp _ _ ha' fun z hz e => (fr' z hz).2 e.symm
   refine wL.mk hi ha2 (by lia) ?_
   have s2 : bZ H H2 := fun b u e => f2.kp _ _ (s' b u e) fun z hz e2 => by rw [e2,(fr' z hz).1] at e; cases e
   have fr2 : ∀ z : Tb,z.ok n ns.length→H (B2 z) = none∧B2 z≠acc := fun z hz => by
    rcases tv2 z hz with e | e
    ·rw [e]; exact fr' z hz
    ·exact ⟨Lv.same s' _ e,fun e2 => by rw [e2,ha'] at e; cases e⟩
   have tl := jw (vs := zs ++ [v]) ha2
   refine ⟨⟨_,rfl⟩,fK s2 (Lv.same s1 _ hacc),aj,by rw [List.length_append,hz]; rfl,?_,B2,et2.trans eB',?_,fr2⟩
   ·rw [htk,Pn]
    exact aG.snoc ((rp.aU (f2.tups T') (lN _ _ _ _)).aU tl (lN _ _ _ _)) (r2.aU tl (Pq _ _ _ _))
   ·rw [htk,Pk,show 2 * (i + 1) = 2 * i + 2 by lia]
    exact T2.keep tl fun z hz u e => by rw [aq (fr2 z hz).2]; exact e
  ·rintro zs σ' H' ⟨_,s',ha',hz,rp,_⟩
   rw [hul,List.take_length] at rp
   exact fin acc zs H' s' (Lv.same s1 _ hacc) ha' rp
end
end iz
namespace iz
open PySem L2
def aiR (K : PySem.W.Frag) : Sp := fun vs H Q _ => ∃ (a : Addr) (ns : List Int),vs = [.ref a]∧cz K H a (ns.map V.int)∧ns.length≤63∧∀ H',Q (.bl true) H'
theorem D.mY (x : Str) : (D.s x).size≤20 := by simp [D.size]
theorem D.asu (x : Int) : (D.i x).size≤20 := by simp [D.size]
theorem UL.size (l : UL) : l.d.size≤20 := by
 cases l with
 | ask p r => simp [UL.d,D.size,D.sizes]
 | ans p o => cases o <;> simp [UL.d,oD,D.size,D.sizes]
 | gave p n => simp [UL.d,D.size,D.sizes]
theorem Let.size (l : Let) : l.d.size≤20 := by cases l <;> simp [Let.d,D.size,D.sizes]
theorem aaZ (S : TS) (d p : Nat) (w : W) (told : D) (h : told.size≤20) : (S.wish d p w told).2.size≤20 := by
 unfold TS.wish
 split
 ·exact D.mY _
 ·dsimp only; split
  ·exact h
  ·exact D.mY _
theorem step_size (n m : Nat) (S : TS) (x : cA) : (S.step n m x).2.size≤20 := by
 cases x with
 | up d =>
   simp only [TS.step]
   split
   ·unfold TS.upD; split
    ·exact D.mY _
    ·exact UL.size _
   ·exact D.mY _
 | down d =>
   simp only [TS.step]
   split
   ·unfold TS.QM; split
    ·exact D.mY _
    ·exact Let.size _
   ·exact D.mY _
 | rest d p =>
   simp only [TS.step]
   split
   ·split
    ·split <;> exact D.mY _
    ·exact D.mY _
   ·exact D.mY _
 | look d p =>
   simp only [TS.step]
   split
   ·split
    ·exact aaZ _ _ _ _ _ (D.asu _)
    ·exact D.mY _
   ·exact D.mY _
 | put d p y =>
   simp only [TS.step]
   split
   ·split
    ·exact aaZ _ _ _ _ _ (D.mY _)
    ·exact D.mY _
   ·exact D.mY _
theorem aa0 (n m : Nat) : ∀ (S : TS) (xs : List cA),D.sizes (IW n m S xs)≤21 * xs.length
 | S,[] => by simp [IW,D.sizes]
 | S,x :: xs => by
   have h1 := step_size n m S x
   have h2 := aa0 n m (S.step n m x).1 xs
   simp only [IW,D.sizes,List.length_cons]
   lia
theorem cA.size (x : cA) : x.d.size≤20 := by cases x <;> simp [cA.d,D.size,D.sizes]
theorem W0 : ∀ xs : List cA,D.sizes (xs.map cA.d)≤21 * xs.length
 | [] => by simp [D.sizes]
 | x :: xs => by
   have h1 := x.size
   have h2 := W0 xs
   simp only [List.map_cons,D.sizes,List.length_cons]
   lia
section
variable {P : Program} {w : World} {K : PySem.W.Frag} {mg : Str→Option Value} {base : Heap} {t : JV}
theorem asv (T : Txt K w mg t) : cZ P w K mg base n8 10 t.V4 t.ag9 ["_law_script"] (aiR K) := by
 refine T.aul.ok qm (fun vs H Q E h => ?_) (fun cdv A outer s H vs Q E hr h => ?_)
 ·obtain ⟨a,ns,rfl,_⟩ := h; rfl
 ·obtain ⟨a,ns,rfl,ha,hl,q⟩ := h
  have hu := j7 hr
  refine' ⟨_,?sr,?_⟩
  case' sr => refine' ak ?WK ?Iu
  case' Iu => refine' ak ?WL ?Iv
  case' Iv => refine' ak ?WM ?Iw
  case' Iw => refine' ak ?WN ?WQ
  case' WQ => refine' ak ?afv ?WR
  case' WR => refine' ak ?afw ?WT
  case' WT => refine' ak ?afx ?ahk
  case' ahk => refine' ak ?alI ?ahl
  case' ahl => refine' ak ?alJ ?ahm
  case' ahm => refine' ak ?alK ?ahn
  case' ahn => refine' ak ?aho ?aoF
  case' aoF => refine' ak ?asw ?aoG
  case' aoG => refine' aB ?asx
  case' WK => exact (bu (i := 1) qm.nd rfl (Or.inl rfl) (cG (Ve T) (hr.mono (by decide) : bR 1 _) (by rfl) T.abR T.Wh.kp T.abQ .nil bW (aa (pv 0) (aa az ao))))
  case' WL => exact (bu (i := 2) qm.nd rfl (Or.inl rfl) (aL bA (bL (aa (bD jB az (bD fB (pv 1) az)) (aa (bD jB az (bD fB (bD ju (pv 1) az) az)) ao))) (iI lE (by rfl) T.KZ PyProof.Rows.Boot.«int» (aa (lR cO (bD fB (bD ju (pv 1) az) az) az (bf _)) ao)) (fun _ _ => rfl)))
  case' WM => exact (bu (i := 3) qm.nd rfl (Or.inl rfl) (aL bA (bL (aa (bD jB az (bD fB (bD ju (pv 1) az) az)) (aa (bD jB az (bD fB (bD ju (pv 1) az) az)) ao))) (iI lE (by rfl) T.KZ PyProof.Rows.Boot.«int» (aa (lR cO (bD fB (bD ju (pv 1) az) az) az (bf _)) ao)) (fun _ _ => rfl)))
  case' WN => exact (bu (i := 4) qm.nd rfl (Or.inl rfl) (cG (Sv T) (hr.mono (by decide) : bR 1 _) (by rfl) T.Wq T.Eh.kp T.Wo .nil bW (aa (cG (Ve T) (hr.mono (by decide) : bR 1 _) (by rfl) T.abR T.Wh.kp T.abQ .nil bW (aa (pv 0) (aa az ao))) (aa (pv 3) ao))))
  case' afv => exact (bu (i := 5) qm.nd rfl (Or.inl rfl) (cG (Ze T) (hr.mono (by decide) : bR 1 _) (by rfl) T.abV T.KY.kp T.abU .nil bW (aa (aep amW (pv 0) (ah5 az) ah4) (aa (pv 2) (aa (pv 3) ao)))))
  case' afw => exact (cu (aR cO (bD fB (bD ju (cG (Ve T) (hr.mono (by decide) : bR 1 _) (by rfl) T.abR T.Wh.kp T.abQ .nil bW (aa (pv 0) (aa az ao))) az) az) az (bf _)) (aB (bu (i := 5) qm.nd rfl (Or.inl rfl) (bD lU (cG (Ph T) (hr.mono (by decide) : bR 1 _) (by rfl) T.Sq T.Ai.kp T.Sh .nil bW (aa (pv 2) (aa (cG (Ve T) (hr.mono (by decide) : bR 1 _) (by rfl) T.abR T.Wh.kp T.abQ .nil bW (aa (pv 0) (aa az ao))) ao))) (pv 5)))) bB)
  case' afx => exact (bu (i := 6) qm.nd rfl (Or.inl rfl) (iI yw (by rfl) T.Ip PyProof.Rows.Boot.«list» (aa (pv 4) ao)))
  case' alI => exact (bu (i := 7) qm.nd rfl (Or.inl rfl) (iI yw (by rfl) T.Ip PyProof.Rows.Boot.«list» (aa (pv 5) ao)))
  case' alJ => exact (bu (i := 8) qm.nd rfl (Or.inl rfl) (cG (aht T) (hr.mono (by decide) : bR 9 _) (by rfl) T.ajw T.aaN.kp T.ajv .nil bW (aa (pv 2) (aa (pv 6) (aa (pv 7) ao)))))
  case' alK => exact (cu (PW.pt (wG (HQ (p7 (cG (Pg T) (hr.mono (by decide) : bR 2 _) (by rfl) T.Wj T.KJ.kp T.Wi .nil bW (aa (pv 6) (aa (pv 4) ao))))) (p8 (HQ (p7 (cG (Pg T) (hr.mono (by decide) : bR 2 _) (by rfl) T.Wj T.KJ.kp T.Wi .nil bW (aa (pv 7) (aa (pv 5) ao)))))))) (aB (bj Vg)) bB)
  case' aho => exact (bu (i := 9) qm.nd rfl (Or.inr rfl) (cG (ab6 T) (hr.mono (by decide) : bR 1 _) (by rfl) T.afj T.QW.kp T.afi .nil bW (aa (pv 2) (aa (pv 4) ao))))
  case' asw => exact (agQ (i := 10) qm.nd rfl rfl (gB (xs := ["_law_deed"]) (ys := ["_law_town"]) (js := [9]) rfl (by decide +kernel) (by decide +kernel) (by decide +kernel) (by rfl) ⟨⟨rfl,Or.inl rfl⟩,trivial⟩) rfl (ux (pv 5)) (fun _ _ _ _ _ => (dg (i := 0) (show List.Nodup ((["_law_deed"] : List Str) ++ (["_law_town"] : List Str) : List Str) by decide +kernel) rfl (Or.inl rfl))) (fun _ _ _ _ _ => lW) (fun _ _ _ _ _ => (cG (Zd T) (hr.mono (by decide) : bR 4 _) (by rfl) T.abT T.KR.kp T.abS .nil bW (aa (pv 1) (aa (pv 0) ao)))))
  case' asx => exact (bj (agx (dG j8 (by rfl) T.fG PyProof.Rows.Boot.«isinstance» (aa (pv 8) (aa (rM (by rfl) T.Ip PyProof.Rows.Boot.«list») ao))) (abg (cG (Pg T) (hr.mono (by decide) : bR 2 _) (by rfl) T.Wj T.KJ.kp T.Wi .nil bW (aa (pv 8) (aa (pv 10) ao))))))
  try dsimp only [du,Cx.j6]
  show let Z1 : L2.TS := _; let Z2 : L2.TS := _; let Z3 : L2.TS := _; let Z4 : L2.TS := _; let Z5 : L2.TS := _; let Z6 : L2.TS := _; let Z7 : L2.TS := cY _ Z6 bJ; let Z8 : L2.TS := _; let Z9 : L2.TS := _; let Am : L2.TS := _; let Lb : L2.TS := _; let Ld : L2.TS := cY _ Lb bJ; let Q0 : L2.TS := _; let Q3 : L2.TS := _; let Z15 : L2.TS := _; let D0 : Ends := _; (aQ Z1 (aQ Z2 (aQ Z3 (aQ Z4 (aQ Z5 (aQ Z7 (aQ Z8 (aQ Z9 (aQ Am (aQ Ld (aQ Q0 (aQ Q3 (Z15))))))))))))) D0 _ _
  intro Z1 Z2 Z3 Z4 Z5 Z6 Z7 Z8 Z9 Am Lb Ld Q0 Q3 Z15 D0
  refine ⟨_,rfl,a,ns,0,rfl,ha,by decide,fun z => ?_⟩
  obtain ⟨n,hn0,hn1,hn⟩ := alR (1 + z % 4) (9 + z / 288 % 12) (by lia) (by lia) (decide (V.int (z / 36 % 8) = V.int 1))
  obtain ⟨m,hm0,hm1,hm⟩ := alR (1 + z / 4 % 3) (8 + z / 288 % 13) (by lia) (by lia) (decide (V.int (z / 36 % 8) = V.int 2))
  refine ⟨_,rfl,_,_,rfl,rfl,(show (0 : Int) < 4 by decide),_,_,rfl,rfl,_,rfl,_,_,rfl,rfl,⟨by decide,by decide⟩,_,_,rfl,rfl,(show (0 : Int) < 12 by decide),_,_,rfl,rfl,uo,fun l1 hl1 => ?_⟩
  refine ⟨_,rfl,_,_,rfl,rfl,⟨by decide,by decide⟩,_,_,rfl,rfl,(show (0 : Int) < 8 by decide),rfl,.inr ⟨_,rfl,l1,_,_,_,rfl,rfl,cz.of aj,hn,?_⟩⟩
  refine ⟨_,rfl,_,_,rfl,rfl,⟨by decide,by decide⟩,_,_,rfl,rfl,(show (0 : Int) < 3 by decide),_,_,rfl,rfl,_,rfl,_,_,rfl,rfl,⟨by decide,by decide⟩,_,_,rfl,rfl,(show (0 : Int) < 13 by decide),_,_,rfl,rfl,uo,fun l2 hl2 => ?_⟩
  refine ⟨_,rfl,_,_,rfl,rfl,⟨by decide,by decide⟩,_,_,rfl,rfl,(show (0 : Int) < 8 by decide),rfl,.inr ⟨_,rfl,l2,_,_,_,rfl,rfl,cz.of aj,hm,?_⟩⟩
  have s1 := (aA (o := .lst [.int (1 + z % 4),.int (9 + z / 288 % 12)]) hl1).trans (aA (o := .lst [.int (1 + z / 4 % 3),.int (8 + z / 288 % 13)]) hl2)
  generalize upd (upd H l1 (.lst [.int (1 + z % 4),.int (9 + z / 288 % 12)])) l2 (.lst [.int (1 + z / 4 % 3),.int (8 + z / 288 % 13)]) = H1 at s1
  have ha1 := cz.same ha s1
  refine ⟨_,rfl,a,ns,1,rfl,ha1,by decide,fun z1 => ⟨_,rfl,z1,m,rfl,by lia,fun nl nums H2 hnum hnl s2 avQ => ?_⟩⟩
  have s02 := s1.trans s2
  have ha2 := cz.same ha s02
  obtain ⟨cells,ayx,hcl⟩ := alS ns (some 2) none
  refine ⟨_,rfl,_,rfl,a,_,rfl,ha2,fun sl hsl => ?_⟩
  have s3 := aA (o := .lst (YH (ns.map V.int) (some 2) none)) hsl
  refine ⟨_,rfl,_,rfl,sl,n,m,cells,rfl,by rw [← ayx]; exact aj,hn0,by lia,hm0,by lia,by lia,fun al us H4 hal s4 asy dl4 => ?_⟩
  have s24 := s3.trans s4
  have asz := s24 _ _ avQ
  have s04 := s02.trans s24
  clear s3 s4 hsl hal
  dsimp only
  refine fP (fun σ' H' => ∃ al us,σ' = [some (.ref a),some (.int z),some (.int n),some (.int m),some (.ref nl),some (.ref al),none,none,none,none,none]∧bZ H H'∧H' nl = some (.lst (nums.map V.int))∧H' al = some (.lst us)∧DL H' us 900) (fun N hN => ?_) ?_
  ·refine ⟨_,rfl,a,ns,0,rfl,cz.same ha s04,by decide,fun z2 => ⟨_,_,rfl,rfl,⟨by decide,by decide⟩,_,_,rfl,rfl,(show (0 : Int) < 3 by decide),rfl,_,rfl,?_⟩⟩
   by_cases e3 : z2 / 12 % 3 = 1
   ·refine bF (afA e3) ?_
    refine ⟨_,rfl,_,rfl,a,ns,1,rfl,cz.same ha s04,by decide,fun z3 => ⟨n,z3,rfl,by lia,fun fl fs H5 hfl s5 ayz dl5 => ?_⟩⟩
    have avR := dl4.aU (aY s5)
    have l1 := dl5.len
    have l2 := avR.len
    have sl : sizeLine = 16777216 := by decide
    refine ⟨_,rfl,fl,al,fs,us,rfl,rfl,ayz,s5 _ _ asy,by lia,fun al2 auz => ?_⟩
    have s6 := aA (o := .lst (fs ++ us)) auz
    exact hN _ _ ⟨al2,fs ++ us,rfl,(s04.trans s5).trans s6,s6 _ _ (s5 _ _ asz),aj,((dl5.append avR).more (by lia)).aU (aY s6)⟩
   ·refine aO (afB e3) ?_
    exact hN _ _ ⟨al,us,rfl,s04,asz,asy,dl4.more (by lia)⟩
  ·clear s1 s2 s02 s24 s04 avQ asz asy dl4 ha1 ha2
   rintro σ' H5 ⟨al,us,rfl,s05,asA,asB,dl5⟩
   obtain ⟨xs,rx,hxl⟩ := dl5
   refine ⟨_,rfl,nl,_,rfl,.inl (cz.of asA),fun ol hol => ?_⟩
   have s6 := aA (o := .lst (nums.map V.int)) hol
   have aoH : upd H5 ol (.lst (nums.map V.int)) ol = some (.lst (nums.map V.int)) := aj
   generalize upd H5 ol (.lst (nums.map V.int)) = H6 at s6 aoH
   refine ⟨_,rfl,al,_,rfl,.inl (cz.of (s6 _ _ asB)),fun hl hhl => ?_⟩
   have s7 := aA (o := .lst us) hhl
   have aoI : upd H6 hl (.lst us) hl = some (.lst us) := aj
   generalize upd H6 hl (.lst us) = H7 at s7 aoI
   have s57 := s6.trans s7
   have rx7 := rx.aU (aY s57) (bU cA.flat _)
   refine ⟨_,rfl,_,rfl,_,rfl,n,nums,ol,hl,us,xs,rfl,s7 _ _ aoH,aoI,rx7,by lia,by lia,by lia,fun r zs H8 s8 hr8 hz8 rz8 => ?_⟩
   have s58 := s57.trans s8
   have rx8 := rx7.aU (aY s8) (bU cA.flat _)
   have asC := s58 _ _ asA
   have asD := s58 _ _ asB
   have avS := s8 _ _ (s7 _ _ aoH)
   have avT := s8 _ _ aoI
   have z1 := ints_size nums
   have z2 := W0 xs
   refine ⟨_,rfl,_,rfl,.ref ol,.ref nl,.l (nums.map D.i),rfl,?_,?_,?_,fun H9 s9 => ?_⟩
   ·simp only [Rep]; exact ⟨ol,_,rfl,avS,ints_rep _ _⟩
   ·simp only [Rep]; exact ⟨nl,_,rfl,asC,ints_rep _ _⟩
   ·simp only [D.size]; lia
   have rx9 := rx8.aU (aY s9) (bU cA.flat _)
   refine ⟨_,rfl,aO rfl ?_⟩
   refine ⟨_,rfl,_,rfl,.ref hl,.ref al,.l (xs.map cA.d),rfl,?_,?_,?_,fun H10 s10 => ?_⟩
   ·simp only [Rep]; exact ⟨hl,_,rfl,s9 _ _ avT,rx9⟩
   ·simp only [Rep]; exact ⟨al,_,rfl,s9 _ _ asD,rx9⟩
   ·simp only [D.size]; lia
   refine ⟨_,rfl,aO rfl ?_⟩
   have al5 := s9.trans s10
   have avU := rx9.aU (aY s10) (bU cA.flat _)
   have avV := al5 _ _ asC
   have apQ := al5 _ _ asD
   have avW := al5 _ _ hz8
   have ayD := rz8.aU (aY al5) (lN _ _ _ _)
   clear s6 s7 s57 s58 s9 s10 al5 rx rx7 rx8 rx9 asC asD avS avT aoH aoI hol hhl asA asB s05 s8 hz8 rz8 hr8
   refine ⟨_,rfl,_,rfl,n,nl,nums,rfl,avV,by lia,by lia,fun AM H11 M11 s11 n11 => ?_⟩
   rw [hnum] at M11 n11
   have hul : us.length = xs.length := by rw [avU.length,List.length_map]
   have ayG := avU.aU (aY s11) (bU cA.flat _)
   have aBn := s11 _ _ avW
   have avX := s11 _ _ apQ
   have avY := ayD.aU (aY s11) (lN _ _ _ _)
   rw [hnum] at avY
   refine ⟨_,rfl,al,rfl,⟨_,cz.of avX⟩,fun acc hacc => ?_⟩
   have nM : ∀ b,(∃ o,H10 b = some o)→∀ x : Mb,x.ok n m→b≠AM x := fun b ⟨o,e⟩ x hx z => by rw [z,n11 x hx] at e; cases e
   let PV1 : Nat→List V→St→Hp→Prop := fun i ys σ' H' => (∃ o,σ' = [o,some (.ref (AM .bx))])∧H' acc = some (.lst ys)∧ys.length = i∧aG H' ys (IW n m (S0 nums) (xs.take i))∧bY H11 H'∧(∀ b o,H10 b = some o→H' b = some o)∧∃ A' se,A' .bx = AM .bx∧aX H' A' n m (Zf n m (S0 nums) (xs.take i)) se∧Bd (xs.take i).length (Zf n m (S0 nums) (xs.take i)) se∧(∀ x : Mb,x.ok n m→H10 (A' x) = none∧A' x≠acc)
   refine Gk (xs := us) PV1 ?_ ?_ ?_ ?_
   ·refine ⟨⟨_,rfl⟩,aj,rfl,by simp [IW,aG],aY (aA hacc),fun b o e => aA hacc _ _ (s11 b o e),AM,[],rfl,M11.new hacc,Bd.start nums,fun x hx => ⟨n11 x hx,M11.yF hx hacc⟩⟩
   ·rintro i ys σ' H' _ ⟨_,ha',_,_,_,k',_⟩
    exact ⟨cz.of (k' _ _ apQ),ha'⟩
   ·rintro i y ys σ' H' hy hi ⟨⟨o,rfl⟩,ha',hyl,rp,tt,k',A',se,eA,M',bd,fr'⟩
    obtain ⟨x,hx,rxx⟩ := WY (ayG.aU tt (bU cA.flat _)) hy
    obtain ⟨b,rfl,hxa⟩ := afC rxx
    have htk : xs.take (i + 1) = xs.take i ++ [x] := by rw [List.take_add_one,hx]; rfl
    have hti : (xs.take i).length≤1500 := by rw [List.length_take]; lia
    have I := jV.run (n := n) (xs := xs.take i) (jV.start n nums)
    rw [hnum] at I
    refine Kd ?_
    refine ⟨_,rfl,_,rfl,A',n,m,_,se,b,x,_,(by rw [eA]; rfl),M',hxa,I,bd,hti,fun v A2 H2 M2 f2 v2 r2 => ?_⟩
    have ha2 : H2 acc = some (.lst ys) := f2.kp _ _ ha' fun z hz e => (fr' z hz).2 e.symm
    have sl : sizeLine = 16777216 := by decide
    refine wL.mk hi ha2 (by lia) ?_
    have k2 : ∀ b o,H10 b = some o→H2 b = some o := fun b u e => f2.kp _ _ (k' b u e) fun z hz e2 => by rw [e2,(fr' z hz).1] at e; cases e
    have fr2 : ∀ z : Mb,z.ok n m→H10 (A2 z) = none∧A2 z≠acc := fun z hz => by
     rcases v2 z hz with e | ⟨_,e⟩
     ·rw [e]; exact fr' z hz
     ·refine ⟨?_,fun e2 => by rw [e2,ha'] at e; cases e⟩
      cases q : H10 (A2 z) with
      | none => rfl
      | some u => rw [k' _ _ q] at e; cases e
    have tl := jw (vs := ys ++ [v]) ha2
    have afp : H10 acc = none := bZ.free s11 hacc
    have bd2 := bd.step (n := n) (m := m) x
    refine ⟨⟨_,rfl⟩,aj,by rw [List.length_append,hyl]; rfl,?_,fun b xs e => tl _ _ (f2.tups M' _ _ (tt _ _ e)),fun b o e => by rw [aq (aF e afp)]; exact k2 b o e,A2,se ++ (Zf n m (S0 nums) (xs.take i)).j9 n x,(v2.bx).trans eA,?_,?_,fr2⟩
    ·rw [htk,Pn]
     exact aG.snoc ((rp.aU (f2.tups M') (lN _ _ _ _)).aU tl (lN _ _ _ _)) (r2.aU tl (Pq _ _ _ _))
    ·rw [htk,Pk]
     exact M2.keep tl fun z hz u e => by rw [aq (fr2 z hz).2]; exact e
    ·rw [htk,Pk,List.length_append]
     exact bd2
   ·rintro ys σ' H' ⟨_,ha',hyl,rp,tt,k',_⟩
    rw [hul,List.take_length] at rp
    have hz' := k' _ _ avW
    have rz' := avY.aU tt (lN _ _ _ _)
    have z3 := aa0 n m (S0 nums) xs
    refine ⟨_,rfl,_,_,_,true,rfl,.lst hz',.inl ⟨_,rfl,agT⟩,_,rfl,oh ?_⟩
    refine ⟨_,rfl,_,rfl,.ref r,.ref acc,.l (IW n m (S0 nums) xs),rfl,?_,?_,?_,fun H12 _ => q H12⟩
    ·simp only [Rep]; exact ⟨r,_,rfl,hz',rz'⟩
    ·simp only [Rep]; exact ⟨acc,_,rfl,ha',rp⟩
    ·simp only [D.size]; lia
end
end iz
namespace H1
open PySem PySem.W PyProof.Rows
abbrev pw := PySem.Challenge.pw_copydesks_k01_answers
abbrev rw_ := PySem.Challenge.rw_copydesks_k01_answers
theorem said : OpenLaw.wellSaid rw_ = true := (congrFun Fast.te9446332074065402090 rw_).trans (by kernel_rfl)
def q : Program := view pw [0,2,3,4,5,6,7,9,10,11,12,13,14,15,16,18,19,20,21,23,24,26,27,28,30,31,33,34,35,36,37,38,39,40,41,42,43,44,45,46,47,48,49]
theorem dkh : (defOf q "law").isSome = true := by kernel_rfl
def dk := ((defOf q "law").get dkh).1
def d : DefRec := { dk with name := "law" }
theorem hdef : defOf q "law" = some (d,[]) := by kernel_rfl
theorem hp : pw.theDef "law" = some (d.params,d.body,d.scope) := by kernel_rfl
theorem hk : kwWritten? d.params.kwonlyargs d.params.kw_defaults = some [] := by kernel_rfl
theorem hdf : d.params.defaults = [] := by kernel_rfl
theorem ok : (chainsOk q && opensWell pw && (frees rw_.row.toRowW && rw_.row.toRowW.within.isEmpty)) = true := by kernel_rfl
theorem op1 : opening pw = plainProg pw.main.scope.names := by kernel_rfl
theorem op2 : ∀ s,fenceModules? pw s = some s := fun s => by kernel_rfl
abbrev Xt (s : Shared) : Bool := xlAt q [] s && recOk [] s
local macro_rules | `(tactic| o_head ($_ $K $A $_)) => `(tactic| ((exact False.elim (by assumption)); (exact $K); exact $A))
noncomputable def K0 : PSigma fun _ : Params→Frag => PSigma fun _ : List Addr => False→rw_.row.Holds := by
 refine ⟨?K,?A,?h⟩
 rotate_left 2
 intro hF
 k_head
noncomputable abbrev KA : List Addr := K0.2.1
theorem KAe : ∀ P,KA = (K0.heap_1 P).map (·.1) := fun _ => by kernel_rfl
theorem g0 : ∀ w : World,(fun os => (Fast.tw12555587260221468252 Fast.tw14364793385576792824 pw (w.withFollow "special-get-raises" false) 11 (some (.ref 6)) 8556 ⟨T0 (w.withFollow "special-get-raises" false).params,11,{},#[],boot_drawn,boot_toks,os⟩ (topStub pw)).map fun s => Fast.tw15217941149495966222 pw q ["RANKS"] Xt (absHeap (T0 (w.withFollow "special-get-raises" false).params) 11 {}) s.abs) = fun _ => some (true,openGood q ["RANKS"]) := fun w => by kernel_rfl
theorem f0 : ∀ w : World,(fun os => (Fast.tw12555587260221468252 Fast.tw14364793385576792824 pw (w.withFollow "special-get-raises" false) 11 (some (.ref 6)) 8556 ⟨T0 (w.withFollow "special-get-raises" false).params,11,{},#[],boot_drawn,boot_toks,os⟩ (topStub pw)).map fun s => List.map s.abs.heap.get? KA) = fun _ => some (List.map (fun p => some p.2) (K0.heap_1 (w.withFollow "special-get-raises" false).params)) := fun w => by kernel_rfl
theorem g1 : ∀ w : World,(fun os => (Fast.tw12555587260221468252 Fast.tw14364793385576792824 pw (w.withFollow "special-get-raises" true) 11 (some (.ref 6)) 8556 ⟨T0 (w.withFollow "special-get-raises" true).params,11,{},#[],boot_drawn,boot_toks,os⟩ (topStub pw)).map fun s => Fast.tw15217941149495966222 pw q ["RANKS"] Xt (absHeap (T0 (w.withFollow "special-get-raises" true).params) 11 {}) s.abs) = fun _ => some (true,openGood q ["RANKS"]) := fun w => by kernel_rfl
theorem f1 : ∀ w : World,(fun os => (Fast.tw12555587260221468252 Fast.tw14364793385576792824 pw (w.withFollow "special-get-raises" true) 11 (some (.ref 6)) 8556 ⟨T0 (w.withFollow "special-get-raises" true).params,11,{},#[],boot_drawn,boot_toks,os⟩ (topStub pw)).map fun s => List.map s.abs.heap.get? KA) = fun _ => some (List.map (fun p => some p.2) (K0.heap_1 (w.withFollow "special-get-raises" true).params)) := fun w => by kernel_rfl
theorem hl : LeftO pw q ["RANKS"] Xt (fun s => List.map s.heap.get? KA) (fun w => List.map (fun p => some p.2) (K0.heap_1 w.params)) 8556 true :=
 atk "special-get-raises" (T₀ := T0) (n₀ := 11) (life := {}) (gs₀ := #[]) (d₀ := boot_drawn) (k₀ := boot_toks) (ann := some (.ref 6)) (M := 8556) (opens op1 (by kernel_rfl) op2) sizes (fun w => both (by rw [Fast.te12555587260221468252,Fast.te14364793385576792824]; rw [Fast.te15217941149495966222]; exact g0 w) (Yf := fun s => List.map s.heap.get? KA) (by rw [Fast.te12555587260221468252,Fast.te14364793385576792824]; exact f0 w)) (fun w => both (by rw [Fast.te12555587260221468252,Fast.te14364793385576792824]; rw [Fast.te15217941149495966222]; exact g1 w) (Yf := fun s => List.map s.heap.get? KA) (by rw [Fast.te12555587260221468252,Fast.te14364793385576792824]; exact f1 w)) (by kernel_rfl)
end H1
namespace iz
open PySem L2
abbrev FO (n q : Str) (st : Stmt) (kV dc pm : Value) (an : Option Addr) (cd ct : Value) : FuncData := PySem.W.fnOf n q (J9 st) (yx st) (aN st) .none kV dc pm an cd ct
section
open PySem.W
theorem all_mk {l : OpenLaw} {w : World} {K : Frag} {h : Heap} {mg : Str→Option Value} {fa : Addr} (X : K.In h) (G : h.Ns mainGlobals mg) (hfa : mg "law" = some (.ref fa))
{bc : Addr} {aZ : Addr} {aW : Addr} {aK : Addr} {aV : Addr} {aH : Addr} {bI : Addr} {aD : Addr} {gM : Addr} {bh : Addr} {yQ : Addr} {al6 al7 : Option Addr} {al8 : Array (Option Value)} {al9 ama amb amc afG amd : Value} {gU : Addr} {Zg Zh : Option Addr} {Zi : Array (Option Value)} {Zj Zk Zm Zn Hc Zo : Value} {eY : Addr} {Pr Pu : Option Addr} {Px : Array (Option Value)} {Py Pz PB PJ xP PK : Value} {gh : Addr} {W2 W3 : Option Addr} {W4 : Array (Option Value)} {W5 W6 W7 W8 El W9 : Value} {gj : Addr} {Xa Xb : Option Addr} {Xc : Array (Option Value)} {Xd Xe Xf Xg Em Xh : Value} {gk : Addr} {Xi Xj : Option Addr} {Xk : Array (Option Value)} {Xl Xm Xn Xo En Xp : Value} {iT : Addr} {aca acb : Option Addr} {acd : Array (Option Value)} {ace acf acg ach Le aci : Value} {fL : Addr} {SM SN : Option Addr} {SQ : Array (Option Value)} {SX S5 S6 S7 Ao S8 : Value} {gW : Addr} {acj ack : Option Addr} {acn : Array (Option Value)} {aco acp acq acr Lf acs : Value} {dU : Addr} {PL PN : Option Addr} {PQ : Array (Option Value)} {PX P0 Qa Qc xQ Qd : Value} {gb : Addr} {Zq Zr : Option Addr} {Zt : Array (Option Value)} {Zu Zv Zw Zx Hd Zy : Value} {gY : Addr} {acu acv : Option Addr} {acw : Array (Option Value)} {acx acy acz acA Lg acB : Value} {gZ : Addr} {acC acD : Option Addr} {acE : Array (Option Value)} {acF acG acH acI Lh acJ : Value} {g8 : Addr} {acK acL : Option Addr} {acM : Array (Option Value)} {acN acO acP acQ Li acR : Value} {fC : Addr} {Xq Xr : Option Addr} {Xu : Array (Option Value)} {Xv Xw Xx Xy Eo Xz : Value} {eF : Addr} {S9 Tc : Option Addr} {Td : Array (Option Value)} {Te Tf Tg Th Aq Ti : Value} {dB : Addr} {Lj Lk : Option Addr} {Ln : Array (Option Value)} {Lp Lq Lr Ls u0 Lw : Value} {eG : Addr} {Tj Tn : Option Addr} {Tp : Array (Option Value)} {Tq Tr Tt Tu Ar Tw : Value} {cH : Addr} {zy zz : Option Addr} {zA : Array (Option Value)} {zB zE zF zG mZ zH : Value} {ie : Addr} {acS acT : Option Addr} {acU : Array (Option Value)} {acV acW acX acY Lx acZ : Value} {dC : Addr} {Ly Lz : Option Addr} {LC : Array (Option Value)} {LK LQ LR Ma u6 Mf : Value} {cM : Addr} {BP BR : Option Addr} {BV : Array (Option Value)} {BW BX BZ Ca nP Cd : Value} {cB : Addr} {wg wj : Option Addr} {wk : Array (Option Value)} {wu wy wz wA kj wB : Value} {cI : Addr} {zJ zK : Option Addr} {zL : Array (Option Value)} {zM zN zO zP m5 zQ : Value} {dh : Addr} {Ja Jb : Option Addr} {Jc : Array (Option Value)} {Jd Je Jf Jg tX Jh : Value} {bQ : Addr} {rn rA : Option Addr} {rB : Array (Option Value)} {rC rD rE rF jz rG : Value} {dD : Addr} {Mg Mh : Option Addr} {Mi : Array (Option Value)} {Mj Ml Mm Mp u9 Mq : Value} {cJ : Addr} {zR zT : Option Addr} {zU : Array (Option Value)} {zV zW zX zY m6 zZ : Value} {cN : Addr} {Ce Cg : Option Addr} {Ci : Array (Option Value)} {Cj Ck Cm Cp nQ Cq : Value} {ig : Addr} {ac0 ac1 : Option Addr} {ac2 : Array (Option Value)} {ac3 ac4 ac5 ac6 Mr ac7 : Value} {ik : Addr} {ac8 ac9 : Option Addr} {ada : Array (Option Value)} {adb ade adf adg Ms adh : Value} {il : Addr} {adi adk : Option Addr} {adl : Array (Option Value)} {adm adn ado adp Mt adq : Value} {eN : Addr} {Tz TJ : Option Addr} {TQ : Array (Option Value)} {TV TX TY T6 Av T7 : Value} {di : Addr} {Ji Jj : Option Addr} {Jk : Array (Option Value)} {Jl Jm Jo Jp tY Jq : Value} {dj : Addr} {Jr Js : Option Addr} {Jt : Array (Option Value)} {Ju Jv Jw Jx tZ Jy : Value} {eO : Addr} {T8 T9 : Option Addr} {Ua : Array (Option Value)} {Ub Uc Ud Ue Aw Ug : Value} {fD : Addr} {XC XD : Option Addr} {XF : Array (Option Value)} {XH XJ XM XN Ep XQ : Value} {eQ : Addr} {Uh Ui : Option Addr} {Uj : Array (Option Value)} {Uk Ul Um Uo Ax Up : Value} {dW : Addr} {Qe Qf : Option Addr} {Qg : Array (Option Value)} {Qh Qi Qj Qk xR Ql : Value} {dm : Addr} {Jz JB : Option Addr} {JC : Array (Option Value)} {JD JF JG JH t7 JK : Value} {cP : Addr} {Er Es : Option Addr} {Et : Array (Option Value)} {Eu Ew Ex Ey pR Ez : Value} {dF : Addr} {Mu Mw : Option Addr} {Mx : Array (Option Value)} {My Mz MF MJ vd MK : Value} {dI : Addr} {JL JM : Option Addr} {JN : Array (Option Value)} {JP JQ JR JS t8 JT : Value} {dY : Addr} {MN MP : Option Addr} {MT : Array (Option Value)} {M8 M9 Nb Nf vf Ng : Value} {cT : Addr} {Cr Cu : Option Addr} {Cv : Array (Option Value)} {Cw Cy Cz CG nR CJ : Value} {iU : Addr} {adt adu : Option Addr} {adv : Array (Option Value)} {adw adx ady adz Nh adA : Value} {lK : Addr} {ahu ahv : Option Addr} {ahw : Array (Option Value)} {ahx ahy ahz ahA XR ahB : Value} {lL : Addr} {ahC ahD : Option Addr} {ahE : Array (Option Value)} {ahF ahG ahH ahI XS ahJ : Value} {DP : Addr} {aoJ aoK : Option Addr} {aoL : Array (Option Value)} {aoM aoN aoO aoP aiS aoQ : Value} {pJ : Addr} {ajK ajL : Option Addr} {ajM : Array (Option Value)} {ajN ajO ajP ajQ aa1 ajR : Value} {iV : Addr} {adB adC : Option Addr} {adD : Array (Option Value)} {adE adF adG adH Ni adI : Value} {uK : Addr} {ame amf : Option Addr} {amg : Array (Option Value)} {amh ami amj amk afH aml : Value} {ir : Addr} {Zz ZC : Option Addr} {ZD : Array (Option Value)} {ZF ZG ZJ ZK Hf ZL : Value} {lM : Addr} {ahK ahL : Option Addr} {ahM : Array (Option Value)} {ahN ahO ahP ahQ XX ahR : Value} {iW : Addr} {adJ adK : Option Addr} {adL : Array (Option Value)} {adM adN adO adP Nj adQ : Value} {jN : Addr} {afI afJ : Option Addr} {afK : Array (Option Value)} {afL afM afN afO Q6 afP : Value} {gn : Addr} {X3 X4 : Option Addr} {X5 : Array (Option Value)} {X6 X7 X8 Yb EY Yc : Value} {gq : Addr} {Yd Ye : Option Addr} {Yg : Array (Option Value)} {Yh Yi Yj Yk Fb Yl : Value} {fM : Addr} {Uq Ur : Option Addr} {Us : Array (Option Value)} {Ut Uu Uv Uw Ay Ux : Value} {iu : Addr} {ZM ZP : Option Addr} {ZQ : Array (Option Value)} {ZR ZS ZV ZW Hg ZX : Value} {fO : Addr} {Uy Uz : Option Addr} {UG : Array (Option Value)} {UJ UT UW U0 Az U3 : Value} {eZ : Addr} {Qm Qn : Option Addr} {Qo : Array (Option Value)} {Qp Qq Qs Qt xU Qu : Value} {iw : Addr} {ZZ Z0 : Option Addr} {aaa : Array (Option Value)} {aab aac aad aae Hh aaf : Value} {V4 : Addr} {asF asG : Option Addr} {asH : Array (Option Value)} {asI asJ asK asL amm asM : Value} {amn : Tok} {amo : Tok} {aiT : Tok} {qU : Addr} {afQ : Array DictEntry} {aoR : Nat} {amq : Tok} {amr : Tok} {ams : Tok} {amt : Tok} {aiU : Tok}
 (adR : nsIn K mainGlobals "CopyError" = some (some (.ref bc)))
 (ajS : nsIn K mainGlobals "NoDesk" = some (some (.ref aZ)))
 (ajT : nsIn K mainGlobals "NoPage" = some (some (.ref aW)))
 (ahS : nsIn K mainGlobals "Waiting" = some (some (.ref aK)))
 (ajU : nsIn K mainGlobals "NoCopy" = some (some (.ref aV)))
 (afR : nsIn K mainGlobals "NoLetter" = some (some (.ref aH)))
 (aoS : nsIn K mainGlobals "Desk" = some (some (.ref bI)))
 (adS : nsIn K mainGlobals "PageLoans" = some (some (.ref aD)))
 (aoT : nsIn K mainGlobals "Hall" = some (some (.ref gM)))
 (aoU : nsIn K mainGlobals "Town" = some (some (.ref bh)))
 (adT : excIn K bc [.type "ValueError",.type "Exception",.type "BaseException",.type "object"] "ValueError.__new__" = true)
 (adU : L2.mroIn K bc = some (.ref bc :: [.type "ValueError",.type "Exception",.type "BaseException",.type "object"]))
 (ajV : excIn K aZ [.type "ValueError",.type "Exception",.type "BaseException",.type "object"] "ValueError.__new__" = true)
 (ajW : L2.mroIn K aZ = some (.ref aZ :: [.ref bc,.type "ValueError",.type "Exception",.type "BaseException",.type "object"]))
 (ajX : excIn K aW [.type "ValueError",.type "Exception",.type "BaseException",.type "object"] "ValueError.__new__" = true)
 (ajY : L2.mroIn K aW = some (.ref aW :: [.ref bc,.type "ValueError",.type "Exception",.type "BaseException",.type "object"]))
 (ahT : excIn K aK [.type "ValueError",.type "Exception",.type "BaseException",.type "object"] "ValueError.__new__" = true)
 (ahU : L2.mroIn K aK = some (.ref aK :: [.ref bc,.type "ValueError",.type "Exception",.type "BaseException",.type "object"]))
 (ajZ : excIn K aV [.type "ValueError",.type "Exception",.type "BaseException",.type "object"] "ValueError.__new__" = true)
 (aj0 : L2.mroIn K aV = some (.ref aV :: [.ref bc,.type "ValueError",.type "Exception",.type "BaseException",.type "object"]))
 (afS : excIn K aH [.type "ValueError",.type "Exception",.type "BaseException",.type "object"] "ValueError.__new__" = true)
 (afT : L2.mroIn K aH = some (.ref aH :: [.ref bc,.type "ValueError",.type "Exception",.type "BaseException",.type "object"]))
 (afU : findIn K (.ref aZ) "__class__" = some (some (.builtin "object.__class__")))
 (afV : findIn K (.ref aZ) "__getattribute__" = some (some (.builtin "BaseException.__getattribute__")))
 (afW : findIn K (.ref aZ) "__getattr__" = some none)
 (qH : kitOne K (.ref aZ) (.ref bc) = some true)
 (eU : aZ≠bc)
 (wZ : kitOne K (.ref aZ) (.ref aZ) = some true)
 (w6 : kitOne K (.ref aZ) (.ref aW) = some false)
 (oO : aZ≠aW)
 (uL : kitOne K (.ref aZ) (.ref aK) = some false)
 (mJ : aZ≠aK)
 (xf : kitOne K (.ref aZ) (.ref aV) = some false)
 (oR : aZ≠aV)
 (sZ : kitOne K (.ref aZ) (.ref aH) = some false)
 (lB : aZ≠aH)
 (pK : kitOne K (.ref aZ) (.type "ValueError") = some true)
 (afX : findIn K (.ref aW) "__class__" = some (some (.builtin "object.__class__")))
 (afY : findIn K (.ref aW) "__getattribute__" = some (some (.builtin "BaseException.__getattribute__")))
 (afZ : findIn K (.ref aW) "__getattr__" = some none)
 (qI : kitOne K (.ref aW) (.ref bc) = some true)
 (fX : aW≠bc)
 (xg : kitOne K (.ref aW) (.ref aZ) = some false)
 (xj : aW≠aZ)
 (xm : kitOne K (.ref aW) (.ref aW) = some true)
 (uM : kitOne K (.ref aW) (.ref aK) = some false)
 (mK : aW≠aK)
 (xn : kitOne K (.ref aW) (.ref aV) = some false)
 (oU : aW≠aV)
 (tu : kitOne K (.ref aW) (.ref aH) = some false)
 (lC : aW≠aH)
 (pL : kitOne K (.ref aW) (.type "ValueError") = some true)
 (adV : findIn K (.ref aK) "__class__" = some (some (.builtin "object.__class__")))
 (adW : findIn K (.ref aK) "__getattribute__" = some (some (.builtin "BaseException.__getattribute__")))
 (adX : findIn K (.ref aK) "__getattr__" = some none)
 (pM : kitOne K (.ref aK) (.ref bc) = some true)
 (iy : aK≠bc)
 (uN : kitOne K (.ref aK) (.ref aZ) = some false)
 (uO : aK≠aZ)
 (uP : kitOne K (.ref aK) (.ref aW) = some false)
 (uQ : aK≠aW)
 (tD : kitOne K (.ref aK) (.ref aK) = some true)
 (uR : kitOne K (.ref aK) (.ref aV) = some false)
 (mL : aK≠aV)
 (qJ : kitOne K (.ref aK) (.ref aH) = some false)
 (jY : aK≠aH)
 (nF : kitOne K (.ref aK) (.type "ValueError") = some true)
 (af0 : findIn K (.ref aV) "__class__" = some (some (.builtin "object.__class__")))
 (af1 : findIn K (.ref aV) "__getattribute__" = some (some (.builtin "BaseException.__getattribute__")))
 (af2 : findIn K (.ref aV) "__getattr__" = some none)
 (qK : kitOne K (.ref aV) (.ref bc) = some true)
 (jZ : aV≠bc)
 (xq : kitOne K (.ref aV) (.ref aZ) = some false)
 (xr : aV≠aZ)
 (xu : kitOne K (.ref aV) (.ref aW) = some false)
 (xx : aV≠aW)
 (uT : kitOne K (.ref aV) (.ref aK) = some false)
 (uU : aV≠aK)
 (xF : kitOne K (.ref aV) (.ref aV) = some true)
 (tE : kitOne K (.ref aV) (.ref aH) = some false)
 (lD : aV≠aH)
 (pN : kitOne K (.ref aV) (.type "ValueError") = some true)
 (aag : findIn K (.ref aH) "__class__" = some (some (.builtin "object.__class__")))
 (aah : findIn K (.ref aH) "__getattribute__" = some (some (.builtin "BaseException.__getattribute__")))
 (aai : findIn K (.ref aH) "__getattr__" = some none)
 (nG : kitOne K (.ref aH) (.ref bc) = some true)
 (nJ : aH≠bc)
 (tG : kitOne K (.ref aH) (.ref aZ) = some false)
 (tH : aH≠aZ)
 (tK : kitOne K (.ref aH) (.ref aW) = some false)
 (tL : aH≠aW)
 (qL : kitOne K (.ref aH) (.ref aK) = some false)
 (qM : aH≠aK)
 (tM : kitOne K (.ref aH) (.ref aV) = some false)
 (tO : aH≠aV)
 (pO : kitOne K (.ref aH) (.ref aH) = some true)
 (mO : kitOne K (.ref aH) (.type "ValueError") = some true)
 (aoV : plainGet K bI Str.empty = true)
 (aoW : hasDictIn K bI = true)
 (aoX : plainOver K bI = true)
 (aoY : findIn K (.ref bI) "__setattr__" = some (some (.builtin "object.__setattr__")))
 (abG : makesIn K bI = true)
 (aoZ : keepIn K (.ref bI) = true)
 (dM : findIn K (.ref bI) "copies" = some none)
 (jd : findIn K (.ref bI) "wish" = some none)
 (adY : plainGet K aD Str.empty = true)
 (adZ : hasDictIn K aD = true)
 (ad0 : plainOver K aD = true)
 (ad1 : findIn K (.ref aD) "__setattr__" = some (some (.builtin "object.__setattr__")))
 (zj : makesIn K aD = true)
 (ad2 : keepIn K (.ref aD) = true)
 (fQ : findIn K (.ref aD) "page" = some none)
 (eV : findIn K (.ref aD) "number" = some none)
 (b7 : findIn K (.ref aD) "writer" = some none)
 (cU : findIn K (.ref aD) "readers" = some none)
 (cX : findIn K (.ref aD) "asked" = some none)
 (dZ : findIn K (.ref aD) "awaited" = some none)
 (ao0 : plainGet K gM Str.empty = true)
 (ao1 : hasDictIn K gM = true)
 (ao2 : plainOver K gM = true)
 (ao3 : findIn K (.ref gM) "__setattr__" = some (some (.builtin "object.__setattr__")))
 (abH : makesIn K gM = true)
 (ao4 : keepIn K (.ref gM) = true)
 (pA : findIn K (.ref gM) "pages" = some none)
 (ao5 : plainGet K bh Str.empty = true)
 (ao6 : hasDictIn K bh = true)
 (ao7 : plainOver K bh = true)
 (ao8 : findIn K (.ref bh) "__setattr__" = some (some (.builtin "object.__setattr__")))
 (abI : makesIn K bh = true)
 (ao9 : keepIn K (.ref bh) = true)
 (je : findIn K (.ref bh) "page_count" = some none)
 (qW : findIn K (.ref bh) "hall" = some none)
 (gA : findIn K (.ref bh) "desks" = some none)
 (gC : findIn K (.ref bh) "roads_up" = some none)
 (gG : findIn K (.ref bh) "roads_down" = some none)
 (uV : findIn K (.ref bh) "row" = some none)
 (apa : nsIn K mainGlobals "_wall" = some (some (.ref yQ)))
 (aiV : K.lookup yQ = some ⟨al9,al6,.func (FO "_wall" "_wall" ait ama amb amc al7 afG amd),al8⟩)
 (aiW : codeIn K afG "_wall" = true)
 (aiX : keepIn K (.ref yQ) = true)
 (ad3 : nsIn K mainGlobals "ask_letter" = some (some (.ref gU)))
 (Nk : K.lookup gU = some ⟨Zj,Zg,.func (FO "ask_letter" "ask_letter" yH Zk Zm Zn Zh Hc Zo),Zi⟩)
 (Nm : codeIn K Hc "ask_letter" = true)
 (Np : keepIn K (.ref gU) = true)
 (U4 : nsIn K mainGlobals "answer_letter" = some (some (.ref eY)))
 (Ba : K.lookup eY = some ⟨Py,Pr,.func (FO "answer_letter" "answer_letter" qb Pz PB PJ Pu xP PK),Px⟩)
 (Bb : codeIn K xP "answer_letter" = true)
 (Bc : keepIn K (.ref eY) = true)
 (aaj : nsIn K mainGlobals "gave_letter" = some (some (.ref gh)))
 (Hi : K.lookup gh = some ⟨W5,W2,.func (FO "gave_letter" "gave_letter" vI W6 W7 W8 W3 El W9),W4⟩)
 (Hj : codeIn K El "gave_letter" = true)
 (Hk : keepIn K (.ref gh) = true)
 (aak : nsIn K mainGlobals "lend_letter" = some (some (.ref gj)))
 (Hl : K.lookup gj = some ⟨Xd,Xa,.func (FO "lend_letter" "lend_letter" vJ Xe Xf Xg Xb Em Xh),Xc⟩)
 (Hm : codeIn K Em "lend_letter" = true)
 (Hn : keepIn K (.ref gj) = true)
 (aal : nsIn K mainGlobals "back_letter" = some (some (.ref gk)))
 (Ho : K.lookup gk = some ⟨Xl,Xi,.func (FO "back_letter" "back_letter" vK Xm Xn Xo Xj En Xp),Xk⟩)
 (Hq : codeIn K En "back_letter" = true)
 (Hr : keepIn K (.ref gk) = true)
 (af3 : nsIn K mainGlobals "is_enough" = some (some (.ref iT)))
 (Q7 : K.lookup iT = some ⟨ace,aca,.func (FO "is_enough" "is_enough" Dm acf acg ach acb Le aci),acd⟩)
 (Q8 : codeIn K Le "is_enough" = true)
 (Q9 : keepIn K (.ref iT) = true)
 (Ym : nsIn K mainGlobals "right_needed" = some (some (.ref fL)))
 (Fd : K.lookup fL = some ⟨SX,SM,.func (FO "right_needed" "right_needed" rT S5 S6 S7 SN Ao S8),SQ⟩)
 (Fe : codeIn K Ao "right_needed" = true)
 (Ff : keepIn K (.ref fL) = true)
 (af4 : findIn K (.ref bI) "__init__" = some (some (.ref gW)))
 (af5 : isFn K (.ref gW) = true)
 (Ra : K.lookup gW = some ⟨aco,acj,.func (FO "__init__" "Desk.__init__" Dn acp acq acr ack Lf acs),acn⟩)
 (Rb : codeIn K Lf "Desk.__init__" = true)
 (Rc : keepIn K (.ref gW) = true)
 (U5 : findIn K (.ref bI) "right_of" = some (some (.ref dU)))
 (U6 : isFn K (.ref dU) = true)
 (Be : K.lookup dU = some ⟨PX,PL,.func (FO "right_of" "Desk.right_of" qe P0 Qa Qc PN xQ Qd),PQ⟩)
 (Bf : codeIn K xQ "Desk.right_of" = true)
 (qD : keepIn K (.ref dU) = true)
 (ad4 : findIn K (.ref bI) "waits" = some (some (.ref gb)))
 (ad5 : isFn K (.ref gb) = true)
 (Nq : K.lookup gb = some ⟨Zu,Zq,.func (FO "waits" "Desk.waits" yI Zv Zw Zx Zr Hd Zy),Zt⟩)
 (Nr : codeIn K Hd "Desk.waits" = true)
 (z6 : keepIn K (.ref gb) = true)
 (af6 : findIn K (.ref bI) "want" = some (some (.ref gY)))
 (af7 : isFn K (.ref gY) = true)
 (Rf : K.lookup gY = some ⟨acx,acu,.func (FO "want" "Desk.want" Dp acy acz acA acv Lg acB),acw⟩)
 (Rg : codeIn K Lg "Desk.want" = true)
 (Fg : keepIn K (.ref gY) = true)
 (af8 : findIn K (.ref bI) "take" = some (some (.ref gZ)))
 (af9 : isFn K (.ref gZ) = true)
 (Rh : K.lookup gZ = some ⟨acF,acC,.func (FO "take" "Desk.take" Dq acG acH acI acD Lh acJ),acE⟩)
 (Ri : codeIn K Lh "Desk.take" = true)
 (Fi : keepIn K (.ref gZ) = true)
 (aga : findIn K (.ref bI) "rest" = some (some (.ref g8)))
 (agb : isFn K (.ref g8) = true)
 (Rj : K.lookup g8 = some ⟨acN,acK,.func (FO "rest" "Desk.rest" Dr acO acP acQ acL Li acR),acM⟩)
 (Rk : codeIn K Li "Desk.rest" = true)
 (Fj : keepIn K (.ref g8) = true)
 (aam : findIn K (.ref bI) "may_do" = some (some (.ref fC)))
 (aan : isFn K (.ref fC) = true)
 (Ht : K.lookup fC = some ⟨Xv,Xq,.func (FO "may_do" "Desk.may_do" vL Xw Xx Xy Xr Eo Xz),Xu⟩)
 (Hu : codeIn K Eo "Desk.may_do" = true)
 (wC : keepIn K (.ref fC) = true)
 (Yn : findIn K (.ref bI) "do_wish" = some (some (.ref eF)))
 (Yo : isFn K (.ref eF) = true)
 (Fl : K.lookup eF = some ⟨Te,S9,.func (FO "do_wish" "Desk.do_wish" rW Tf Tg Th Tc Aq Ti),Td⟩)
 (Fo : codeIn K Aq "Desk.do_wish" = true)
 (uc : keepIn K (.ref eF) = true)
 (Qv : findIn K (.ref bI) "take_loan" = some (some (.ref dB)))
 (Qw : isFn K (.ref dB) = true)
 (xV : K.lookup dB = some ⟨Lp,Lj,.func (FO "take_loan" "Desk.take_loan" oE Lq Lr Ls Lk u0 Lw),Ln⟩)
 (xW : codeIn K u0 "Desk.take_loan" = true)
 (oY : keepIn K (.ref dB) = true)
 (Yp : findIn K (.ref bI) "go_down" = some (some (.ref eG)))
 (Yq : isFn K (.ref eG) = true)
 (Fp : K.lookup eG = some ⟨Tq,Tj,.func (FO "go_down" "Desk.go_down" rY Tr Tt Tu Tn Ar Tw),Tp⟩)
 (Fq : codeIn K Ar "Desk.go_down" = true)
 (ud : keepIn K (.ref eG) = true)
 (CK : findIn K (.ref bI) "number_to_tell" = some (some (.ref cH)))
 (CN : isFn K (.ref cH) = true)
 (nT : K.lookup cH = some ⟨zB,zy,.func (FO "number_to_tell" "Desk.number_to_tell" jj zE zF zG zz mZ zH),zA⟩)
 (nU : codeIn K mZ "Desk.number_to_tell" = true)
 (jq : keepIn K (.ref cH) = true)
 (agc : findIn K (.ref bI) "hold" = some (some (.ref ie)))
 (agd : isFn K (.ref ie) = true)
 (Rm : K.lookup ie = some ⟨acV,acS,.func (FO "hold" "Desk.hold" Ds acW acX acY acT Lx acZ),acU⟩)
 (Rn : codeIn K Lx "Desk.hold" = true)
 (Ft : keepIn K (.ref ie) = true)
 (Qx : findIn K (.ref aD) "__init__" = some (some (.ref dC)))
 (Qy : isFn K (.ref dC) = true)
 (xX : K.lookup dC = some ⟨LK,Ly,.func (FO "__init__" "PageLoans.__init__" oF LQ LR Ma Lz u6 Mf),LC⟩)
 (xY : codeIn K u6 "PageLoans.__init__" = true)
 (xZ : keepIn K (.ref dC) = true)
 (Fv : findIn K (.ref aD) "take_ask" = some (some (.ref cM)))
 (Fw : isFn K (.ref cM) = true)
 (pU : K.lookup cM = some ⟨BW,BP,.func (FO "take_ask" "PageLoans.take_ask" jK BX BZ Ca BR nP Cd),BV⟩)
 (pW : codeIn K nP "PageLoans.take_ask" = true)
 (jO : keepIn K (.ref cM) = true)
 (yc : findIn K (.ref aD) "take_answer" = some (some (.ref cB)))
 (yd : isFn K (.ref cB) = true)
 (lO : K.lookup cB = some ⟨wu,wg,.func (FO "take_answer" "PageLoans.take_answer" iJ wy wz wA wj kj wB),wk⟩)
 (lQ : codeIn K kj "PageLoans.take_answer" = true)
 (iR : keepIn K (.ref cB) = true)
 (CQ : findIn K (.ref aD) "take_gave" = some (some (.ref cI)))
 (CT : isFn K (.ref cI) = true)
 (nW : K.lookup cI = some ⟨zM,zJ,.func (FO "take_gave" "PageLoans.take_gave" jl zN zO zP zK m5 zQ),zL⟩)
 (nY : codeIn K m5 "PageLoans.take_gave" = true)
 (jr : keepIn K (.ref cI) = true)
 (Nt : findIn K (.ref aD) "serve" = some (some (.ref dh)))
 (Nu : isFn K (.ref dh) = true)
 (vg : K.lookup dh = some ⟨Jd,Ja,.func (FO "serve" "PageLoans.serve" mq Je Jf Jg Jb tX Jh),Jc⟩)
 (vh : codeIn K tX "PageLoans.serve" = true)
 (m7 : keepIn K (.ref dh) = true)
 (ue : findIn K (.ref aD) "bids_for_first" = some (some (.ref bQ)))
 (uf : isFn K (.ref bQ) = true)
 (jP : K.lookup bQ = some ⟨rC,rn,.func (FO "bids_for_first" "PageLoans.bids_for_first" gD rD rE rF rA jz rG),rB⟩)
 (jQ : codeIn K jz "PageLoans.bids_for_first" = true)
 (gH : keepIn K (.ref bQ) = true)
 (Qz : findIn K (.ref aD) "lend" = some (some (.ref dD)))
 (QB : isFn K (.ref dD) = true)
 (ye : K.lookup dD = some ⟨Mj,Mg,.func (FO "lend" "PageLoans.lend" oG Ml Mm Mp Mh u9 Mq),Mi⟩)
 (yf : codeIn K u9 "PageLoans.lend" = true)
 (oZ : keepIn K (.ref dD) = true)
 (CV : findIn K (.ref aD) "let_write" = some (some (.ref cJ)))
 (CW : isFn K (.ref cJ) = true)
 (nZ : K.lookup cJ = some ⟨zV,zR,.func (FO "let_write" "PageLoans.let_write" jm zW zX zY zT m6 zZ),zU⟩)
 (n6 : codeIn K m6 "PageLoans.let_write" = true)
 (jt : keepIn K (.ref cJ) = true)
 (Fx : findIn K (.ref aD) "let_read" = some (some (.ref cN)))
 (Fy : isFn K (.ref cN) = true)
 (pX : K.lookup cN = some ⟨Cj,Ce,.func (FO "let_read" "PageLoans.let_read" jL Ck Cm Cp Cg nQ Cq),Ci⟩)
 (pY : codeIn K nQ "PageLoans.let_read" = true)
 (jR : keepIn K (.ref cN) = true)
 (age : findIn K (.ref gM) "__init__" = some (some (.ref ig)))
 (agf : isFn K (.ref ig) = true)
 (Ro : K.lookup ig = some ⟨ac3,ac0,.func (FO "__init__" "Hall.__init__" Dt ac4 ac5 ac6 ac1 Mr ac7),ac2⟩)
 (Rp : codeIn K Mr "Hall.__init__" = true)
 (Rq : keepIn K (.ref ig) = true)
 (agg : findIn K (.ref gM) "take" = some (some (.ref ik)))
 (agh : isFn K (.ref ik) = true)
 (Rr : K.lookup ik = some ⟨adb,ac8,.func (FO "take" "Hall.take" Du ade adf adg ac9 Ms adh),ada⟩)
 (Ru : codeIn K Ms "Hall.take" = true)
 (Fz : keepIn K (.ref ik) = true)
 (agi : findIn K (.ref bh) "__init__" = some (some (.ref il)))
 (agj : isFn K (.ref il) = true)
 (Rv : K.lookup il = some ⟨adm,adi,.func (FO "__init__" "Town.__init__" Dv adn ado adp adk Mt adq),adl⟩)
 (Rx : codeIn K Mt "Town.__init__" = true)
 (Ry : keepIn K (.ref il) = true)
 (Yr : findIn K (.ref bh) "do_deed" = some (some (.ref eN)))
 (Ys : isFn K (.ref eN) = true)
 (FJ : K.lookup eN = some ⟨TV,Tz,.func (FO "do_deed" "Town.do_deed" rZ TX TY T6 TJ Av T7),TQ⟩)
 (FN : codeIn K Av "Town.do_deed" = true)
 (ug : keepIn K (.ref eN) = true)
 (Nv : findIn K (.ref bh) "check_desk" = some (some (.ref di)))
 (Nx : isFn K (.ref di) = true)
 (vm : K.lookup di = some ⟨Jl,Ji,.func (FO "check_desk" "Town.check_desk" my Jm Jo Jp Jj tY Jq),Jk⟩)
 (vo : codeIn K tY "Town.check_desk" = true)
 (m8 : keepIn K (.ref di) = true)
 (Ny : findIn K (.ref bh) "check_page" = some (some (.ref dj)))
 (Nz : isFn K (.ref dj) = true)
 (vp : K.lookup dj = some ⟨Ju,Jr,.func (FO "check_page" "Town.check_page" mz Jv Jw Jx Js tZ Jy),Jt⟩)
 (vq : codeIn K tZ "Town.check_page" = true)
 (m9 : keepIn K (.ref dj) = true)
 (Yt : findIn K (.ref bh) "look_at" = some (some (.ref eO)))
 (Yu : isFn K (.ref eO) = true)
 (FP : K.lookup eO = some ⟨Ub,T8,.func (FO "look_at" "Town.look_at" su Uc Ud Ue T9 Aw Ug),Ua⟩)
 (FQ : codeIn K Aw "Town.look_at" = true)
 (uh : keepIn K (.ref eO) = true)
 (aao : findIn K (.ref bh) "put_on" = some (some (.ref fD)))
 (aap : isFn K (.ref fD) = true)
 (Hv : K.lookup fD = some ⟨XH,XC,.func (FO "put_on" "Town.put_on" vM XJ XM XN XD Ep XQ),XF⟩)
 (Hw : codeIn K Ep "Town.put_on" = true)
 (wD : keepIn K (.ref fD) = true)
 (Yv : findIn K (.ref bh) "give_up" = some (some (.ref eQ)))
 (Yw : isFn K (.ref eQ) = true)
 (FT : K.lookup eQ = some ⟨Uk,Uh,.func (FO "give_up" "Town.give_up" sE Ul Um Uo Ui Ax Up),Uj⟩)
 (FW : codeIn K Ax "Town.give_up" = true)
 (um : keepIn K (.ref eQ) = true)
 (U7 : findIn K (.ref bh) "bring_up" = some (some (.ref dW)))
 (U8 : isFn K (.ref dW) = true)
 (Bg : K.lookup dW = some ⟨Qh,Qe,.func (FO "bring_up" "Town.bring_up" qg Qi Qj Qk Qf xR Ql),Qg⟩)
 (Bh : codeIn K xR "Town.bring_up" = true)
 (qF : keepIn K (.ref dW) = true)
 (NB : findIn K (.ref bh) "bring_down" = some (some (.ref dm)))
 (NK : isFn K (.ref dm) = true)
 (vy : K.lookup dm = some ⟨JD,Jz,.func (FO "bring_down" "Town.bring_down" mC JF JG JH JB t7 JK),JC⟩)
 (vA : codeIn K t7 "Town.bring_down" = true)
 (nj : keepIn K (.ref dm) = true)
 (Gy : findIn K (.ref bh) "first_letter" = some (some (.ref cP)))
 (Gz : isFn K (.ref cP) = true)
 (qO : K.lookup cP = some ⟨Eu,Er,.func (FO "first_letter" "Town.first_letter" jX Ew Ex Ey Es pR Ez),Et⟩)
 (qP : codeIn K pR "Town.first_letter" = true)
 (j0 : keepIn K (.ref cP) = true)
 (QC : findIn K (.ref bh) "carry_out" = some (some (.ref dF)))
 (QD : isFn K (.ref dF) = true)
 (yg : K.lookup dF = some ⟨My,Mu,.func (FO "carry_out" "Town.carry_out" oH Mz MF MJ Mw vd MK),Mx⟩)
 (yh : codeIn K vd "Town.carry_out" = true)
 (ph : keepIn K (.ref dF) = true)
 (NP : findIn K (.ref bh) "all_rights" = some (some (.ref dI)))
 (NQ : isFn K (.ref dI) = true)
 (vB : K.lookup dI = some ⟨JP,JL,.func (FO "all_rights" "Town.all_rights" uG JQ JR JS JM t8 JT),JN⟩)
 (vC : codeIn K t8 "Town.all_rights" = true)
 (nu : keepIn K (.ref dI) = true)
 (QF : findIn K (.ref bh) "rights_of" = some (some (.ref dY)))
 (QG : isFn K (.ref dY) = true)
 (yj : K.lookup dY = some ⟨M8,MN,.func (FO "rights_of" "Town.rights_of" wV M9 Nb Nf MP vf Ng),MT⟩)
 (ym : codeIn K vf "Town.rights_of" = true)
 (pq : keepIn K (.ref dY) = true)
 (FZ : findIn K (.ref bh) "waiting_desks" = some (some (.ref cT)))
 (Ga : isFn K (.ref cT) = true)
 (pZ : K.lookup cT = some ⟨Cw,Cr,.func (FO "waiting_desks" "Town.waiting_desks" pH Cy Cz CG Cu nR CJ),Cv⟩)
 (p6 : codeIn K nR "Town.waiting_desks" = true)
 (jT : keepIn K (.ref cT) = true)
 (agk : nsIn K mainGlobals "answer_of" = some (some (.ref iU)))
 (Rz : K.lookup iU = some ⟨adw,adt,.func (FO "answer_of" "answer_of" Dw adx ady adz adu Nh adA),adv⟩)
 (RB : codeIn K Nh "answer_of" = true)
 (RC : keepIn K (.ref iU) = true)
 (aj1 : nsIn K mainGlobals "answers" = some (some (.ref lK)))
 (aa2 : K.lookup lK = some ⟨ahx,ahu,.func (FO "answers" "answers" Ow ahy ahz ahA ahv XR ahB),ahw⟩)
 (aa3 : codeIn K XR "answers" = true)
 (aa4 : keepIn K (.ref lK) = true)
 (aj2 : nsIn K mainGlobals "_law_whole" = some (some (.ref lL)))
 (aa5 : K.lookup lL = some ⟨ahF,ahC,.func (FO "_law_whole" "_law_whole" Ox ahG ahH ahI ahD XS ahJ),ahE⟩)
 (aa6 : codeIn K XS "_law_whole" = true)
 (aa7 : keepIn K (.ref lL) = true)
 (asN : nsIn K mainGlobals "_law_at" = some (some (.ref DP)))
 (amu : K.lookup DP = some ⟨aoM,aoJ,.func (FO "_law_at" "_law_at" ag7 aoN aoO aoP aoK aiS aoQ),aoL⟩)
 (amv : codeIn K aiS "_law_at" = true)
 (amw : keepIn K (.ref DP) = true)
 (amx : nsIn K mainGlobals "_law_same" = some (some (.ref pJ)))
 (agl : K.lookup pJ = some ⟨ajN,ajK,.func (FO "_law_same" "_law_same" VM ajO ajP ajQ ajL aa1 ajR),ajM⟩)
 (agm : codeIn K aa1 "_law_same" = true)
 (agn : keepIn K (.ref pJ) = true)
 (ago : nsIn K mainGlobals "_law_town_of" = some (some (.ref iV)))
 (RD : K.lookup iV = some ⟨adE,adB,.func (FO "_law_town_of" "_law_town_of" Dy adF adG adH adC Ni adI),adD⟩)
 (RG : codeIn K Ni "_law_town_of" = true)
 (RJ : keepIn K (.ref iV) = true)
 (apb : nsIn K mainGlobals "_law_bid" = some (some (.ref uK)))
 (aiY : K.lookup uK = some ⟨amh,ame,.func (FO "_law_bid" "_law_bid" abw ami amj amk amf afH aml),amg⟩)
 (aiZ : codeIn K afH "_law_bid" = true)
 (ai0 : keepIn K (.ref uK) = true)
 (ad6 : nsIn K mainGlobals "_law_lend_out" = some (some (.ref ir)))
 (NT : K.lookup ir = some ⟨ZF,Zz,.func (FO "_law_lend_out" "_law_lend_out" yJ ZG ZJ ZK ZC Hf ZL),ZD⟩)
 (NZ : codeIn K Hf "_law_lend_out" = true)
 (N5 : keepIn K (.ref ir) = true)
 (aj3 : nsIn K mainGlobals "_law_serve" = some (some (.ref lM)))
 (aa8 : K.lookup lM = some ⟨ahN,ahK,.func (FO "_law_serve" "_law_serve" Oz ahO ahP ahQ ahL XX ahR),ahM⟩)
 (aa9 : codeIn K XX "_law_serve" = true)
 (aba : keepIn K (.ref lM) = true)
 (agp : nsIn K mainGlobals "_law_came_up" = some (some (.ref iW)))
 (RK : K.lookup iW = some ⟨adM,adJ,.func (FO "_law_came_up" "_law_came_up" Dz adN adO adP adK Nj adQ),adL⟩)
 (RL : codeIn K Nj "_law_came_up" = true)
 (RM : keepIn K (.ref iW) = true)
 (ahV : nsIn K mainGlobals "_law_enough" = some (some (.ref jN)))
 (Yx : K.lookup jN = some ⟨afL,afI,.func (FO "_law_enough" "_law_enough" Ib afM afN afO afJ Q6 afP),afK⟩)
 (Yy : codeIn K Q6 "_law_enough" = true)
 (Yz : keepIn K (.ref jN) = true)
 (aaq : nsIn K mainGlobals "_law_fulfilled" = some (some (.ref gn)))
 (Hx : K.lookup gn = some ⟨X6,X3,.func (FO "_law_fulfilled" "_law_fulfilled" vN X7 X8 Yb X4 EY Yc),X5⟩)
 (Hy : codeIn K EY "_law_fulfilled" = true)
 (Hz : keepIn K (.ref gn) = true)
 (aar : nsIn K mainGlobals "_law_came_down" = some (some (.ref gq)))
 (HB : K.lookup gq = some ⟨Yh,Yd,.func (FO "_law_came_down" "_law_came_down" vO Yi Yj Yk Ye Fb Yl),Yg⟩)
 (HD : codeIn K Fb "_law_came_down" = true)
 (HH : keepIn K (.ref gq) = true)
 (YB : nsIn K mainGlobals "_law_refusal_of" = some (some (.ref fM)))
 (Gb : K.lookup fM = some ⟨Ut,Uq,.func (FO "_law_refusal_of" "_law_refusal_of" sG Uu Uv Uw Ur Ay Ux),Us⟩)
 (Gd : codeIn K Ay "_law_refusal_of" = true)
 (Ge : keepIn K (.ref fM) = true)
 (ad7 : nsIn K mainGlobals "_law_answered" = some (some (.ref iu)))
 (N6 : K.lookup iu = some ⟨ZR,ZM,.func (FO "_law_answered" "_law_answered" yK ZS ZV ZW ZP Hg ZX),ZQ⟩)
 (N7 : codeIn K Hg "_law_answered" = true)
 (N8 : keepIn K (.ref iu) = true)
 (YC : nsIn K mainGlobals "_law_numbers_of" = some (some (.ref fO)))
 (Gf : K.lookup fO = some ⟨UJ,Uy,.func (FO "_law_numbers_of" "_law_numbers_of" sH UT UW U0 Uz Az U3),UG⟩)
 (Gg : codeIn K Az "_law_numbers_of" = true)
 (Gh : keepIn K (.ref fO) = true)
 (U9 : nsIn K mainGlobals "_law_first_deeds" = some (some (.ref eZ)))
 (Bj : K.lookup eZ = some ⟨Qp,Qm,.func (FO "_law_first_deeds" "_law_first_deeds" qi Qq Qs Qt Qn xU Qu),Qo⟩)
 (Bk : codeIn K xU "_law_first_deeds" = true)
 (Bl : keepIn K (.ref eZ) = true)
 (ad8 : nsIn K mainGlobals "_law_asked_of" = some (some (.ref iw)))
 (Oa : K.lookup iw = some ⟨aab,ZZ,.func (FO "_law_asked_of" "_law_asked_of" yL aac aad aae Z0 Hh aaf),aaa⟩)
 (Ob : codeIn K Hh "_law_asked_of" = true)
 (Od : keepIn K (.ref iw) = true)
 (apR : nsIn K mainGlobals "law" = some (some (.ref V4)))
 (apS : K.lookup V4 = some ⟨asI,asF,.func (FO "law" "law" ak6 asJ asK asL asG amm asM),asH⟩)
 (apT : codeIn K amm "law" = true)
 (apU : keepIn K (.ref V4) = true)
 (asO : nsIn K mainGlobals "NONE" = some (some (.str "none" amn)))
 (asQ : nsIn K mainGlobals "READ" = some (some (.str "read" amo)))
 (apc : nsIn K mainGlobals "WRITE" = some (some (.str "write" aiT)))
 (apd : nsIn K mainGlobals "RANKS" = some (some (.ref qU)))
 (amy : K.lookup qU = some ⟨.type "dict",none,.dict afQ aoR,#[]⟩)
 (amz : KeysLit w.params afQ.toList)
 (aj4 : nsIn K qU "none" = some (some (.int 0 amq)))
 (aj5 : nsIn K qU "read" = some (some (.int 1 amr)))
 (aj6 : nsIn K qU "write" = some (some (.int 2 ams)))
 (asR : nsIn K mainGlobals "DONE" = some (some (.str "done" amt)))
 (ape : nsIn K mainGlobals "WAITS" = some (some (.str "waits" aiU)))
 (avZ : nsIn K mainGlobals "len" = some none)
 (agq : nsIn K mainGlobals "enumerate" = some none)
 (apf : nsIn K mainGlobals "range" = some none)
 (ad9 : nsIn K mainGlobals "isinstance" = some none)
 (av0 : nsIn K mainGlobals "int" = some none)
 (asS : nsIn K mainGlobals "bool" = some none)
 (asT : nsIn K mainGlobals "list" = some none)
 (apg : nsIn K mainGlobals "tuple" = some none)
 (av1 : nsIn K mainGlobals "str" = some none)
   : ∃ fd : FuncData,(∀ (s : Shared) (v : Value),BindsTo s fd ⟨[v],[]⟩ [("_law_script",v)])∧∀ base : Heap,K.In base→base.Ns mainGlobals mg→cZ l.prog w K mg base n8 10 fa fd ["_law_script"] (aiR K) := by
  have e := (mg_of X G apR).symm.trans hfa
  cases e
  have T : Txt K w mg ⟨bc,aZ,aW,aK,aV,aH,bI,aD,gM,bh,yQ,_,gU,_,eY,_,gh,_,gj,_,gk,_,iT,_,fL,_,gW,_,dU,_,gb,_,gY,_,gZ,_,g8,_,fC,_,eF,_,dB,_,eG,_,cH,_,ie,_,dC,_,cM,_,cB,_,cI,_,dh,_,bQ,_,dD,_,cJ,_,cN,_,ig,_,ik,_,il,_,eN,_,di,_,dj,_,eO,_,fD,_,eQ,_,dW,_,dm,_,cP,_,dF,_,dI,_,dY,_,cT,_,iU,_,lK,_,lL,_,DP,_,pJ,_,iV,_,uK,_,ir,_,lM,_,iW,_,jN,_,gn,_,gq,_,fM,_,iu,_,fO,_,eZ,_,iw,_,fa,_,qU⟩ := ⟨Oo adT adU,
   mg_of X G adR,
   Oo ajV ajW,
   mg_of X G ajS,
   Oo ajX ajY,
   mg_of X G ajT,
   Oo ahT ahU,
   mg_of X G ahS,
   Oo ajZ aj0,
   mg_of X G ajU,
   Oo afS afT,
   mg_of X G afR,
   ⟨afU,afV,afW⟩,
   qH,
   eU,
   wZ,
   w6,
   oO,
   uL,
   mJ,
   xf,
   oR,
   sZ,
   lB,
   pK,
   ⟨afX,afY,afZ⟩,
   qI,
   fX,
   xg,
   xj,
   xm,
   uM,
   mK,
   xn,
   oU,
   tu,
   lC,
   pL,
   ⟨adV,adW,adX⟩,
   pM,
   iy,
   uN,
   uO,
   uP,
   uQ,
   tD,
   uR,
   mL,
   qJ,
   jY,
   nF,
   ⟨af0,af1,af2⟩,
   qK,
   jZ,
   xq,
   xr,
   xu,
   xx,
   uT,
   uU,
   xF,
   tE,
   lD,
   pN,
   ⟨aag,aah,aai⟩,
   nG,
   nJ,
   tG,
   tH,
   tK,
   tL,
   qL,
   qM,
   tM,
   tO,
   pO,
   mO,
   ⟨aoV,aoW,aoX,aoY⟩,
   ⟨abG,af4,af5,aoZ⟩,
   mg_of X G aoS,
   dM,
   jd,
   ⟨adY,adZ,ad0,ad1⟩,
   ⟨zj,Qx,Qy,ad2⟩,
   mg_of X G adS,
   fQ,
   eV,
   b7,
   cU,
   cX,
   dZ,
   ⟨ao0,ao1,ao2,ao3⟩,
   ⟨abH,age,agf,ao4⟩,
   mg_of X G aoT,
   pA,
   ⟨ao5,ao6,ao7,ao8⟩,
   ⟨abI,agi,agj,ao9⟩,
   mg_of X G aoU,
   je,
   qW,
   gA,
   gC,
   gG,
   uV,
   aJ aiV aiW aiX,
   (aJ aiV aiW aiX).binds fun _ _ _ _ _ _ us h => by obtain ⟨_,rfl⟩ := Kh h; rfl,
   mg_of X G apa,
   aJ Nk Nm Np,
   (aJ Nk Nm Np).binds fun _ _ _ _ _ _ us h => by obtain ⟨_,_,rfl⟩ := ji h; rfl,
   mg_of X G ad3,
   aJ Ba Bb Bc,
   (aJ Ba Bb Bc).binds fun _ _ _ _ _ _ us h => by obtain ⟨_,_,rfl⟩ := ji h; rfl,
   mg_of X G U4,
   aJ Hi Hj Hk,
   (aJ Hi Hj Hk).binds fun _ _ _ _ _ _ us h => by obtain ⟨_,_,rfl⟩ := ji h; rfl,
   mg_of X G aaj,
   aJ Hl Hm Hn,
   (aJ Hl Hm Hn).binds fun _ _ _ _ _ _ us h => by obtain ⟨_,_,_,rfl⟩ := Ov h; rfl,
   mg_of X G aak,
   aJ Ho Hq Hr,
   (aJ Ho Hq Hr).binds fun _ _ _ _ _ _ us h => by obtain ⟨_,_,rfl⟩ := ji h; rfl,
   mg_of X G aal,
   aJ Q7 Q8 Q9,
   (aJ Q7 Q8 Q9).binds fun _ _ _ _ _ _ us h => by obtain ⟨_,_,rfl⟩ := ji h; rfl,
   mg_of X G af3,
   aJ Fd Fe Ff,
   (aJ Fd Fe Ff).binds fun _ _ _ _ _ _ us h => by obtain ⟨_,rfl⟩ := Kh h; rfl,
   mg_of X G Ym,
   aJ Ra Rb Rc,
   (aJ Ra Rb Rc).binds fun _ _ _ _ _ _ us h => by obtain ⟨_,rfl⟩ := Kh h; rfl,
   aJ Be Bf qD,
   (aJ Be Bf qD).binds fun _ _ _ _ _ _ us h => by obtain ⟨_,_,rfl⟩ := ji h; rfl,
   ⟨U5,U6,qD⟩,
   aJ Nq Nr z6,
   (aJ Nq Nr z6).binds fun _ _ _ _ _ _ us h => by obtain ⟨_,rfl⟩ := Kh h; rfl,
   ⟨ad4,ad5,z6⟩,
   aJ Rf Rg Fg,
   (aJ Rf Rg Fg).binds fun _ _ _ _ _ _ us h => by obtain ⟨_,_,rfl⟩ := ji h; rfl,
   ⟨af6,af7,Fg⟩,
   aJ Rh Ri Fi,
   (aJ Rh Ri Fi).binds fun _ _ _ _ _ _ us h => by obtain ⟨_,_,rfl⟩ := ji h; rfl,
   ⟨af8,af9,Fi⟩,
   aJ Rj Rk Fj,
   (aJ Rj Rk Fj).binds fun _ _ _ _ _ _ us h => by obtain ⟨_,_,rfl⟩ := ji h; rfl,
   ⟨aga,agb,Fj⟩,
   aJ Ht Hu wC,
   (aJ Ht Hu wC).binds fun _ _ _ _ _ _ us h => by obtain ⟨_,_,rfl⟩ := ji h; rfl,
   ⟨aam,aan,wC⟩,
   aJ Fl Fo uc,
   (aJ Fl Fo uc).binds fun _ _ _ _ _ _ us h => by obtain ⟨_,_,rfl⟩ := ji h; rfl,
   ⟨Yn,Yo,uc⟩,
   aJ xV xW oY,
   (aJ xV xW oY).binds fun _ _ _ _ _ _ us h => by obtain ⟨_,_,_,_,rfl⟩ := aq3 h; rfl,
   ⟨Qv,Qw,oY⟩,
   aJ Fp Fq ud,
   (aJ Fp Fq ud).binds fun _ _ _ _ _ _ us h => by obtain ⟨_,_,_,rfl⟩ := Ov h; rfl,
   ⟨Yp,Yq,ud⟩,
   aJ nT nU jq,
   (aJ nT nU jq).binds fun _ _ _ _ _ _ us h => by obtain ⟨_,_,rfl⟩ := ji h; rfl,
   ⟨CK,CN,jq⟩,
   aJ Rm Rn Ft,
   (aJ Rm Rn Ft).binds fun _ _ _ _ _ _ us h => by obtain ⟨_,_,_,_,rfl⟩ := aq3 h; rfl,
   ⟨agc,agd,Ft⟩,
   aJ xX xY xZ,
   (aJ xX xY xZ).binds fun _ _ _ _ _ _ us h => by obtain ⟨_,_,_,rfl⟩ := Ov h; rfl,
   aJ pU pW jO,
   (aJ pU pW jO).binds fun _ _ _ _ _ _ us h => by obtain ⟨_,_,_,rfl⟩ := Ov h; rfl,
   ⟨Fv,Fw,jO⟩,
   aJ lO lQ iR,
   (aJ lO lQ iR).binds fun _ _ _ _ _ _ us h => by obtain ⟨_,_,rfl⟩ := ji h; rfl,
   ⟨yc,yd,iR⟩,
   aJ nW nY jr,
   (aJ nW nY jr).binds fun _ _ _ _ _ _ us h => by obtain ⟨_,_,_,rfl⟩ := Ov h; rfl,
   ⟨CQ,CT,jr⟩,
   aJ vg vh m7,
   (aJ vg vh m7).binds fun _ _ _ _ _ _ us h => by obtain ⟨_,rfl⟩ := Kh h; rfl,
   ⟨Nt,Nu,m7⟩,
   aJ jP jQ gH,
   (aJ jP jQ gH).binds fun _ _ _ _ _ _ us h => by obtain ⟨_,rfl⟩ := Kh h; rfl,
   ⟨ue,uf,gH⟩,
   aJ ye yf oZ,
   (aJ ye yf oZ).binds fun _ _ _ _ _ _ us h => by obtain ⟨_,rfl⟩ := Kh h; rfl,
   ⟨Qz,QB,oZ⟩,
   aJ nZ n6 jt,
   (aJ nZ n6 jt).binds fun _ _ _ _ _ _ us h => by obtain ⟨_,_,rfl⟩ := ji h; rfl,
   ⟨CV,CW,jt⟩,
   aJ pX pY jR,
   (aJ pX pY jR).binds fun _ _ _ _ _ _ us h => by obtain ⟨_,_,rfl⟩ := ji h; rfl,
   ⟨Fx,Fy,jR⟩,
   aJ Ro Rp Rq,
   (aJ Ro Rp Rq).binds fun _ _ _ _ _ _ us h => by obtain ⟨_,_,rfl⟩ := ji h; rfl,
   aJ Rr Ru Fz,
   (aJ Rr Ru Fz).binds fun _ _ _ _ _ _ us h => by obtain ⟨_,_,_,rfl⟩ := Ov h; rfl,
   ⟨agg,agh,Fz⟩,
   aJ Rv Rx Ry,
   (aJ Rv Rx Ry).binds fun _ _ _ _ _ _ us h => by obtain ⟨_,_,_,rfl⟩ := Ov h; rfl,
   aJ FJ FN ug,
   (aJ FJ FN ug).binds fun _ _ _ _ _ _ us h => by obtain ⟨_,_,rfl⟩ := ji h; rfl,
   ⟨Yr,Ys,ug⟩,
   aJ vm vo m8,
   (aJ vm vo m8).binds fun _ _ _ _ _ _ us h => by obtain ⟨_,_,rfl⟩ := ji h; rfl,
   ⟨Nv,Nx,m8⟩,
   aJ vp vq m9,
   (aJ vp vq m9).binds fun _ _ _ _ _ _ us h => by obtain ⟨_,_,rfl⟩ := ji h; rfl,
   ⟨Ny,Nz,m9⟩,
   aJ FP FQ uh,
   (aJ FP FQ uh).binds fun _ _ _ _ _ _ us h => by obtain ⟨_,_,_,rfl⟩ := Ov h; rfl,
   ⟨Yt,Yu,uh⟩,
   aJ Hv Hw wD,
   (aJ Hv Hw wD).binds fun _ _ _ _ _ _ us h => by obtain ⟨_,_,_,_,rfl⟩ := aq3 h; rfl,
   ⟨aao,aap,wD⟩,
   aJ FT FW um,
   (aJ FT FW um).binds fun _ _ _ _ _ _ us h => by obtain ⟨_,_,_,rfl⟩ := Ov h; rfl,
   ⟨Yv,Yw,um⟩,
   aJ Bg Bh qF,
   (aJ Bg Bh qF).binds fun _ _ _ _ _ _ us h => by obtain ⟨_,_,rfl⟩ := ji h; rfl,
   ⟨U7,U8,qF⟩,
   aJ vy vA nj,
   (aJ vy vA nj).binds fun _ _ _ _ _ _ us h => by obtain ⟨_,_,rfl⟩ := ji h; rfl,
   ⟨NB,NK,nj⟩,
   aJ qO qP j0,
   (aJ qO qP j0).binds fun _ _ _ _ _ _ us h => by obtain ⟨_,_,rfl⟩ := ji h; rfl,
   ⟨Gy,Gz,j0⟩,
   aJ yg yh ph,
   (aJ yg yh ph).binds fun _ _ _ _ _ _ us h => by obtain ⟨_,_,_,rfl⟩ := Ov h; rfl,
   ⟨QC,QD,ph⟩,
   aJ vB vC nu,
   (aJ vB vC nu).binds fun _ _ _ _ _ _ us h => by obtain ⟨_,rfl⟩ := Kh h; rfl,
   ⟨NP,NQ,nu⟩,
   aJ yj ym pq,
   (aJ yj ym pq).binds fun _ _ _ _ _ _ us h => by obtain ⟨_,_,rfl⟩ := ji h; rfl,
   ⟨QF,QG,pq⟩,
   aJ pZ p6 jT,
   (aJ pZ p6 jT).binds fun _ _ _ _ _ _ us h => by obtain ⟨_,rfl⟩ := Kh h; rfl,
   ⟨FZ,Ga,jT⟩,
   aJ Rz RB RC,
   (aJ Rz RB RC).binds fun _ _ _ _ _ _ us h => by obtain ⟨_,_,rfl⟩ := ji h; rfl,
   mg_of X G agk,
   aJ aa2 aa3 aa4,
   (aJ aa2 aa3 aa4).binds fun _ _ _ _ _ _ us h => by obtain ⟨_,_,_,rfl⟩ := Ov h; rfl,
   mg_of X G aj1,
   aJ aa5 aa6 aa7,
   (aJ aa5 aa6 aa7).binds fun _ _ _ _ _ _ us h => by obtain ⟨_,rfl⟩ := Kh h; rfl,
   mg_of X G aj2,
   aJ amu amv amw,
   (aJ amu amv amw).binds fun _ _ _ _ _ _ us h => by obtain ⟨_,_,rfl⟩ := ji h; rfl,
   mg_of X G asN,
   aJ agl agm agn,
   (aJ agl agm agn).binds fun _ _ _ _ _ _ us h => by obtain ⟨_,_,rfl⟩ := ji h; rfl,
   mg_of X G amx,
   aJ RD RG RJ,
   (aJ RD RG RJ).binds fun _ _ _ _ _ _ us h => by obtain ⟨_,_,rfl⟩ := ji h; rfl,
   mg_of X G ago,
   aJ aiY aiZ ai0,
   (aJ aiY aiZ ai0).binds fun _ _ _ _ _ _ us h => by obtain ⟨_,_,rfl⟩ := ji h; rfl,
   mg_of X G apb,
   aJ NT NZ N5,
   (aJ NT NZ N5).binds fun _ _ _ _ _ _ us h => by obtain ⟨_,_,rfl⟩ := ji h; rfl,
   mg_of X G ad6,
   aJ aa8 aa9 aba,
   (aJ aa8 aa9 aba).binds fun _ _ _ _ _ _ us h => by obtain ⟨_,_,rfl⟩ := ji h; rfl,
   mg_of X G aj3,
   aJ RK RL RM,
   (aJ RK RL RM).binds fun _ _ _ _ _ _ us h => by obtain ⟨_,_,rfl⟩ := ji h; rfl,
   mg_of X G agp,
   aJ Yx Yy Yz,
   (aJ Yx Yy Yz).binds fun _ _ _ _ _ _ us h => by obtain ⟨_,_,rfl⟩ := ji h; rfl,
   mg_of X G ahV,
   aJ Hx Hy Hz,
   (aJ Hx Hy Hz).binds fun _ _ _ _ _ _ us h => by obtain ⟨_,_,_,rfl⟩ := Ov h; rfl,
   mg_of X G aaq,
   aJ HB HD HH,
   (aJ HB HD HH).binds fun _ _ _ _ _ _ us h => by obtain ⟨_,_,rfl⟩ := ji h; rfl,
   mg_of X G aar,
   aJ Gb Gd Ge,
   (aJ Gb Gd Ge).binds fun _ _ _ _ _ _ us h => by obtain ⟨_,_,rfl⟩ := ji h; rfl,
   mg_of X G YB,
   aJ N6 N7 N8,
   (aJ N6 N7 N8).binds fun _ _ _ _ _ _ us h => by obtain ⟨_,_,rfl⟩ := ji h; rfl,
   mg_of X G ad7,
   aJ Gf Gg Gh,
   (aJ Gf Gg Gh).binds fun _ _ _ _ _ _ us h => by obtain ⟨_,_,rfl⟩ := ji h; rfl,
   mg_of X G YC,
   aJ Bj Bk Bl,
   (aJ Bj Bk Bl).binds fun _ _ _ _ _ _ us h => by obtain ⟨_,_,rfl⟩ := ji h; rfl,
   mg_of X G U9,
   aJ Oa Ob Od,
   (aJ Oa Ob Od).binds fun _ _ _ _ _ _ us h => by obtain ⟨_,_,_,rfl⟩ := Ov h; rfl,
   mg_of X G ad8,
   aJ apS apT apU,
   (aJ apS apT apU).binds fun _ _ _ _ _ _ us h => by obtain ⟨_,rfl⟩ := Kh h; rfl,
   mg_of X G apR,
   ⟨amn,mg_of X G asO⟩,
   ⟨amo,mg_of X G asQ⟩,
   ⟨aiT,mg_of X G apc⟩,
   mg_of X G apd,
   aqA amy amz aj4 aj5 aj6,
   ⟨amt,mg_of X G asR⟩,
   ⟨aiU,mg_of X G ape⟩,
   mg_none_of X G avZ,
   mg_none_of X G agq,
   mg_none_of X G apf,
   mg_none_of X G ad9,
   mg_none_of X G av0,
   mg_none_of X G asS,
   mg_none_of X G asT,
   mg_none_of X G apg,
   mg_none_of X G av1⟩
  exact ⟨_,fun s v => .of_eq rfl,fun base _ _ => asv T⟩
end
theorem walk {l : PySem.W.OpenLaw} {q : Program} {loose : List Str} {XP : (Str→Option Value)→Heap→Prop} {YP : World→Heap→Prop} {d : DefRec} {K : Params→PySem.W.Frag} (hn : l.most = some 63) (hdf : d.params.defaults = [])
 (hY : ∀ (w : World) (h : Heap),YP w h→(K w.params).In h)
 (F : ∀ (w : World) (mg : Str→Option Value) (fa : Addr) (h : Heap),(K w.params).In h→h.Ns mainGlobals mg→mg d.name = some (.ref fa)→
   ∃ fd : FuncData,(∀ (s : Shared) (u : Value),BindsTo s fd ⟨[u],[]⟩ [("_law_script",u)])∧∀ base : Heap,(K w.params).In base→base.Ns mainGlobals mg→cZ l.prog w (K w.params) mg base n8 10 fa fd ["_law_script"] (aiR (K w.params))) :
 PySem.W.WalkO q loose XP YP l.row.toRowW d [] (fun f vs => PySem.call f vs) :=
 L2.amY (n := 63) (k := 10) (x := "_law_script") (CX := fun _ => n8) (sp := fun w => aiR (K w.params)) hn (by decide) hdf ⟨rfl,by decide,by decide⟩ hY F (fun _ _ a ns hl _ hS => ⟨a,ns,rfl,hS,hl,fun _ => rfl⟩) fun _ _ _ _ _ z => z
end iz
open PySem PySem.W PyProof.Rows
set_option maxRecDepth 100000 in
set_option maxHeartbeats 0 in
theorem PySem.Challenge.cw_copydesks_k01_answers_holds : PySem.Challenge.rw_copydesks_k01_answers.Holds := by
 w_on; refine PySem.W.holds_law H1.said fun said => ?_
 refine PySem.W.holds_open (r := PySem.W.OpenLaw.row H1.rw_) (q := H1.q) (loose := ["RANKS"]) (d := H1.d) (kwd := []) (Xt := H1.Xt) (XP := PySem.W.XL H1.q []) (YP := PySem.W.InK H1.K0.heap_1) H1.hl (PySem.W.InK.of H1.KAe) PySem.W.InK.keeps (fun s e => PySem.W.xl_of s (Bool.and_eq_true_iff.mp e).1) PySem.W.XL.keeps H1.hdef H1.hp H1.hk (fun s e => PySem.W.recFacts_of (Bool.and_eq_true_iff.mp e).2) rfl said H1.ok ⟨rfl,rfl,rfl,rfl,rfl,by decide +kernel⟩ ?hw ?hc
 (case hw => w_witness2)
 k_fill
 refine iz.walk (l := PySem.Challenge.rw_copydesks_k01_answers) rfl H1.hdf (fun w h Y => Y) ?F
 case F =>
  intro w mg fa h KX G hmg
  refine' iz.all_mk KX G hmg ?_ ?_ ?_ ?_ ?_ ?_ ?_ ?_ ?_ ?_ ?_ ?_ ?_ ?_ ?_ ?_ ?_ ?_ ?_ ?_ ?_ ?_ ?_ ?_ ?_ ?_ ?_ ?_ ?_ ?_ ?_ ?_ ?_ ?_ ?_ ?_ ?_ ?_ ?_ ?_ ?_ ?_ ?_ ?_ ?_ ?_ ?_ ?_ ?_ ?_ ?_ ?_ ?_ ?_ ?_ ?_ ?_ ?_ ?_ ?_ ?_ ?_ ?_ ?_ ?_ ?_ ?_ ?_ ?_ ?_ ?_ ?_ ?_ ?_ ?_ ?_ ?_ ?_ ?_ ?_ ?_ ?_ ?_ ?_ ?_ ?_ ?_ ?_ ?_ ?_ ?_ ?_ ?_ ?_ ?_ ?_ ?_ ?_ ?_ ?_ ?_ ?_ ?_ ?_ ?_ ?_ ?_ ?_ ?_ ?_ ?_ ?_ ?_ ?_ ?_ ?_ ?_ ?_ ?_ ?_ ?_ ?_ ?_ ?_ ?_ ?_ ?_ ?_ ?_ ?_ ?_ ?_ ?_ ?_ ?_ ?_ ?_ ?_ ?_ ?_ ?_ ?_ ?_ ?_ ?_ ?_ ?_ ?_ ?_ ?_ ?_ ?_ ?_ ?_ ?_ ?_ ?_ ?_ ?_ ?_ ?_ ?_ ?_ ?_ ?_ ?_ ?_ ?_ ?_ ?_ ?_ ?_ ?_ ?_ ?_ ?_ ?_ ?_ ?_ ?_ ?_ ?_ ?_ ?_ ?_ ?_ ?_ ?_ ?_ ?_ ?_ ?_ ?_ ?_ ?_ ?_ ?_ ?_ ?_ ?_ ?_ ?_ ?_ ?_ ?_ ?_ ?_ ?_ ?_ ?_ ?_ ?_ ?_ ?_ ?_ ?_ ?_ ?_ ?_ ?_ ?_ ?_ ?_ ?_ ?_ ?_ ?_ ?_ ?_ ?_ ?_ ?_ ?_ ?_ ?_ ?_ ?_ ?_ ?_ ?_ ?_ ?_ ?_ ?_ ?_ ?_ ?_ ?_ ?_ ?_ ?_ ?_ ?_ ?_ ?_ ?_ ?_ ?_ ?_ ?_ ?_ ?_ ?_ ?_ ?_ ?_ ?_ ?_ ?_ ?_ ?_ ?_ ?_ ?_ ?_ ?_ ?_ ?_ ?_ ?_ ?_ ?_ ?_ ?_ ?_ ?_ ?_ ?_ ?_ ?_ ?_ ?_ ?_ ?_ ?_ ?_ ?_ ?_ ?_ ?_ ?_ ?_ ?_ ?_ ?_ ?_ ?_ ?_ ?_ ?_ ?_ ?_ ?_ ?_ ?_ ?_ ?_ ?_ ?_ ?_ ?_ ?_ ?_ ?_ ?_ ?_ ?_ ?_ ?_ ?_ ?_ ?_ ?_ ?_ ?_ ?_ ?_ ?_ ?_ ?_ ?_ ?_ ?_ ?_ ?_ ?_ ?_ ?_ ?_ ?_ ?_ ?_ ?_ ?_ ?_ ?_ ?_ ?_ ?_ ?_ ?_ ?_ ?_ ?_ ?_ ?_ ?_ ?_ ?_ ?_ ?_ ?_ ?_ ?_ ?_ ?_ ?_ ?_ ?_ ?_ ?_ ?_ ?_ ?_ ?_ ?_ ?_ ?_ ?_ ?_ ?_ ?_ ?_ ?_ ?_ ?_ ?_ ?_ ?_ ?_ ?_ ?_ ?_ ?_ ?_ ?_ ?_ ?_ ?_ ?_ ?_ ?_ ?_ ?_ ?_ ?_ ?_ ?_ ?_ ?_ ?_ ?_ ?_ ?_ ?_ ?_ ?_ ?_ ?_ ?_ ?_ ?_ ?_ ?_ ?_ ?_ ?_ ?_ ?_ ?_ ?_ ?_ ?_ ?_ ?_ ?_ ?_ ?_ ?_
  all_goals try first | k_is | kernel_rfl | decide | exact ⟨⟨_,_,rfl,rfl⟩,⟨⟨_,_,rfl,rfl⟩,⟨⟨_,_,rfl,rfl⟩,trivial⟩⟩⟩
