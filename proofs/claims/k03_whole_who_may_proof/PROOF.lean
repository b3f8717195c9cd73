import PyProof.Rows.All
import Wide.All
import OpenK.AllK
import Wide.FinOn
import Lean
import PyProof.EqAt
import PyProof.EqKinds
import PyProof.NeKinds
import PyProof.TupleCall
import PySem.Challenge.RW_copydesks_k03_whole_who_may
set_option Elab.async false
set_option maxRecDepth 100000
set_option maxHeartbeats 4000000
namespace H1
open PySem PySem.W PySem.Calls PyProof.Rows
noncomputable def fN {α:Type} (n:Nat) (k:Nat->α):α := @Nat.rec (λ_=>α) (k 0) (λm _=>k (Nat.succ m)) n
theorem arp{α:Type}(n:Nat)(k:Nat->α):fN n k=k n:=by cases n<;>rfl
noncomputable def run (tb:String->Option Builtin) (p:Program) (w:World) (n₀:Nat) (ann:Option Value):Nat->SharedT->Thread->Option SharedT
 | 0,_,_=>none
 | n+1,s,t=>match through t with
   | true=>some s
   | false=>match stepOk n₀ ann t with
     | false=>none
     | true=>match stepT (denote tb) p w s t with
       | some (⟨T,k,l,g,d,tk,os⟩,t')=>fN tk λtk=>fN k λk=>run tb p w n₀ ann n ⟨T,k,l,g,d,tk,os⟩ t'
       | none=>none
section
variable{tb:String->Option Builtin}{p:Program}{w:World}{n₀:Nat}{ann:Option Value}
theorem alZ:∀{n:Nat} {s s':SharedT} {t:Thread},run tb p w n₀ ann n s t=some s'->topRun tb p w n₀ ann n s.abs t=some s'.abs
 | 0,_,_,_,h=>by cases h
 | n+1,s,s',t,h=>by
   unfold run at h
   unfold topRun
   cases he:through t with
   | true=>rw[he]at h;cases h;rfl
   | false =>
     rw[he]at h
     cases hk:stepOk n₀ ann t with
     | false=>rw[hk]at h;cases h
     | true =>
       rw[hk]at h
       cases hs:stepT (denote tb) p w s t with
       | none=>rw[hs]at h;cases h
       | some r =>
         obtain⟨⟨T,k,l,g,d,tk,os⟩,t₂⟩:=r
         rw[hs]at h
         rw[stepT_spec hs]
         dsimp only at h
         rw[arp,arp]at h
         exact alZ h
end
def looks(p q:Program)(loose:List Str)(Xt:Shared->Bool){α:Type}(Yf:Shared->α)(g0:Bool)(H₀:Heap)(s:Shared) :=
 (staticsOk (importedModules p.main.body) H₀ s.heap && namesBound p s.heap && gensDone s && laidKept H₀ s.heap,openSeen q loose (importedModules p.main.body) Xt g0 s,Yf s)
def looks0(p q:Program)(loose:List Str)(Xt:Shared->Bool)(H₀:Heap)(s:Shared) :=
 (staticsOk (importedModules p.main.body) H₀ s.heap && namesBound p s.heap && gensDone s && laidKept H₀ s.heap,openSeen q loose (importedModules p.main.body) Xt true s)
theorem left{p q:Program}{loose:List Str}{Xt:Shared->Bool}{α:Type}{Yf:Shared->α}{Ya:World->α}{N M:Nat}{g0:Bool}{T₀:Params->BT}{n₀:Nat}{life:Life}{gs₀:Array GenState}{d₀:Drawn}{k₀:Nat}{ann:Option Value}
 (open_:∀w:World,(fencedOpening treeTable p w N).map (λs=>(s.heap,s.gens,s.drawn,s.toks))=some (absHeap (T₀ w.params) n₀ life,gs₀,d₀,k₀))
 (size:∀w:World,((absHeap (T₀ w.params) n₀ life).isNs mainGlobals && gs₀.size == 0,(absHeap (T₀ w.params) n₀ life).nsMap mainGlobals "__annotations__")=(true,ann))
 (h:∀w:World,(λos=>(run treeTable p w n₀ ann M ⟨T₀ w.params,n₀,life,gs₀,d₀,k₀,os⟩ (topStub p)).map λs=>looks p q loose Xt Yf g0 (absHeap (T₀ w.params) n₀ life) s.abs)=λ_=>some (true,openGood q loose,Ya w))
 (le:Nat.ble M N=true):LeftO p q loose Xt Yf Ya N g0:=λw=>by
 obtain⟨⟨h0,gs,d,k,os⟩,e,e'⟩:=Option.map_eq_some_iff.mp (open_ w)
 obtain⟨rfl,rfl,rfl,rfl⟩:h0=absHeap (T₀ w.params) n₀ life/\gs=gs₀/\d=d₀/\k=k₀:=by simpa using e'
 obtain⟨z1,z3⟩:_/\_:=by simpa only[Prod.mk.injEq] using size w
 obtain⟨sT,r0,l0⟩:=Option.map_eq_some_iff.mp (congrFun (h w) os)
 obtain⟨l1,l2,l3⟩:_/\_/\_:=by simpa only[looks,Prod.mk.injEq] using l0
 have r:=topRun_mono (N - M) _ _ _ _ (alZ r0)
 rw[show M+(N - M)=N by have:=Nat.le_of_ble_eq_true le;lia]at r
 have t:topFrom treeTable p w N ⟨absHeap (T₀ w.params) n₀ life,gs,d,k,os⟩=some sT.abs:=by
  unfold topFrom
  dsimp only
  rw[z1,absHeap_size,z3]
  have r':topRun treeTable p w n₀ ann N ⟨absHeap (T₀ w.params) n₀ life,gs,d,k,os⟩ (topStub p)=some sT.abs:=r
  rw[r']
  show(match staticsOk (importedModules p.main.body) (absHeap (T₀ w.params) n₀ life) sT.abs.heap && namesBound p sT.abs.heap && gensDone sT.abs && laidKept (absHeap (T₀ w.params) n₀ life) sT.abs.heap with | true=>_ | false=>_)=_
  rw[l1]
 unfold openEnds
 rw[e]
 show(topFrom treeTable p w N _).map _=_
 rw[t]
 exact congrArg some (Prod.ext l2 l3)
theorem avS{p q:Program}{loose:List Str}{Xt:Shared->Bool}{α:Type}{Yf:Shared->α}{Ya:World->α}{N M:Nat}{g0:Bool}{T₀:Params->BT}{n₀:Nat}{life:Life}{gs₀:Array GenState}{d₀:Drawn}{k₀:Nat}{ann:Option Value}(row:String)
 (open_:∀w:World,(fencedOpening treeTable p w N).map (λs=>(s.heap,s.gens,s.drawn,s.toks))=some (absHeap (T₀ w.params) n₀ life,gs₀,d₀,k₀))
 (size:∀w:World,((absHeap (T₀ w.params) n₀ life).isNs mainGlobals && gs₀.size == 0,(absHeap (T₀ w.params) n₀ life).nsMap mainGlobals "__annotations__")=(true,ann))
 (h0:∀w:World,(λos=>(run treeTable p (w.withFollow row false) n₀ ann M ⟨T₀ (w.withFollow row false).params,n₀,life,gs₀,d₀,k₀,os⟩ (topStub p)).map λs=>looks p q loose Xt Yf g0 (absHeap (T₀ (w.withFollow row false).params) n₀ life) s.abs)=λ_=>some (true,openGood q loose,Ya (w.withFollow row false)))
 (h1:∀w:World,(λos=>(run treeTable p (w.withFollow row true) n₀ ann M ⟨T₀ (w.withFollow row true).params,n₀,life,gs₀,d₀,k₀,os⟩ (topStub p)).map λs=>looks p q loose Xt Yf g0 (absHeap (T₀ (w.withFollow row true).params) n₀ life) s.abs)=λ_=>some (true,openGood q loose,Ya (w.withFollow row true)))
 (le:Nat.ble M N=true):LeftO p q loose Xt Yf Ya N g0 :=
 left open_ size (λw=>by
  have e:=World.withFollow_self w row
  cases hb:w.params.followText row with
  | false=>rw[hb]at e;have:=h0 w;rw[e]at this;exact this
  | true=>rw[hb]at e;have:=h1 w;rw[e]at this;exact this) le
theorem glue{β γ:Type}{r:Option β}{f:β->γ}{δ:Type}{g:β->δ}{a:γ}{b:δ}(x:r.map f=some a)(y:r.map g=some b):r.map (λs=>(f s,g s))=some (a,b):=by
 cases r with
 | none=>cases x
 | some s=>cases x;cases y;rfl
theorem both{p q:Program}{loose:List Str}{Xt:Shared->Bool}{α:Type}{Yf:Shared->α}{M:Nat}{n₀:Nat}{life:Life}{gs₀:Array GenState}{d₀:Drawn}{k₀:Nat}{ann:Option Value}{w:World}{T:BT}{y:α}
 (x:(λos=>(run treeTable p w n₀ ann M ⟨T,n₀,life,gs₀,d₀,k₀,os⟩ (topStub p)).map λs=>looks0 p q loose Xt (absHeap T n₀ life) s.abs)=λ_=>some (true,openGood q loose))
 (z:(λos=>(run treeTable p w n₀ ann M ⟨T,n₀,life,gs₀,d₀,k₀,os⟩ (topStub p)).map λs=>Yf s.abs)=λ_=>some y) :
 (λos=>(run treeTable p w n₀ ann M ⟨T,n₀,life,gs₀,d₀,k₀,os⟩ (topStub p)).map λs=>looks p q loose Xt Yf true (absHeap T n₀ life) s.abs)=λ_=>some (true,openGood q loose,y):=by
 funext os
 have e:=glue (congrFun x os) (congrFun z os)
 cases h:run treeTable p w n₀ ann M ⟨T,n₀,life,gs₀,d₀,k₀,os⟩ (topStub p)with
 | none=>rw[h]at e;cases e
 | some s =>
   rw[h]at e
   simp only[Option.map_some,Option.some.injEq,Prod.mk.injEq,looks0,looks]at e ⊢
   exact⟨e.1.1,e.1.2,e.2⟩
noncomputable def mkT (l:List Obj):Nat->Nat->Nat->BT
 | 0,_,_=>.nil
 | f+1,a,b=>match l[b]? with
   | some o=>.node o (mkT l f (2*a) (a+b)) (mkT l f (2*a) (2*a+b))
   | none=>.nil
noncomputable def T0 (P:Params):BT:=mkT (boot_heap P).objs.toList 12 1 0
theorem t0(P:Params):absHeap (T0 P) 11 {}=boot_heap P:=by kernel_rfl
theorem opens{p:Program}{N:Nat}(e:opening p=plainProg p.main.scope.names)(hN:Nat.ble 600 N=true)(f:∀s,fenceModules? p s=some s)(w:World):(fencedOpening treeTable p w N).map (λs=>(s.heap,s.gens,s.drawn,s.toks))=some (absHeap (T0 w.params) 11 {},#[],boot_drawn,boot_toks):=by
 rw[t0];exact boot_open e hN f w
theorem sizes(w:World):((absHeap (T0 w.params) 11 {}).isNs mainGlobals && (#[]:Array GenState).size == 0,(absHeap (T0 w.params) 11 {}).nsMap mainGlobals "__annotations__")=(true,some (.ref 6)):=by
 rw[t0];kernel_rfl
end H1
lay_quick H1.run H1.looks0
set_option Elab.async false
set_option linter.all false
set_option maxRecDepth 100000
namespace PySem
theorem Dg:0<=sizeLine:=by decide
theorem zz1:1<=sizeLine:=by decide
theorem vC:2<=sizeLine:=by decide
theorem zz3:3<=sizeLine:=by decide
theorem zz4:4<=sizeLine:=by decide
theorem zz5:5<=sizeLine:=by decide
theorem zz6:6<=sizeLine:=by decide
theorem zz7:7<=sizeLine:=by decide
theorem zz8:8<=sizeLine:=by decide
theorem zz9:9<=sizeLine:=by decide
end PySem
namespace L2
theorem lA{α β:Type}{p r q:α->β->Prop}{C:Prop}(h:∃x y,p x y/\r x y/\q x y)(k:∀x y,p x y->r x y->q x y->C):C:=Exists.elim h λx h=>Exists.elim h λy h=>k x y h.1 h.2.1 h.2.2
theorem ex3{β:Type}{p q:β->Prop}{C:Prop}(h:∃y,p y/\q y)(k:∀y,p y->q y->C):C:=Exists.elim h λy h=>k y h.1 h.2
theorem ex4{α β:Type}{p q:α->β->Prop}{C:Prop}(h:∃x y,p x y/\q x y)(k:∀x y,p x y->q x y->C):C:=Exists.elim h λx h=>Exists.elim h λy h=>k x y h.1 h.2
open PySem PySem.Spec PyProof.Rows
abbrev Key:=Sum Int Str
def ab0:Key->Value->Bool
 | .inl k,v=>Value.isInt k v
 | .inr x,v=>Value.isStrOf x v
def ay9(w:World):Key->Int
 | .inl k=>hashInt k
 | .inr x=>hashStr w x
theorem iz:∀{k:Key} {v:Value},ab0 k v=true->(∃i t,k=Sum.inl i/\v=Value.int i t)\/(∃x t,k=Sum.inr x/\v=Value.str x t)
 | .inl i,v,h=>by
   obtain⟨t,e⟩:=Value.isInt_shape (k:=i) (v:=v) h
   exact .inl ⟨i,t,rfl,e⟩
 | .inr x,v,h=>by
   obtain⟨t,e⟩:=Value.isStrOf_shape (x:=x) (v:=v) h
   exact .inr ⟨x,t,rfl,e⟩
theorem akN(i:Int)(t:Tok):ab0 (.inl i) (.int i t)=true:=by simp[ab0,Value.isInt]
theorem akO(x:Str)(t:Tok):ab0 (.inr x) (.str x t)=true:=by simp[ab0,Value.isStrOf]
theorem ar8(a b:Int):decide ((Sum.inl a:Key)=Sum.inl b)=(a == b):=by
 by_cases e:a=b
 ·subst e;simp
 ·have h:¬(Sum.inl a:Key)=Sum.inl b:=λq=>e (Sum.inl.inj q)
  rw[decide_eq_false h]
  exact(beq_eq_false_iff_ne.mpr e).symm
theorem ar9(a b:Str):decide ((Sum.inr a:Key)=Sum.inr b)=decide (a=b):=by
 by_cases e:a=b
 ·subst e;simp
 ·have h:¬(Sum.inr a:Key)=Sum.inr b:=λq=>e (Sum.inr.inj q)
  rw[decide_eq_false h,decide_eq_false e]
theorem asa(a:Int)(b:Str):decide ((Sum.inl a:Key)=Sum.inr b)=false:=decide_eq_false (λq=>nomatch q)
theorem asb(a:Str)(b:Int):decide ((Sum.inr a:Key)=Sum.inl b)=false:=decide_eq_false (λq=>nomatch q)
def ik(prog:Program)(w:World):PySem.KeyKind prog w Key where
 is:=ab0
 hash:=ay9 w
 inj:=λv a b ha hb=>by
  rcases iz ha with ⟨i,t,rfl,rfl⟩ | ⟨x,t,rfl,rfl⟩
  ·rcases iz hb with ⟨j,u,rfl,e⟩ | ⟨y,u,rfl,e⟩
   ·injection e with e1 _;rw[e1]
   ·exact nomatch e
  ·rcases iz hb with ⟨j,u,rfl,e⟩ | ⟨y,u,rfl,e⟩
   ·exact nomatch e
   ·injection e with e1 _;rw[e1]
 byValue:=λk v h=>by
  rcases iz h with ⟨i,t,rfl,rfl⟩ | ⟨x,t,rfl,rfl⟩<;>rfl
 pyHash:=λhv h=>by
  rcases iz hv with ⟨i,t,rfl,rfl⟩ | ⟨x,t,rfl,rfl⟩
  ·exact wpAny_pyHash_int h
  ·exact wpAny_pyHash_str h
 eqBool:=λhu hv h=>by
  rcases iz hu with ⟨i,t,rfl,rfl⟩ | ⟨x,t,rfl,rfl⟩
  ·rcases iz hv with ⟨j,u,rfl,rfl⟩ | ⟨y,u,rfl,rfl⟩
   ·rw[ar8]at h;exact wpAny_eqBool_int h
   ·rw[asa]at h;exact SeqAt.EqAt.int_str i t y u _ _ _ _ h
  ·rcases iz hv with ⟨j,u,rfl,rfl⟩ | ⟨y,u,rfl,rfl⟩
   ·rw[asb]at h;exact SeqAt.EqAt.str_int x t j u _ _ _ _ h
   ·rw[ar9]at h;exact wpAny_eqBool_str h
 «strs»:=λk x t v h=>by
  rcases iz h with ⟨i,u,rfl,e⟩ | ⟨y,u,rfl,e⟩
  ·exact nomatch e
  ·injection e with e1 _
   subst e1
   cases v<;>rfl
theorem afM(prog:Program)(w:World)(i:Int)(t:Tok):(ik prog w).is (.inl i) (.int i t)=true:=akN i t
theorem afN(prog:Program)(w:World)(x:Str)(t:Tok):(ik prog w).is (.inr x) (.str x t)=true:=akO x t
end L2
namespace L2
open PySem PySem.Spec PyProof.Rows
inductive V where
 | non | bl (b:Bool) | int (i:Int) | str (x:Str) | byt (b:Array UInt8) | flt (b:UInt64) | ref (a:Addr) | ty (n:String)
 deriving DecidableEq
def RelV:V->Value->Prop
 | .non,u=>u=Value.none
 | .bl b,u=>u=Value.bool b
 | .int i,u=>∃t,u=Value.int i t
 | .str x,u=>∃t,u=Value.str x t
 | .byt b,u=>∃t,u=Value.bytes b t
 | .flt b,u=>∃t,u=Value.float b t
 | .ref a,u=>u=Value.ref a
 | .ty n,u=>u=Value.type n
abbrev Vals:List V->List Value->Prop:=Paired RelV
theorem Vals.length{xs:List V}{us:List Value}(r:Vals xs us):xs.length=us.length:=Paired.length r
theorem Vals.get:∀{xs:List V} {us:List Value} {i:Nat} {x:V},Vals xs us->xs[i]? = some x->∃u,us[i]? = some u/\RelV x u
 | _,_,_,_,.nil,e=>by simp at e
 | _,_,0,_,.cons r _,e=>by simp at e;subst e;exact⟨_,rfl,r⟩
 | _,_,i+1,x,.cons _ t,e=>by
   obtain⟨u,h1,h2⟩:=Vals.get (i:=i) (x:=x) t (by simpa using e)
   exact⟨u,by simpa using h1,h2⟩
theorem Vals.set{x:V}{u:Value}(r:RelV x u):∀{xs:List V} {us:List Value} (i:Nat),Vals xs us->Vals (xs.set i x) (us.set i u)
 | _,_,_,.nil=>.nil
 | _,_,0,.cons _ t=>.cons r t
 | _,_,i+1,.cons q t=>.cons q (Vals.set r i t)
theorem Vals.append:∀{xs ys:List V} {us ws:List Value},Vals xs us->Vals ys ws->Vals (xs++ys) (us++ws)
 | _,_,_,_,.nil,s=>s
 | _,_,_,_,.cons r t,s=>.cons r (Vals.append t s)
theorem Vals.take:∀{xs:List V} {us:List Value} (n:Nat),Vals xs us->Vals (xs.take n) (us.take n)
 | _,_,0,_=>.nil
 | _,_,_+1,.nil=>.nil
 | _,_,n+1,.cons r t=>.cons r (Vals.take n t)
theorem Vals.drop:∀{xs:List V} {us:List Value} (n:Nat),Vals xs us->Vals (xs.drop n) (us.drop n)
 | _,_,0,r=>r
 | _,_,_+1,.nil=>.nil
 | _,_,n+1,.cons _ t=>Vals.drop n t
def Dh:Option V->Option Value->Prop
 | some v,some u=>RelV v u
 | none,none=>True
 | _,_=>False
def KV{κ:Type}:List (κ×V)->List (κ×Value)->Prop:=Paired λ(p:κ×V) (q:κ×Value)=>p.1=q.1/\RelV p.2 q.2
def kV:Key->V
 | .inl i=>.int i
 | .inr x=>.str x
inductive HO where
 | lst (xs:List V)
 | tup (xs:List V)
 | dK (kvs:List (Key×V)) | dT (kvs:List (List Key×V))
 | set (S:Int->Bool) (n:Nat)
 | ins (C dx:Addr) (fs:List (Str×V))
 | own (x:Addr)
 | xd (fs:List (Str×V))
 | met (f x:Addr)
 | rng (lo hi:Int)
 | frz (o:Obj) (u:HO)
 | tbl (ps:Array Value)
 | ext (φ:Heap->Prop)
abbrev Hp:=Addr->Option HO
def upd(H:Hp)(a:Addr)(o:HO):Hp:=λb=>if b=a then some o else H b
theorem aj{H:Hp}{a:Addr}{o:HO}:upd H a o a=some o:=by unfold upd;rw[if_pos rfl]
theorem aq{H:Hp}{a b:Addr}{o:HO}(h:b≠a):upd H a o b=H b:=by unfold upd;rw[if_neg h]
theorem ajK{H:Hp}{a:Addr}{o u:HO}:upd (upd H a o) a u=upd H a u:=by
 funext b;unfold upd;split<;>rfl
theorem ju{H:Hp}{a b:Addr}{o u:HO}(h:H a=some o)(h':H b=some u)(d:o≠u):a≠b:=by
 intro e;subst e;rw[h]at h';exact d (Option.some.inj h')
theorem aF{H:Hp}{a b:Addr}{o:HO}(h:H a=some o)(h':H b=none):a≠b:=by
 intro e;subst e;rw[h]at h';cases h'
section
variable(P:Program)(w:World)
def fV(H:Hp)(h:Heap)(a:Addr):HO->Prop
 | .lst xs=>xs.length<=sizeLine/\∃(its:List Value) (n:Nat),Vals xs its/\h.get? a=some {cls:=.type "list",data:=.seq its.toArray n}
 | .tup xs=>xs.length<=sizeLine/\∃its:List Value,Vals xs its/\IsTup h a its.toArray
 | .dK kvs=>kvs.length<=sizeLine/\(a == sysModules)=false/\∃vs,KV kvs vs/\h.DictOf (ik P w) a vs
 | .dT kvs=>kvs.length<=sizeLine/\(a == sysModules)=false/\∃xs:List (List Key×Addr×Value),
    Paired (λ(p:List Key×V) (q:List Key×Addr×Value)=>p.1=q.1/\H q.2.1=some (.tup (p.1.map kV))/\RelV p.2 q.2.2) kvs xs/\
    ∃o es ep,h.get? a=some o/\o.ExactDict/\o.data=.dict es ep/\es.toList=xs.map (entryOfKey (tupleKind (ik P w)))/\(xs.map (·.1)).Nodup
 | .set S n=>h.SetOf (intKind P w) a S n
 | .ins C dx fs=>H dx=some (.own a)/\fs.length<=1000/\dx≠a/\h.get? a=some (PySem.W.instObj C dx)/\
    ∃mA,h.Ns1 dx mA/\(∀f,Dh (fs.lookup f) (mA f))/\PySem.Within mA (fs.map (·.1))
 | .own _=>∃o,h.get? a=some o
 | .xd fs=>∃mA,h.Ns1 a mA/\∀f,Dh (fs.lookup f) (mA f)
 | .rng lo hi=>∃t u v,h.get? a=some {cls:=.type "range",data:=.fields #[.int lo t,.int hi u,.int 1 v]}
 | .frz o u=>h.get? a=some o/\fV H h a u
 | .tbl ps=>h.get? a=some {cls:=.none,data:=.fields ps}
 | .met f x=>h.get? a=some (PySem.W.methodObj (.ref f) (.ref x))
 | .ext φ=>φ h/\(∃o,h.get? a=some o)/\∀h1 h2:Heap,φ h1->(∀o,h1.get? a=some o->h2.get? a=some o)->φ h2
def Ih(H:Hp)(h:Heap):Prop:=∀a o,H a=some o->fV P w H h a o
end
section
variable{P:Program}{w:World}{H H':Hp}{h h':Heap}{a:Addr}{o:HO}
theorem fV.lt(x:fV P w H h a o):a<h.objs.size:=by
 cases o with
 | lst xs=>obtain⟨_,_,_,_,e⟩:=x;exact Heap.lt_size e
 | tup xs=>obtain⟨_,_,_,p⟩:=x;exact p.lt
 | dK kvs=>obtain⟨_,_,_,_,o,_,_,e,_⟩:=x;exact Heap.lt_size e
 | dT kvs=>obtain⟨_,_,_,_,o,_,_,e,_⟩:=x;exact Heap.lt_size e
 | set S n=>obtain⟨o,_,_,_,e,_⟩:=x;exact Heap.lt_size e
 | ins C dx fs=>obtain⟨_,_,_,e,_⟩:=x;exact Heap.lt_size e
 | own y=>obtain⟨_,e⟩:=x;exact Heap.lt_size e
 | xd fs=>obtain⟨_,⟨_,_,_,e,_⟩,_⟩:=x;exact Heap.lt_size e
 | rng lo hi=>obtain⟨_,_,_,e⟩:=x;exact Heap.lt_size e
 | frz ob u=>obtain⟨e,_⟩:=x;exact Heap.lt_size e
 | tbl ps=>exact Heap.lt_size (show h.get? a=some _ from x)
 | met f y=>exact Heap.lt_size (show h.get? a=some _ from x)
 | ext φ=>obtain⟨_,⟨_,e⟩,_⟩:=x;exact Heap.lt_size e
theorem Paired.asd{α β:Type}{F G:α->β->Prop}:∀{l₁:List α} {l₂:List β},Paired F l₁ l₂->(∀a b,F a b->G a b)->Paired G l₁ l₂
 | _,_,.nil,_=>.nil
 | _,_,.cons r t,f=>.cons (f _ _ r) (Paired.asd t f)
theorem fV.stay(x:fV P w H h a o)(k:∀b u,(b=a\/H b=some (.own a))->h.get? b=some u->h'.get? b=some u)
 (ho:∀b,H b=some (.own a)->H' b=some (.own a)) (ht:∀b xs,H b=some (.tup xs)->H' b=some (.tup xs)):fV P w H' h' a o:=by
 induction o with
 | lst xs=>obtain⟨z,its,n,r,e⟩:=x;exact⟨z,its,n,r,k _ _ (.inl rfl) e⟩
 | tup xs=>obtain⟨z,its,r,ob,e,c⟩:=x;exact⟨z,its,r,ob,k _ _ (.inl rfl) e,c⟩
 | dK kvs=>obtain⟨z,y,vs,r,ob,es,ep,e,c⟩:=x;exact⟨z,y,vs,r,ob,es,ep,k _ _ (.inl rfl) e,c⟩
 | dT kvs =>
   obtain⟨z,y,xs,r,ob,es,ep,e,c⟩:=x
   exact⟨z,y,xs,Paired.asd r λp q z=>⟨z.1,ht _ _ z.2.1,z.2.2⟩,ob,es,ep,k _ _ (.inl rfl) e,c⟩
 | set S n=>obtain⟨ob,es,ep,t,e,c⟩:=x;exact⟨ob,es,ep,t,k _ _ (.inl rfl) e,c⟩
 | ins C dx fs =>
   obtain⟨d,z,ne,e,mA,⟨od,es,ep,e2,c⟩,r⟩:=x
   exact⟨ho _ d,z,ne,k _ _ (.inl rfl) e,mA,⟨od,es,ep,k _ _ (.inr d) e2,c⟩,r⟩
 | own y=>obtain⟨ob,e⟩:=x;exact⟨ob,k _ _ (.inl rfl) e⟩
 | xd fs=>obtain⟨mA,⟨od,es,ep,e,c⟩,r⟩:=x;exact⟨mA,⟨od,es,ep,k _ _ (.inl rfl) e,c⟩,r⟩
 | rng lo hi=>obtain⟨t,u,v,e⟩:=x;exact⟨t,u,v,k _ _ (.inl rfl) e⟩
 | frz ob u ih=>obtain⟨e,q⟩:=x;exact⟨k _ _ (.inl rfl) e,ih q⟩
 | tbl ps =>
   have e:h.get? a=some {cls:=.none,data:=.fields ps}:=x
   show h'.get? a=some {cls:=.none,data:=.fields ps}
   exact k a _ (.inl rfl) e
 | met f y =>
   have e:h.get? a=some (PySem.W.methodObj (.ref f) (.ref y)):=x
   show h'.get? a=some (PySem.W.methodObj (.ref f) (.ref y))
   exact k a _ (.inl rfl) e
 | ext φ=>obtain⟨p,⟨o,e⟩,st⟩:=x;exact⟨st _ _ p λo q=>k _ _ (.inl rfl) q,⟨o,k _ _ (.inl rfl) e⟩,st⟩
theorem Ih.lt(x:Ih P w H h)(e:H a=some o):a<h.objs.size:=(x a o e).lt
theorem Ih.fresh(x:Ih P w H h)(e:h.objs.size<=a):H a=none:=by
 cases q:H a with
 | none=>rfl
 | some u=>exact absurd (Nat.lt_of_lt_of_le (x.lt q) e) (Nat.lt_irrefl _)
theorem Ih.kept(x:Ih P w H h)(k:∀b u,h.get? b=some u->h'.get? b=some u):Ih P w H h':=λa o e =>
 (x a o e).stay (λb u _ q=>k b u q) (λ_ q=>q) λ_ _ q=>q
theorem Ih.laid(x:Ih P w H h)(k:∀b u,h.get? b=some u->h'.get? b=some u)(hp:h.objs.size<=a)(new:fV P w (upd H a o) h' a o):Ih P w (upd H a o) h':=λb u e=>by
 have hn:=x.fresh hp
 by_cases hb:b=a
 ·subst hb;rw[aj]at e;cases e;exact new
 ·rw[aq hb]at e
  exact(x b u e).stay (λc v _ q=>k c v q) (λc q=>by rw[aq (aF q hn)];exact q) λc xs q=>by rw[aq (aF q hn)];exact q
end
def Rd(H:Hp)(a:Addr)(u:HO):Prop:=H a=some u\/∃o,H a=some (.frz o u)
theorem Rd.ok{P:Program}{w:World}{H:Hp}{h:Heap}{a:Addr}{u:HO}(r:Rd H a u)(x:Ih P w H h):fV P w H h a u:=by
 rcases r with r | ⟨o,r⟩
 ·exact x a u r
 ·obtain⟨_,q⟩:=x a _ r
  exact q
def Mut:Option HO->Prop
 | some (.lst _)=>True
 | some (.dK _)=>True
 | some (.dT _)=>True
 | some (.set _ _)=>True
 | some (.ins _ _ _)=>True
 | some (.ext _)=>True
 | _=>False
section
variable{P:Program}{w:World}{H:Hp}{h h':Heap}{x e:Addr}{o':HO}
theorem Ih.write(ok:Ih P w H h)(mu:Mut (H x))(he:e=x\/H e=some (.own x))(k:∀b u,b≠e->h.get? b=some u->h'.get? b=some u)(heo:∃u,h'.get? e=some u)
 (new:fV P w (upd H x o') h' x o'):Ih P w (upd H x o') h':=λb u q=>by
 have avU:∀c y,H c=some (.own y)->c≠x:=λc y r z=>by subst z;rw[r]at mu;exact mu
 have aza:∀c xs,H c=some (.tup xs)->c≠x:=λc xs r z=>by subst z;rw[r]at mu;exact mu
 by_cases hb:b=x
 ·subst hb;rw[aj]at q;cases q;exact new
 ·rw[aq hb]at q
  by_cases hbe:b=e
  ·have q':H b=some (.own x):=by
    rcases he with z | z
    ·exact absurd (hbe.trans z) hb
    ·rw[hbe];exact z
   rw[q]at q';cases q'
   obtain⟨v,hv⟩:=heo
   exact⟨v,by rw[hbe];exact hv⟩
  ·refine(ok b u q).stay (λc v hc r=>k c v ?_ r) (λc r=>by rw[aq (avU c b r)];exact r) λc xs r=>by rw[aq (aza c xs r)];exact r
   rcases hc with rfl | hc
   ·exact hbe
   ·rintro rfl
    rcases he with z | z
    ·exact avU c b hc z
    ·rw[hc]at z;cases z;exact hb rfl
end
structure Un(fs ex:List Addr)(H H':Hp)(h h':Heap):Prop where
 keep:∀b o,h.get? b=some o->H b=none->b∉fs->b∉ex->h'.get? b=some o
 slot:∀b o,h.get? b=some o->H b=none->b∈fs->b∉ex->∃sl,h'.get? b=some {o with slots:=sl}
 free:∀b o,h.get? b=some o->H b=none->b∉ex->H' b=none
 there:∀b o,h.get? b=some o->b∉ex->∃o',h'.get? b=some o'
 tups:∀b xs,H b=some (.tup xs)->H' b=some (.tup xs)
 JG:∀b o u,H b=some (.frz o u)->H' b=some (.frz o u)
 Lw:∀b ps,H b=some (.tbl ps)->∃more,H' b=some (.tbl (ps++more))
section
variable{fs fs' ex ex':List Addr}{H H1 H2:Hp}{h h1 h2 h':Heap}{a x e:Addr}{o:HO}
theorem Un.any(u:Un fs ex H H1 h h1){b:Addr}{ob:Obj}(q:h.get? b=some ob)(n:H b=none)(hx:b∉ex):∃sl,h1.get? b=some {ob with slots:=sl}:=by
 by_cases hb:b∈fs
 ·exact u.slot b ob q n hb hx
 ·exact⟨ob.slots,u.keep b ob q n hb hx⟩
theorem Un.kept(k:∀b u,h.get? b=some u->h'.get? b=some u):Un fs ex H H h h' :=
 ⟨λb ob q _ _ _=>k b ob q,λb ob q _ _ _=>⟨ob.slots,k b ob q⟩,λ_ _ _ n _=>n,λb ob q _=>⟨ob,k b ob q⟩,λ_ _ q=>q,λ_ _ _ q=>q,λ_ ps q=>⟨#[],by rw[q];simp⟩⟩
theorem Un.refl:Un fs ex H H h h:=Un.kept λ_ _ q=>q
theorem Un.laid(k:∀b u,h.get? b=some u->h'.get? b=some u)(hp:h.objs.size<=a)(hn:H a=none):Un fs ex H (upd H a o) h h' where
 keep:=λb u q _ _ _=>k b u q
 slot:=λb u q _ _ _=>⟨u.slots,k b u q⟩
 free:=λb u q n _=>by rw[aq (Nat.ne_of_lt (Nat.lt_of_lt_of_le (Heap.lt_size q) hp))];exact n
 there:=λb u q _=>⟨u,k b u q⟩
 tups:=λb xs q=>by rw[aq (aF q hn)];exact q
 JG:=λb u xs q=>by rw[aq (aF q hn)];exact q
 Lw:=λb ps q=>⟨#[],by rw[aq (aF q hn),q];simp⟩
theorem Un.write(mu:Mut (H x))(he:e=x\/H e=some (.own x))(k:∀b u,b≠e->h.get? b=some u->h'.get? b=some u)(heo:∃u,h'.get? e=some u):Un fs ex H (upd H x o) h h':=by
 have hx:∀b,H b=none->b≠x:=λb n z=>by subst z;rw[n]at mu;exact mu
 have hb:∀b,H b=none->b≠e:=λb n z=>by
  subst z
  rcases he with r | r
  ·exact hx b n r
  ·rw[n]at r;cases r
 have hm:∀b u,H b=some u->¬Mut (some u)->b≠x:=λb u q nm z=>by subst z;rw[q]at mu;exact nm mu
 refine⟨λb u q n _ _=>k b u (hb b n) q,λb u q n _ _=>⟨u.slots,k b u (hb b n) q⟩,λb u q n _=>by rw[aq (hx b n)];exact n,λb u q _=>?_,
  λb xs q=>by rw[aq (hm b _ q λz=>z)];exact q,λb u xs q=>by rw[aq (hm b _ q λz=>z)];exact q,λb ps q=>⟨#[],by rw[aq (hm b _ q λz=>z),q];simp⟩⟩
 by_cases hbe:b=e
 ·subst hbe;exact heo
 ·exact⟨u,k b u hbe q⟩
end
def trk(h:Heap)(H:Hp):List Addr:=(List.range h.objs.size).filter λa=>(H a).isSome
def acQ(h:Heap)(H:Hp):Heap:=PySem.W.hideAll h (trk h H)
theorem akP(h:Heap)(H:Hp):(acQ h H).objs.size=h.objs.size:=PySem.W.hideAll_size _ _
theorem al0{h:Heap}{H:Hp}{b:Addr}{o:Obj}(e:h.get? b=some o)(n:H b=none):(acQ h H).get? b=some o :=
 PySem.W.hideAll_get _ e λhm=>by
  have q:(H b).isSome=true:=(List.mem_filter.mp hm).2
  rw[n]at q;simp at q
theorem aoI{h:Heap}{H:Hp}{b:Addr}{o:Obj}(e:(acQ h H).get? b=some o):h.get? b=some o/\H b=none:=by
 have e':h.get? b=some o:=PySem.W.of_hideAll (trk h H) e
 refine⟨e',?_⟩
 cases q:H b with
 | none=>rfl
 | some x =>
   have hm:b∈trk h H:=List.mem_filter.mpr ⟨List.mem_range.mpr (Heap.lt_size e'),by simp[q]⟩
   have z:(acQ h H).get? b=none:=PySem.W.hideAll_none (trk h H) hm
   rw[z]at e;cases e
structure Mod(K:PySem.W.Frag)(mg:Str->Option Value)(base:Heap):Prop where
 kin:K.In base
 glob:base.Ns mainGlobals mg
 blt:∃mb,base.Ns builtinsNs mb/\∀x:Str,x≠"__name__"->mb x=bootBuiltins x
 nolimit:base.NoLimit
structure Cx where
 prog:Program
 w:World
 K:PySem.W.Frag
 mg:Str->Option Value
 base:Heap
 A:Around
 N:List Str
 s₀:Shared
 H₀:Hp
 env:Env
 outer:List Env
 stack:List Env
 ex:List Addr
 fn:Str->Bool
 calm:Bool
 pn:List (Addr×Obj)
 xe:Value->Shared->Prop
def frs(l:List Env):List Addr:=l.filterMap (·.frame)
abbrev Cx.fs(X:Cx):List Addr:=frs X.outer
def Vis(sc:Scope)(x:Str):Prop:=sc.names.lookup x=some .local\/sc.names.lookup x=some .cell\/sc.names.lookup x=some .free
def Loc(sc:Scope)(x:Str):Prop:=sc.names.lookup x=some .local\/sc.names.lookup x=some .cell
def Look(env:Env)(h:Heap)(m:Str->Option Value)(x:Str)(u:Value):Prop :=
 (env.kindOf x=some .local/\m x=some u)\/((env.kindOf x=some .cell\/env.kindOf x=some .free)/\∃c,env.cells.lookup x=some c/\h.IsCell c (some u))
structure Cx.Ok(X:Cx):Prop where
 mod:Mod X.K X.mg X.base
 kind:X.env.scope.kind=.function
 glob:X.env.globals=mainGlobals
 blt:X.env.builtins=builtinsNs
 above:X.s₀.heap.objs.size<=X.env.locals
 inj:∀x y c,X.env.cells.lookup x=some c->X.env.cells.lookup y=some c->x=y
 has:∀x,(X.env.kindOf x=some .cell\/X.env.kindOf x=some .free)->∃c,X.env.cells.lookup x=some c
 cab:∀x c,X.fn x=true->X.env.cells.lookup x=some c->X.s₀.heap.objs.size<=c
 hd:X.calm=true->X.A.handled=none
 frames:X.A.frames=some X.stack
 stk:X.stack=X.outer\/(X.stack=X.env::X.outer/\X.env.frame=some X.env.locals)
 exf:∀b∈X.ex,b≠X.env.locals/\∀x c,X.env.cells.lookup x=some c->c≠b
 bs:∀b o,X.base.get? b=some o->X.s₀.heap.get? b=some o/\X.H₀ b=none
 bsz:X.base.objs.size<=X.s₀.heap.objs.size
 afO:∀b o,X.base.get? b=some o->b∉X.ex
 aih:∀b∈X.ex,b∉X.fs
 JH:X.s₀.heap.FunFrames X.base X.outer
 frf:∀b∈X.fs,X.H₀ b=none
structure Inv(X:Cx)(pins:List (Addr×Obj))(σ:List (Option V))(H:Hp)(s:Shared):Prop where
 ok:X.Ok
 os:s.os=X.s₀.os
 bare:AllBare s.gens
 base:Un X.fs X.ex X.H₀ H X.s₀.heap s.heap
 loc:∃m,s.heap.Ns X.env.locals m/\∀(i:Nat) (x:Str) (v:V),X.N[i]? = some x->σ[i]? = some (some v)->Vis X.env.scope x->∃u,RelV v u/\Look X.env s.heap m x u
 cell:∀x c,X.env.cells.lookup x=some c->∃v,s.heap.IsCell c v
 free:H X.env.locals=none
 vD:∀x c,X.env.cells.lookup x=some c->H c=none
 pin:∀p∈X.pn++pins,s.heap.get? p.1=some p.2/\H p.1=none/\p.1≠X.env.locals/\p.1∉X.fs/\∀v,p.2.data≠.cell v
 hok:Ih X.prog X.w H s.heap
 len:σ.length=X.N.length
section
variable{X:Cx}{pins:List (Addr×Obj)}{σ:List (Option V)}{H H':Hp}{s:Shared}{h':Heap}
theorem Cx.Ok.azb(ok:X.Ok){b:Addr}{o:Obj}(e:X.base.get? b=some o):b∉X.fs:=λhb=>by
 have:=(ok.JH.mem hb).1
 rw[e]at this;cases this
theorem Inv.bs(I:Inv X pins σ H s):∀b o,X.base.get? b=some o->s.heap.get? b=some o/\H b=none:=λb o e =>
 ⟨I.base.keep b o (I.ok.bs b o e).1 (I.ok.bs b o e).2 (I.ok.azb e) (I.ok.afO b o e),I.base.free b o (I.ok.bs b o e).1 (I.ok.bs b o e).2 (I.ok.afO b o e)⟩
theorem Inv.bk(I:Inv X pins σ H s):∀b o,X.base.get? b=some o->s.heap.get? b=some o:=λb o e=>(I.bs b o e).1
theorem Inv.mod(I:Inv X pins σ H s):Mod X.K X.mg X.base:=I.ok.mod
theorem Inv.yh(I:Inv X pins σ H s):X.K.In s.heap:=I.ok.mod.kin.keeps I.bk
theorem Inv.lt(I:Inv X pins σ H s):X.env.locals<s.heap.objs.size:=let ⟨_,hn,_⟩:=I.loc;hn.lt
theorem Inv.sz(I:Inv X pins σ H s):X.s₀.heap.objs.size<=s.heap.objs.size:=Nat.le_trans I.ok.above (Nat.le_of_lt I.lt)
theorem Inv.azc(I:Inv X pins σ H s){a:Addr}(h:s.heap.objs.size<=a):a∉X.fs:=λhb=>by
 obtain⟨_,o,ho,_⟩:=I.ok.JH.mem hb
 exact absurd (Nat.lt_of_lt_of_le (Heap.lt_size ho) (Nat.le_trans I.sz h)) (Nat.lt_irrefl _)
theorem Inv.cne(I:Inv X pins σ H s):∀x c,X.env.cells.lookup x=some c->c≠X.env.locals:=λx c e z=>by
 obtain⟨v,o,ho,hd⟩:=I.cell x c e
 obtain⟨m,⟨o',es,ep,ho',hd',_⟩,_⟩:=I.loc
 rw[z,ho']at ho;cases ho;rw[hd']at hd;cases hd
theorem Inv.JH(I:Inv X pins σ H s):s.heap.FunFrames X.base X.outer:=by
 have all:∀(l:List Env),(∀b∈frs l,b∈X.fs)->X.s₀.heap.FunFrames X.base l->s.heap.FunFrames X.base l:=by
  intro l
  induction l with
  | nil=>intro _ _;trivial
  | cons env r ih =>
    intro hs hl
    obtain⟨hk,⟨L,o,hf,hn,ho,hd⟩,hr⟩:=hl
    have hL:L∈X.fs:=hs L (by unfold frs;rw[List.filterMap_cons,hf];exact List.mem_cons_self)
    obtain⟨sl,e⟩:=I.base.slot L o ho (I.ok.frf L hL) hL λz=>I.ok.aih L z hL
    exact⟨hk,⟨L,_,hf,hn,e,hd⟩,ih (λb hb=>hs b (by unfold frs;rw[List.filterMap_cons,hf];exact List.mem_cons_of_mem _ hb)) hr⟩
 exact all X.outer (λ_ hb=>hb) I.ok.JH
theorem Inv.stack(I:Inv X pins σ H s):s.heap.FunFrames X.base X.stack:=by
 rcases I.ok.stk with e | ⟨e,hf⟩
 ·rw[e];exact I.JH
 ·rw[e]
  obtain⟨m,hn,_⟩:=I.loc
  refine .cons (by rw[I.ok.kind];decide) hf hn ?_ I.JH
  exact Heap.get?_none_of_le (Nat.le_trans I.ok.bsz I.ok.above)
theorem Inv.WT(I:Inv X pins σ H s):∀b∈frs X.stack,b∈X.env.locals::X.fs:=λb hb=>by
 rcases I.ok.stk with e | ⟨e,hf⟩
 ·rw[e]at hb;exact List.mem_cons_of_mem _ hb
 ·rw[e]at hb
  unfold frs at hb
  rw[List.filterMap_cons,hf]at hb
  exact hb
theorem Inv.acR(I:Inv X pins σ H s):∀b∈frs X.stack,H b=none:=λb hb=>by
 rcases List.mem_cons.mp (I.WT b hb)with e | hb
 ·rw[e];exact I.free
 ·obtain⟨_,o,ho,_⟩:=I.ok.JH.mem hb
  exact I.base.free b o ho (I.ok.frf b hb) λz=>I.ok.aih b z hb
theorem Inv.step{g':Array GenState}{t':Nat}{d':Drawn}{ch:List Addr}(I:Inv X pins σ H s)
 (hch:∀b∈ch,(b∈X.ex\/X.s₀.heap.objs.size<=b)/\b≠X.env.locals/\(∀x c,X.env.cells.lookup x=some c->c≠b)/\∀p∈X.pn++pins,p.1≠b)
 (keep:∀b o,b≠X.env.locals->b∉X.fs->b∉ch->s.heap.get? b=some o->H b=none->h'.get? b=some o)
 (slot:∀b o,b≠X.env.locals->b∈X.fs->b∉ch->s.heap.get? b=some o->H b=none->∃sl,h'.get? b=some {o with slots:=sl}) (free:∀b o,b∉ch->s.heap.get? b=some o->H b=none->H' b=none)
 (there:∀b o,b∉ch->s.heap.get? b=some o->∃o',h'.get? b=some o')
 (tups:∀b xs,H b=some (.tup xs)->H' b=some (.tup xs)) (JG:∀b o u,H b=some (.frz o u)->H' b=some (.frz o u)) (Lw:∀b ps,H b=some (.tbl ps)->∃more,H' b=some (.tbl (ps++more)))
 (ns:∀m,s.heap.Ns X.env.locals m->h'.Ns X.env.locals m) (hok:Ih X.prog X.w H' h') (hg:AllBare g') :
 Inv X pins σ H' {s with heap:=h',gens:=g',drawn:=d',toks:=t'}:=by
 have neL:∀b o,X.s₀.heap.get? b=some o->b≠X.env.locals:=λb o e=>Nat.ne_of_lt (Nat.lt_of_lt_of_le (Heap.lt_size e) I.ok.above)
 have neC:∀b o,X.s₀.heap.get? b=some o->b∉X.ex->b∉ch:=λb o e hx hb=>by
  rcases (hch b hb).1 with z | z
  ·exact hx z
  ·exact absurd (Nat.lt_of_lt_of_le (Heap.lt_size e) z) (Nat.lt_irrefl _)
 have cellK:∀x c,X.env.cells.lookup x=some c->∀v,s.heap.IsCell c v->h'.IsCell c v:=λx c e v ⟨o,ho,hd⟩=>by
  have nch:c∉ch:=λz=>(hch c z).2.2.1 x c e rfl
  by_cases hc:c∈X.fs
  ·obtain⟨sl,q⟩:=slot c o (I.cne x c e) hc nch ho (I.vD x c e)
   exact⟨_,q,hd⟩
  ·exact⟨o,keep c o (I.cne x c e) hc nch ho (I.vD x c e),hd⟩
 refine⟨I.ok,I.os,hg,⟨λb o e n hb hx=>?_,λb o e n hb hx=>?_,λb o e n hx=>?_,λb o e hx=>?_,λb xs e=>tups b xs (I.base.tups b xs e),λb o xs e=>JG b o xs (I.base.JG b o xs e),λb ps e=>?_⟩,?_,λx c e=>?_,?_,λx c e=>?_,λp hp=>?_,hok,I.len⟩
 ·exact keep b o (neL b o e) hb (neC b o e hx) (I.base.keep b o e n hb hx) (I.base.free b o e n hx)
 ·obtain⟨sl,e1⟩:=I.base.slot b o e n hb hx
  obtain⟨sl',e2⟩:=slot b _ (neL b o e) hb (neC b o e hx) e1 (I.base.free b o e n hx)
  exact⟨sl',e2⟩
 ·obtain⟨o',e1⟩:=I.base.there b o e hx
  exact free b o' (neC b o e hx) e1 (I.base.free b o e n hx)
 ·obtain⟨o',e1⟩:=I.base.there b o e hx
  exact there b o' (neC b o e hx) e1
 ·obtain⟨m1,e1⟩:=I.base.Lw b ps e
  obtain⟨m2,e2⟩:=Lw b _ e1
  exact⟨m1++m2,by rw[e2,Array.append_assoc]⟩
 ·obtain⟨m,hn,hl⟩:=I.loc
  refine⟨m,ns m hn,λi x v e1 e2 e3=>?_⟩
  obtain⟨u,r,l⟩:=hl i x v e1 e2 e3
  refine⟨u,r,?_⟩
  rcases l with l | ⟨k,c,e,z⟩
  ·exact .inl l
  ·exact .inr ⟨k,c,e,cellK x c e _ z⟩
 ·obtain⟨v,z⟩:=I.cell x c e
  exact⟨v,cellK x c e v z⟩
 ·obtain⟨m,⟨o,_,_,ho,_⟩,_⟩:=I.loc
  exact free _ o (λz=>(hch _ z).2.1 rfl) ho I.free
 ·obtain⟨v,o,ho,hd⟩:=I.cell x c e
  exact free c o (λz=>(hch c z).2.2.1 x c e rfl) ho (I.vD x c e)
 ·obtain⟨e,n,ne,nf,d⟩:=I.pin p hp
  have nch:p.1∉ch:=λz=>(hch p.1 z).2.2.2 p hp rfl
  exact⟨keep p.1 p.2 ne nf nch e n,free p.1 p.2 nch e n,ne,nf,d⟩
theorem Inv.un{t':Nat}(I:Inv X pins σ H s)(u:Un X.fs [] H H' s.heap h')(hok:Ih X.prog X.w H' h'):Inv X pins σ H' {s with heap:=h',toks:=t'}:=by
 obtain⟨m,⟨o,es,ep,ho,r⟩,_⟩:=id I.loc
 obtain⟨sl,hL⟩:=u.any ho I.free (by simp)
 exact I.step (g':=s.gens) (d':=s.drawn) (ch:=[]) (λ_ z=>nomatch z) (λb o _ hb _ e n=>u.keep b o e n hb (by simp)) (λb o _ hb _ e n=>u.slot b o e n hb (by simp)) (λb o _ e n=>u.free b o e n (by simp)) (λb o _ e=>u.there b o e (by simp)) u.tups u.JG u.Lw (λm' hm=>by
  obtain⟨o',es',ep',ho',r'⟩:=hm
  rw[ho]at ho';cases ho'
  exact⟨_,es',ep',hL,r'⟩) hok I.bare
theorem Inv.call{g':Array GenState}{t':Nat}{d':Drawn}{ch:List Addr}(I:Inv X pins σ H s)(u:Un (frs X.stack) ch H H' s.heap h')(hok:Ih X.prog X.w H' h')(hg:AllBare g')
 (hch:∀b∈ch,(b∈X.ex\/X.s₀.heap.objs.size<=b)/\b≠X.env.locals/\(∀x c,X.env.cells.lookup x=some c->c≠b)/\∀p∈X.pn++pins,p.1≠b) :
 Inv X pins σ H' {s with heap:=h',gens:=g',drawn:=d',toks:=t'}:=by
 obtain⟨m,⟨o,es,ep,ho,r⟩,_⟩:=id I.loc
 obtain⟨sl,hL⟩:=u.any ho I.free λz=>(hch _ z).2.1 rfl
 exact I.step (ch:=ch) hch (λb o hL hb hc e n=>u.keep b o e n (λz=>(List.mem_cons.mp (I.WT b z)).elim hL hb) hc) (λb o _ _ hc e n=>u.any e n hc) (λb o hc e n=>u.free b o e n hc) (λb o hc e=>u.there b o e hc) u.tups u.JG u.Lw (λm' hm=>by
  obtain⟨o',es',ep',ho',r'⟩:=hm
  rw[ho]at ho';cases ho'
  exact⟨_,es',ep',hL,r'⟩) hok hg
theorem Inv.turned{t':Nat}{it:Addr}(I:Inv X pins σ H s)(k:∀b o,b≠it->s.heap.get? b=some o->h'.get? b=some o)(hn:H it=none)(hL:it≠X.env.locals)
 (h1:it∈X.ex\/X.s₀.heap.objs.size<=it) (h2:∀x c,X.env.cells.lookup x=some c->c≠it) (h3:∀p∈X.pn++pins,p.1≠it):Inv X pins σ H {s with heap:=h',toks:=t'}:=by
 have nit:∀b u,H b=some u->b≠it:=λb u e z=>by rw[z,hn]at e;cases e
 refine I.step (g':=s.gens) (d':=s.drawn) (ch:=[it]) (λb hb=>?_) (λb o _ _ hc e _=>k b o (λz=>hc (by simp[z])) e) (λb o _ _ hc e _=>⟨o.slots,k b o (λz=>hc (by simp[z])) e⟩) (λ_ _ _ _ n=>n)
  (λb o hc e=>⟨o,k b o (λz=>hc (by simp[z])) e⟩) (λ_ _ e=>e) (λ_ _ _ e=>e) (λb ps e=>⟨#[],by rw[e];simp⟩) (λm hm=>?_) (λb u e=>?_) I.bare
 ·have e:b=it:=by simpa using hb
  subst e
  exact⟨h1,hL,h2,h3⟩
 ·obtain⟨o,es,ep,ho,r⟩:=hm
  exact⟨o,es,ep,k _ o (Ne.symm hL) ho,r⟩
 ·refine(I.hok b u e).stay (λc v hc q=>k c v ?_ q) (λ_ q=>q) λ_ _ q=>q
  rcases hc with z | z
  ·rw[z];exact nit b u e
  ·exact nit c _ z
theorem Inv.tok(I:Inv X pins σ H s)(t:Nat):Inv X pins σ H {s with toks:=t}:=I.un (h':=s.heap) (t':=t) Un.refl I.hok
theorem Inv.kept{t':Nat}(I:Inv X pins σ H s)(k:∀b u,s.heap.get? b=some u->h'.get? b=some u):Inv X pins σ H {s with heap:=h',toks:=t'}:=I.un (Un.kept k) (I.hok.kept k)
theorem Inv.laid{a:Addr}{o:HO}{t':Nat}(I:Inv X pins σ H s)(k:∀b u,s.heap.get? b=some u->h'.get? b=some u)(hp:s.heap.objs.size<=a)(new:fV X.prog X.w (upd H a o) h' a o) :
 Inv X pins σ (upd H a o) {s with heap:=h',toks:=t'}:=I.un (Un.laid k hp (I.hok.fresh hp)) (I.hok.laid k hp new)
theorem Inv.write{x e:Addr}{o:HO}{t':Nat}(I:Inv X pins σ H s)(mu:Mut (H x))(he:e=x\/H e=some (.own x))(k:∀b u,b≠e->s.heap.get? b=some u->h'.get? b=some u)(heo:∃u,h'.get? e=some u)
 (new:fV X.prog X.w (upd H x o) h' x o):Inv X pins σ (upd H x o) {s with heap:=h',toks:=t'}:=I.un (Un.write mu he k heo) (I.hok.write mu he k heo new)
theorem Inv.ajL{al4:List (Addr×Obj)}(I:Inv X pins σ H s)(h:∀p∈al4,s.heap.get? p.1=some p.2/\H p.1=none/\p.1≠X.env.locals/\p.1∉X.fs/\∀v,p.2.data≠.cell v):Inv X al4 σ H s :=
 ⟨I.ok,I.os,I.bare,I.base,I.loc,I.cell,I.free,I.vD,λp hp=>(List.mem_append.mp hp).elim (λz=>I.pin p (List.mem_append_left _ z)) (h p),I.hok,I.len⟩
theorem afP{N:List Str}(hN:N.Nodup){i j:Nat}{x:Str}(a:N[i]? = some x)(b:N[j]? = some x):i=j:=by
 obtain⟨h1,e1⟩:=List.getElem?_eq_some_iff.mp a
 obtain⟨h2,e2⟩:=List.getElem?_eq_some_iff.mp b
 exact(List.getElem_inj hN).mp (e1.trans e2.symm)
theorem ab1{M:Model}{A:Around}{E:Value->Shared->Prop}{i:Nat}{x:Str}{v:V}{u:Value}{Q:Unit->Shared->Prop}(I:Inv X pins σ H s)(hN:X.N.Nodup)(hi:X.N[i]? = some x)(hx:Loc X.env.scope x)(r:RelV v u)
 (h:∀s',Inv X pins (σ.set i (some v)) H s'->(∃a,Heap.SameBut a s.heap s'.heap/\(a=X.env.locals\/X.env.cells.lookup x=some a))->Q () s') (hf:X.fn x=true\/X.env.scope.names.lookup x=some .local:=by first | exact .inl rfl | exact .inr rfl | assumption):wpAny M A (storeName X.env x u) Q E s:=by
 obtain⟨m,hn,hl⟩:=id I.loc
 have hcls:(X.env.scope.kind == .class || (X.env.scope.kind == .module && X.env.locals != X.env.globals))=false:=by rw[I.ok.kind];rfl
 have hiσ:i<σ.length:=by rw[I.len];exact(List.getElem?_eq_some_iff.mp hi).1
 have cne:=I.cne
 have tracked:∀{a:Addr} {h':Heap},(∃o,s.heap.get? a=some o/\H a=none)->Heap.SameBut a s.heap h'->Ih X.prog X.w H h':=λ{a h'} ha hs b ob e=>by
  obtain⟨_,_,hfree⟩:=ha
  refine(I.hok b ob e).stay (λc w' hc q=>(hs.2 c ?_).trans q) (λ_ q=>q) λ_ _ q=>q
  rintro rfl
  rcases hc with rfl | hc
  ·rw[hfree]at e;cases e
  ·rw[hfree]at hc;cases hc
 rcases hx with hk | hk
 ·refine wpAny_storeName_local hk hn (λh' hn' hs=>?_) hcls
  obtain⟨oL,_,_,hoL,_⟩:=id hn
  refine h _ ⟨I.ok,I.os,I.bare,⟨λb o e n hb hx=>?_,λb o e n hb hx=>?_,I.base.free,λb o e hx=>?_,I.base.tups,I.base.JG,I.base.Lw⟩,⟨_,hn',λj y v' e1 e2 e3=>?_⟩,λy c e=>?_,I.free,I.vD,λp hp=>?_,tracked ⟨oL,hoL,I.free⟩ hs,by simpa using I.len⟩ ⟨_,hs,.inl rfl⟩
  ·exact(hs.2 b (Nat.ne_of_lt (Nat.lt_of_lt_of_le (Heap.lt_size e) I.ok.above))).trans (I.base.keep b o e n hb hx)
  ·obtain⟨sl,e1⟩:=I.base.slot b o e n hb hx
   exact⟨sl,(hs.2 b (Nat.ne_of_lt (Nat.lt_of_lt_of_le (Heap.lt_size e) I.ok.above))).trans e1⟩
  ·obtain⟨o',e1⟩:=I.base.there b o e hx
   exact⟨o',(hs.2 b (Nat.ne_of_lt (Nat.lt_of_lt_of_le (Heap.lt_size e) I.ok.above))).trans e1⟩
  ·by_cases hj:j=i
   ·subst hj
    rw[hi]at e1;cases e1
    rw[List.getElem?_set_self hiσ]at e2
    cases e2
    exact⟨u,r,.inl ⟨hk,by simp⟩⟩
   ·rw[List.getElem?_set_ne (Ne.symm hj)]at e2
    obtain⟨u',r',q⟩:=hl j y v' e1 e2 e3
    refine⟨u',r',?_⟩
    rcases q with ⟨k,e⟩ | ⟨k,c,e,z⟩
    ·refine .inl ⟨k,?_⟩
     have:y≠x:=λe=>hj (afP hN e1 (e▸hi))
     simp[this,e]
    ·exact .inr ⟨k,c,e,z.sameBut hs (cne y c e)⟩
  ·obtain⟨w',z⟩:=I.cell y c e
   exact⟨w',z.sameBut hs (cne y c e)⟩
  ·obtain⟨e,n,ne,nf,d⟩:=I.pin p hp
   exact⟨(hs.2 p.1 ne).trans e,n,ne,nf,d⟩
 ·have hfn:X.fn x=true:=by
   rcases hf with z | z
   ·exact z
   ·rw[z]at hk;cases hk
  obtain⟨c,hc⟩:=I.ok.has x (.inl hk)
  obtain⟨w',z⟩:=I.cell x c hc
  refine wpAny_storeName_cell I.ok.kind hk hc z (λh' hc' hs=>?_)
  obtain⟨oc,hoc,azd⟩:=id z
  refine h {s with heap:=h'} ⟨I.ok,I.os,I.bare,⟨λb o e n hb hx=>?_,λb o e n hb hx=>?_,I.base.free,λb o e hx=>?_,I.base.tups,I.base.JG,I.base.Lw⟩,⟨m,hn.sameBut hs (Ne.symm (cne x c hc)),λj y v' e1 e2 e3=>?_⟩,λy c' e=>?_,I.free,I.vD,λp hp=>?_,tracked ⟨oc,hoc,I.vD x c hc⟩ hs,by simpa using I.len⟩ ⟨c,hs,.inr hc⟩
  ·exact(hs.2 b (Nat.ne_of_lt (Nat.lt_of_lt_of_le (Heap.lt_size e) (I.ok.cab x c hfn hc)))).trans (I.base.keep b o e n hb hx)
  ·obtain⟨sl,e1⟩:=I.base.slot b o e n hb hx
   exact⟨sl,(hs.2 b (Nat.ne_of_lt (Nat.lt_of_lt_of_le (Heap.lt_size e) (I.ok.cab x c hfn hc)))).trans e1⟩
  ·obtain⟨o',e1⟩:=I.base.there b o e hx
   exact⟨o',(hs.2 b (Nat.ne_of_lt (Nat.lt_of_lt_of_le (Heap.lt_size e) (I.ok.cab x c hfn hc)))).trans e1⟩
  ·by_cases hj:j=i
   ·subst hj
    rw[hi]at e1;cases e1
    rw[List.getElem?_set_self hiσ]at e2
    cases e2
    exact⟨u,r,.inr ⟨.inl hk,c,hc,hc'⟩⟩
   ·rw[List.getElem?_set_ne (Ne.symm hj)]at e2
    obtain⟨u',r',q⟩:=hl j y v' e1 e2 e3
    refine⟨u',r',?_⟩
    rcases q with q | ⟨k,c',e,z'⟩
    ·exact .inl q
    ·refine .inr ⟨k,c',e,z'.sameBut hs ?_⟩
     rintro rfl
     exact hj (afP hN e1 (I.ok.inj _ _ _ e hc▸hi))
  ·by_cases hcc:c'=c
   ·subst hcc;exact⟨_,hc'⟩
   ·obtain⟨w2,z2⟩:=I.cell y c' e
    exact⟨w2,z2.sameBut hs hcc⟩
  ·obtain⟨e,n,ne,nf,d⟩:=I.pin p hp
   refine⟨(hs.2 p.1 ?_).trans e,n,ne,nf,d⟩
   intro q
   rw[q,hoc]at e
   have q':oc=p.2:=Option.some.inj e
   exact d w' (by rw[<-q'];exact azd)
theorem afQ{M:Model}{A:Around}{E:Value->Shared->Prop}{i:Nat}{x:Str}{v:V}{u:Value}{Q:Unit->Shared->Prop}(I:Inv X pins σ H s)(hN:X.N.Nodup)(hi:X.N[i]? = some x)(hx:Loc X.env.scope x)(r:RelV v u)
 (h:∀s',Inv X pins (σ.set i (some v)) H s'->Q () s') (hf:X.fn x=true\/X.env.scope.names.lookup x=some .local:=by first | exact .inl rfl | exact .inr rfl | assumption):wpAny M A (storeName X.env x u) Q E s :=
 ab1 I hN hi hx r (λs' I' _=>h s' I') hf
theorem Inv.call'{s':Shared}{ch:List Addr}(I:Inv X pins σ H s)(ho:s'.os=s.os)(u:Un (frs X.stack) ch H H' s.heap s'.heap)(hok:Ih X.prog X.w H' s'.heap)(hg:AllBare s'.gens)
 (hch:∀b∈ch,(b∈X.ex\/X.s₀.heap.objs.size<=b)/\b≠X.env.locals/\(∀x c,X.env.cells.lookup x=some c->c≠b)/\∀p∈X.pn++pins,p.1≠b):Inv X pins σ H' s':=by
 obtain⟨h',g',d',t',o'⟩:=s'
 have e:o'=s.os:=ho
 subst e
 exact I.call (g':=g') (t':=t') (d':=d') u hok hg hch
end
abbrev XK:=Value->Option Addr->Hp->Prop
abbrev St:=List (Option V)
abbrev VK:=V->Hp->Prop
abbrev TE:=St->Hp->VK->Prop
abbrev TT:=St->Hp->(Bool->Hp->Prop)->Prop
abbrev TA:=St->Hp->(List V->Hp->Prop)->Prop
structure Ends where
 nx:St->Hp->Prop
 rt:VK
 bk:St->Hp->Prop:=λ_ _=>False
 ct:St->Hp->Prop:=λ_ _=>False
abbrev TS:=Ends->St->Hp->Prop
def EP(X:Cx)(pins:List (Addr×Obj))(σ:St)(Q:VK)(u:Value)(s':Shared):Prop:=∃v H',Inv X pins σ H' s'/\RelV v u/\Q v H'
def TP(X:Cx)(pins:List (Addr×Obj))(σ:St)(Q:Bool->Hp->Prop)(b:Bool)(s':Shared):Prop:=∃H',Inv X pins σ H' s'/\Q b H'
def AP(X:Cx)(pins:List (Addr×Obj))(σ:St)(Q:List V->Hp->Prop)(us:List Value)(s':Shared):Prop:=∃vs H',Inv X pins σ H' s'/\Vals vs us/\Q vs H'
def SP(X:Cx)(pins:List (Addr×Obj))(D:Ends)(f:Flow)(s':Shared):Prop :=
 match f with
 | .next=>∃σ' H',Inv X pins σ' H' s'/\D.nx σ' H'
 | .brk=>∃σ' H',Inv X pins σ' H' s'/\D.bk σ' H'
 | .cont=>∃σ' H',Inv X pins σ' H' s'/\D.ct σ' H'
 | .ret u=>∃v σ' H',Inv X pins σ' H' s'/\RelV v u/\D.rt v H'
def PE(X:Cx)(e:Expr)(t:TE):Prop :=
 ∀(pins:List (Addr×Obj)) (s:Shared) (σ:St) (H:Hp) (Q:VK),Inv X pins σ H s->t σ H Q->wpAny (model X.prog X.w) X.A (eval e X.env) (EP X pins σ Q) X.xe s
def PT(X:Cx)(e:Expr)(t:TT):Prop :=
 ∀(pins:List (Addr×Obj)) (s:Shared) (σ:St) (H:Hp) (Q:Bool->Hp->Prop),Inv X pins σ H s->t σ H Q->wpAny (model X.prog X.w) X.A (isTrue e X.env (eval e X.env)) (TP X pins σ Q) X.xe s
def PW(X:Cx)(e:Expr)(t:TT):Prop :=
 ∀(whole:Sem Value) (pins:List (Addr×Obj)) (s:Shared) (σ:St) (H:Hp) (Q:Bool->Hp->Prop),Inv X pins σ H s->t σ H Q->wpAny (model X.prog X.w) X.A (isTrue e X.env whole) (TP X pins σ Q) X.xe s
theorem PW.pt{X:Cx}{e:Expr}{t:TT}(h:PW X e t):PT X e t:=h _
def PA(X:Cx)(es:List Expr)(t:TA):Prop :=
 ∀(pos:Pos) (pins:List (Addr×Obj)) (s:Shared) (σ:St) (H:Hp) (Q:List V->Hp->Prop),Inv X pins σ H s->t σ H Q->wpAny (model X.prog X.w) X.A (spliced (backTo pos (starEach es X.env))) (AP X pins σ Q) X.xe s
def PS(X:Cx)(st:Stmt)(t:TS):Prop :=
 ∀(pins:List (Addr×Obj)) (s:Shared) (σ:St) (H:Hp) (D:Ends),Inv X pins σ H s->t D σ H->wpAny (model X.prog X.w) X.A (exec st X.env) (SP X pins D) X.xe s
def PSs(X:Cx)(st:List Stmt)(t:TS):Prop :=
 ∀(pins:List (Addr×Obj)) (s:Shared) (σ:St) (H:Hp) (D:Ends),Inv X pins σ H s->t D σ H->wpAny (model X.prog X.w) X.A (execs st X.env) (SP X pins D) X.xe s
theorem gq{α:Type}{t:Sem α}{Q Q':α->Shared->Prop}{M:Model}{A:Around}{E:Value->Shared->Prop}{s:Shared}(h:wpAny M A t Q E s)(hQ:∀a s,Q a s->Q' a s):wpAny M A t Q' E s:=wpAny_mono h hQ λ_ _ x=>x
section
variable{X:Cx}
def jm(i:Nat):TE:=λσ H Q=>∃v,σ[i]? = some (some v)/\Q v H
def tC(v:V):TE:=λ_ H Q=>Q v H
theorem ash{i:Nat}{x:Str}{pos:Pos}(hN:X.N[i]? = some x)(hv:Vis X.env.scope x)(hd:(x == ("__debug__":Str))=false:=by decide) (hcd:(x == ("__classdict__":Str))=false:=by decide):PE X (.Name x pos) (jm i):=by
 intro pins s σ H Q I h
 obtain⟨v,e,h⟩:=h
 obtain⟨m,hn,hl⟩:=I.loc
 obtain⟨u,r,l⟩:=hl i x v hN e hv
 have fin:EP X pins σ Q u s:=⟨v,H,I,r,h⟩
 rcases l with ⟨hk,hm⟩ | ⟨hk,c,hc,hcell⟩
 ·exact wpAny_Name (wpAny_loadName_local I.ok.kind hk hn hm fin) hd
 ·rcases hk with hk | hk
  ·exact wpAny_Name (wpAny_loadName_cell I.ok.kind hk hc hcell fin) hd
  ·exact wpAny_Name (wpAny_loadName_free I.ok.kind hk hc hcell fin hcd) hd
theorem aA{i j pos}:PE X (.Constant (.int i) j pos) (tC (.int i)):=λ_ _ _ H _ I h=>wpAny_Constant_int ⟨.int i,H,I.tok _,⟨_,rfl⟩,h⟩
theorem Ip{b j pos}:PE X (.Constant (.bool b) j pos) (tC (.bl b)):=λ_ _ _ H _ I h=>Constant_bool ⟨.bl b,H,I,rfl,h⟩
theorem tX{j pos}:PE X (.Constant .none j pos) (tC .non):=λ_ _ _ H _ I h=>Constant_none ⟨.non,H,I,rfl,h⟩
theorem aC{x j pos}:PE X (.Constant (.str x) j pos) (tC (.str x)):=λ_ _ _ H _ I h=>Calls.Constant_str ⟨.str x,H,I.tok _,⟨_,rfl⟩,h⟩
def Gl(X:Cx)(x:Str):Prop:=X.env.kindOf x=some .globalImplicit
theorem zG{E:Value->Shared->Prop}{pins:List (Addr×Obj)}{s:Shared}{σ:St}{H:Hp}{x:Str}{u:Value}{pos:Pos}{Q:Value->Shared->Prop}(I:Inv X pins σ H s)(hg:Gl X x)(hm:X.mg x=some u)(h:Q u s)
 (hd:(x == ("__debug__":Str))=false:=by decide):wpAny (model X.prog X.w) X.A (eval (.Name x pos) X.env) Q E s :=
 Calls.Name_function_global I.ok.kind hg (Calls.loadGlobal_global (by rw[I.ok.glob];exact I.mod.glob.keeps I.bk) hm h) hd
theorem WW{E:Value->Shared->Prop}{pins:List (Addr×Obj)}{s:Shared}{σ:St}{H:Hp}{x:Str}{u:Value}{pos:Pos}{Q:Value->Shared->Prop}(I:Inv X pins σ H s)(hg:Gl X x)(hm:X.mg x=none)(hv:bootBuiltins x=some u)(h:Q u s)
 (hn:x≠"__name__":=by decide) (hd:(x == ("__debug__":Str))=false:=by decide):wpAny (model X.prog X.w) X.A (eval (.Name x pos) X.env) Q E s:=by
 obtain⟨mb,h1,h2⟩:=I.mod.blt
 exact Calls.Name_function_global I.ok.kind hg (Calls.loadGlobal_builtin (by rw[I.ok.glob];exact I.mod.glob.keeps I.bk) hm (by rw[I.ok.blt];exact h1.keeps I.bk) ((h2 x hn).trans hv) h) hd
theorem aoJ{x:Str}{v:V}{u:Value}{pos:Pos}(hg:Gl X x)(hm:X.mg x=some u)(r:RelV v u)(hd:(x == ("__debug__":Str))=false:=by decide):PE X (.Name x pos) (tC v) :=
 λ_ _ _ H _ I h=>zG I hg hm ⟨v,H,I,r,h⟩ hd
theorem aoK{x:Str}{v:V}{u:Value}{pos:Pos}(hg:Gl X x)(hm:X.mg x=none)(hv:bootBuiltins x=some u)(r:RelV v u)(hn:x≠"__name__":=by decide) (hd:(x == ("__debug__":Str))=false:=by decide):PE X (.Name x pos) (tC v) :=
 λ_ _ _ H _ I h=>WW I hg hm hv ⟨v,H,I,r,h⟩ hn hd
variable{a b:Expr}{ta tb:TE}{pos:Pos}
def PC(X:Cx)(op:CmpOp)(a b:Expr)(t:TE):Prop :=
 ∀(pins:List (Addr×Obj)) (s:Shared) (σ:St) (H:Hp) (Q:VK),Inv X pins σ H s->t σ H Q->
  wpAny (model X.prog X.w) X.A (eval a X.env) (λv s₁=>wpAny (model X.prog X.w) X.A (eval b X.env) (λu s₂=>wpAny (model X.prog X.w) X.A (compareOp op v u) (EP X pins σ Q) X.xe s₂) X.xe s₁) X.xe s
theorem afR(b:Expr){op:CmpOp}(h:op≠.In)(h2:op≠.NotIn):behindInMarks op b=false:=by
 have e1:(op == CmpOp.In)=false:=by cases op<;>first | rfl | exact absurd rfl h
 have e2:(op == CmpOp.NotIn)=false:=by cases op<;>first | rfl | exact absurd rfl h2
 cases b<;>simp[behindInMarks,e1,e2]
def aze(ta:TE):TE:=λσ H Q=>ta σ H λx H1=>Q (.bl (decide (x=.non))) H1
def avX(ta:TE):TE:=λσ H Q=>ta σ H λx H1=>Q (.bl (!decide (x=.non))) H1
theorem RelV.afS{x:V}{v:Value}(r:RelV x v):(v == Value.none)=decide (x=.non):=by
 cases x with
 | non=>cases r;rfl
 | bl _=>cases r;rfl
 | int _=>obtain⟨t,rfl⟩:=r;rfl
 | str _=>obtain⟨t,rfl⟩:=r;rfl
 | byt _=>obtain⟨t,rfl⟩:=r;rfl
 | flt _=>obtain⟨t,rfl⟩:=r;rfl
 | ref _=>cases r;rfl
 | ty _=>cases r;rfl
theorem aii{j pos'}(ha:PE X a ta):PC X .Is a (.Constant .none j pos') (aze ta):=by
 intro pins s σ H Q I h
 refine gq (ha pins s σ H _ I h) λv s1 hz=>lA hz λx H1 I1 r1 q1=>?_
 exact Constant_none (is_none_gen ⟨.bl _,H1,I1,by rw[r1.afS];rfl,q1⟩)
theorem vG{j pos'}(ha:PE X a ta):PC X .IsNot a (.Constant .none j pos') (avX ta):=by
 intro pins s σ H Q I h
 refine gq (ha pins s σ H _ I h) λv s1 hz=>lA hz λx H1 I1 r1 q1=>?_
 exact Constant_none (isnot_none_gen ⟨.bl _,H1,I1,by rw[r1.afS];rfl,q1⟩)
def tB(t:TE):TT:=λσ H Q=>t σ H λx H1=>∃c,x=.bl c/\Q c H1
theorem al5{op:CmpOp}{t:TE}(h:PC X op a b t)(h1:behindInMarks op b=false:=by first | exact afR _ (by decide) (by decide) | rfl):PE X (.Compare a [op] [b] pos) t:=λpins s σ H Q I hw=>wpAny_Compare1 (h pins s σ H Q I hw) h1
theorem wX{op:CmpOp}{t:TE}(h:PC X op a b t)(h1:behindInMarks op b=false:=by first | exact afR _ (by decide) (by decide) | rfl):PT X (.Compare a [op] [b] pos) (tB t):=by
 intro pins s σ H Q I hw
 refine wpAny_isTrue_Compare1 (gq (h pins s σ H _ I hw) λv s1 h1=>gq h1 λu s2 h2=>gq h2 λc s3 hz=>lA hz λx H1 I1 r1 q1=>?_) h1
 obtain⟨d,rfl,q⟩:=q1
 cases r1
 exact wpAny_truthy_bool ⟨H1,I1,q⟩
theorem lW{e:Expr}{t:TE}(h:PE X e t)(he:∀whole,isTrue e X.env whole=(do let v <-whole;standAt e.pos;holding [v] (truthy v)):=by intro _;rfl):PT X e (tB t):=by
 intro pins s σ H Q I hw
 refine isTrue_plain (gq (h pins s σ H _ I hw) λv s1 hz=>lA hz λx H1 I1 r1 q1=>?_) (he _)
 obtain⟨d,rfl,q⟩:=q1
 cases r1
 exact wpAny_truthy_bool ⟨H1,I1,q⟩
variable{tA tB':TT}{rest:List Expr}
def avY(t u:TT):TT:=λσ H Q=>t σ H λc H1=>if c=true then u σ H1 Q else Q false H1
def tOr(t u:TT):TT:=λσ H Q=>t σ H λc H1=>if c=true then Q true H1 else u σ H1 Q
def azf(t:TT):TT:=λσ H Q=>t σ H λc H1=>Q (!c) H1
theorem Lx(ha:PT X a tA):PW X (.BoolOp .And [a] pos) tA:=by
 intro wh pins s σ H Q I h
 refine isTrue_and (gq (ha pins s σ H Q I h) λc s1 e=>?_)
 cases c with
 | true=>exact isTrue_and_nil e
 | false=>exact e
theorem pP(ha:PT X a tA):PW X (.BoolOp .Or [a] pos) tA:=by
 intro wh pins s σ H Q I h
 refine isTrue_or (gq (ha pins s σ H Q I h) λc s1 e=>?_)
 cases c with
 | false=>exact isTrue_or_nil e
 | true=>exact e
theorem Qp(ha:PT X a tA)(hb:PW X (.BoolOp .And (b::rest) pos) tB'):PW X (.BoolOp .And (a::b::rest) pos) (avY tA tB'):=by
 intro wh pins s σ H Q I h
 refine isTrue_and (gq (ha pins s σ H _ I h) λc s1 hz=>ex3 hz λH1 I1 q1=>?_)
 cases c with
 | true=>exact hb wh pins s1 σ H1 Q I1 q1
 | false=>exact⟨H1,I1,q1⟩
theorem vH(ha:PT X a tA)(hb:PW X (.BoolOp .Or (b::rest) pos) tB'):PW X (.BoolOp .Or (a::b::rest) pos) (tOr tA tB'):=by
 intro wh pins s σ H Q I h
 refine isTrue_or (gq (ha pins s σ H _ I h) λc s1 hz=>ex3 hz λH1 I1 q1=>?_)
 cases c with
 | true=>exact⟨H1,I1,q1⟩
 | false=>exact hb wh pins s1 σ H1 Q I1 q1
theorem wY(ha:PT X a tA):PT X (.UnaryOp .Not a pos) (azf tA):=by
 intro pins s σ H Q I h
 exact isTrue_not (ha pins s σ H (λc H1=>Q (!c) H1) I h)
def avZ(ta tb:TE):TE:=λσ H Q=>ta σ H λx H1=>∃c,x=.bl c/\if c=true then tb σ H1 Q else Q (.bl false) H1
def azg(ta tb:TE):TE:=λσ H Q=>ta σ H λx H1=>∃c,x=.bl c/\if c=true then Q (.bl true) H1 else tb σ H1 Q
def av0(ta:TE):TE:=λσ H Q=>ta σ H λx H1=>∃c,x=.bl c/\Q (.bl (!c)) H1
theorem acS{op}{t:TE}(h:PE X a t):PE X (.BoolOp op [a] pos) t:=λpins s σ H Q I hw=>BoolOp_one (h pins s σ H Q I hw)
theorem al6(ha:PE X a ta)(hb:PE X (.BoolOp .And (b::rest) pos) tb):PE X (.BoolOp .And (a::b::rest) pos) (avZ ta tb):=by
 intro pins s σ H Q I h
 refine BoolOp_and (gq (ha pins s σ H _ I h) λv s1 hz=>lA hz λx H1 I1 r1 q1=>?_)
 obtain⟨c,rfl,q1⟩:=q1
 cases r1
 refine wpAny_truthy_bool ?_
 cases c with
 | true=>exact hb pins s1 σ H1 Q I1 q1
 | false=>exact⟨.bl false,H1,I1,rfl,q1⟩
theorem arq(ha:PE X a ta)(hb:PE X (.BoolOp .Or (b::rest) pos) tb):PE X (.BoolOp .Or (a::b::rest) pos) (azg ta tb):=by
 intro pins s σ H Q I h
 refine BoolOp_or (gq (ha pins s σ H _ I h) λv s1 hz=>lA hz λx H1 I1 r1 q1=>?_)
 obtain⟨c,rfl,q1⟩:=q1
 cases r1
 refine wpAny_truthy_bool ?_
 cases c with
 | false=>exact hb pins s1 σ H1 Q I1 q1
 | true=>exact⟨.bl true,H1,I1,rfl,q1⟩
theorem asi(ha:PE X a ta):PE X (.UnaryOp .Not a pos) (av0 ta):=by
 intro pins s σ H Q I h
 refine UnaryOp_ (gq (ha pins s σ H _ I h) λv s1 hz=>lA hz λx H1 I1 r1 q1=>?_)
 obtain⟨c,rfl,q1⟩:=q1
 cases r1
 exact not_of (wpAny_truthy_bool ⟨.bl (!c),H1,I1,rfl,q1⟩)
def tIf(t:TT)(ta tb:TE):TE:=λσ H Q=>t σ H λc H1=>if c=true then ta σ H1 Q else tb σ H1 Q
theorem qF{c:Expr}(hc:PT X c tA)(ha:PE X a ta)(hb:PE X b tb):PE X (.IfExp c a b pos) (tIf tA ta tb):=by
 intro pins s σ H Q I h
 refine wpAny_IfExp (gq (hc pins s σ H _ I h) λd s1 hz=>ex3 hz λH1 I1 q1=>?_)
 cases d with
 | true=>exact ha pins s1 σ H1 Q I1 q1
 | false=>exact hb pins s1 σ H1 Q I1 q1
end
def bZ(K:PySem.W.Frag)(H:Hp)(a:Addr)(xs:List V):Prop :=
 Rd H a (.lst xs)\/
  ∃(o:Obj) (its:Array Value) (n:Nat),K.lookup a=some o/\o.cls=.type "list"/\o.dict=none/\o.data=.seq its n/\its.size<=sizeLine/\Vals xs its.toList
def dF(K:PySem.W.Frag)(H:Hp)(a:Addr)(xs:List V):Prop :=
 Rd H a (.tup xs)\/
  ∃(o:Obj) (its:Array Value) (n:Nat),K.lookup a=some o/\o.cls=.type "tuple"/\o.data=.seq its n/\its.size<=sizeLine/\Vals xs its.toList
def azh:Value->Option V
 | .none=>some .non
 | .bool b=>some (.bl b)
 | .int i _=>some (.int i)
 | .str x _=>some (.str x)
 | .bytes b _=>some (.byt b)
 | .float b _=>some (.flt b)
 | .ref a=>some (.ref a)
 | .type n=>some (.ty n)
 | _=>none
theorem RelV.abs{x:V}{u:Value}(r:RelV x u):azh u=some x:=by
 cases x with
 | non=>cases r;rfl
 | bl _=>cases r;rfl
 | int _=>obtain⟨t,rfl⟩:=r;rfl
 | str _=>obtain⟨t,rfl⟩:=r;rfl
 | byt _=>obtain⟨t,rfl⟩:=r;rfl
 | flt _=>obtain⟨t,rfl⟩:=r;rfl
 | ref _=>cases r;rfl
 | ty _=>cases r;rfl
theorem RelV.inj{x y:V}{u:Value}(r:RelV x u)(q:RelV y u):x=y:=Option.some.inj (r.abs.symm.trans q.abs)
theorem Vals.inj:∀{xs ys:List V} {us:List Value},Vals xs us->Vals ys us->xs=ys
 | _,_,_,.nil,.nil=>rfl
 | _,_,_,.cons r t,.cons r' t'=>by rw[r.inj r',Vals.inj t t']
section
variable{X:Cx}{pins:List (Addr×Obj)}{σ:St}{H:Hp}{s:Shared}{a:Addr}{xs ys:List V}
theorem bZ.of{K:PySem.W.Frag}(h:H a=some (.lst xs)):bZ K H a xs:=.inl (.inl h)
theorem dF.of{K:PySem.W.Frag}(h:H a=some (.tup xs)):dF K H a xs:=.inl (.inl h)
theorem Inv.list(I:Inv X pins σ H s)(h:bZ X.K H a xs):∃its:List Value,Vals xs its/\PlainL s.heap a its.toArray/\xs.length<=sizeLine:=by
 rcases h with h | ⟨o,its,n,hk,hc,hd,hs,hz,r⟩
 ·obtain⟨z,its,n,r,e⟩:=h.ok I.hok
  exact⟨its,r,⟨_,n,e,rfl,rfl,rfl⟩,z⟩
 ·refine⟨its.toList,r,⟨o,n,I.yh a o hk,hc,hd,by simpa using hs⟩,?_⟩
  have e:=r.length
  simp only[Array.length_toList]at e
  lia
theorem Inv.tuple(I:Inv X pins σ H s)(h:dF X.K H a xs):∃its:List Value,Vals xs its/\IsTup s.heap a its.toArray/\xs.length<=sizeLine:=by
 rcases h with h | ⟨o,its,n,hk,hc,hs,hz,r⟩
 ·obtain⟨z,its,r,p⟩:=h.ok I.hok
  exact⟨its,r,p,z⟩
 ·refine⟨its.toList,r,⟨o,I.yh a o hk,hc,n,by simpa using hs⟩,?_⟩
  have e:=r.length
  simp only[Array.length_toList]at e
  lia
theorem Inv.afT(I:Inv X pins σ H s)(h:bZ X.K H a xs)(h':bZ X.K H a ys):xs=ys:=by
 obtain⟨its,r,⟨o,n,e,_,_,d⟩,_⟩:=I.list h
 obtain⟨its',r',⟨o',n',e',_,_,d'⟩,_⟩:=I.list h'
 rw[e]at e';cases e'
 rw[d]at d'
 injection d' with d1 _
 have:its=its':=by simpa using congrArg Array.toList d1
 subst this
 exact r.inj r'
end
abbrev Cx.wish(X:Cx)(E:Value->Shared->Prop):Cx:={X with xe:=E}
abbrev Cx.lu(X:Cx):Cx:=X.wish λ_ _=>False
theorem Cx.Ok.wish{X:Cx}(ok:X.Ok)(E:Value->Shared->Prop):(X.wish E).Ok :=
 ⟨ok.mod,ok.kind,ok.glob,ok.blt,ok.above,ok.inj,ok.has,ok.cab,ok.hd,ok.frames,ok.stk,ok.exf,ok.bs,ok.bsz,ok.afO,ok.aih,ok.JH,ok.frf⟩
theorem Cx.Ok.wZ{X:Cx}{E:Value->Shared->Prop}(ok:(X.wish E).Ok):X.Ok :=
 ⟨ok.mod,ok.kind,ok.glob,ok.blt,ok.above,ok.inj,ok.has,ok.cab,ok.hd,ok.frames,ok.stk,ok.exf,ok.bs,ok.bsz,ok.afO,ok.aih,ok.JH,ok.frf⟩
section
variable{X:Cx}{pins:List (Addr×Obj)}{σ:St}{H:Hp}{s:Shared}{E:Value->Shared->Prop}
theorem Inv.wish(I:Inv X pins σ H s)(E:Value->Shared->Prop):Inv (X.wish E) pins σ H s:=⟨I.ok.wish E,I.os,I.bare,I.base,I.loc,I.cell,I.free,I.vD,I.pin,I.hok,I.len⟩
theorem Inv.wZ(I:Inv (X.wish E) pins σ H s):Inv X pins σ H s:=⟨I.ok.wZ,I.os,I.bare,I.base,I.loc,I.cell,I.free,I.vD,I.pin,I.hok,I.len⟩
theorem SP.wZ{D:Ends}{f:Flow}{s':Shared}(h:SP (X.wish E) pins D f s'):SP X pins D f s':=by
 cases f with
 | next=>obtain⟨σ',H',I,q⟩:=h;exact⟨σ',H',I.wZ,q⟩
 | brk=>obtain⟨σ',H',I,q⟩:=h;exact⟨σ',H',I.wZ,q⟩
 | cont=>obtain⟨σ',H',I,q⟩:=h;exact⟨σ',H',I.wZ,q⟩
 | ret u=>obtain⟨v,σ',H',I,r,q⟩:=h;exact⟨v,σ',H',I.wZ,r,q⟩
theorem PSs.lu{st:List Stmt}{t:TS}(h:PSs X.lu st t):PSs X st t:=λpins s σ H D I hw =>
 wpAny_mono (h pins s σ H D (I.wish _) hw) (λ_ _ q=>q.wZ) λ_ _ z=>False.elim z
end
section
variable{X:Cx}{st:Stmt}{rest:List Stmt}{t u:TS}{e:Expr}{te:TE}{pos:Pos}
def bN:TS:=λD σ H=>D.nx σ H
def aR(t u:TS):TS:=λD σ H=>t {D with nx:=u D} σ H
theorem bD:PSs X [] bN:=λ_ _ σ H _ I h=>wpAny_execs_nil ⟨σ,H,I,h⟩
theorem ak(h1:PS X st t)(h2:PSs X rest u):PSs X (st::rest) (aR t u):=by
 intro pins s σ H D I h
 refine wpAny_execs_cons (gq (h1 pins s σ H {D with nx:=u D} I h) λf s1 q=>?_)
 cases f with
 | next =>
   obtain⟨σ',H',I',q⟩:=q
   exact h2 pins s1 σ' H' D I' q
 | ret v=>exact q
 | brk=>exact q
 | cont=>exact q
theorem aB(h1:PS X st t):PSs X [st] t:=by
 intro pins s σ H D I h
 refine wpAny_execs_cons (gq (h1 pins s σ H D I h) λf s1 q=>?_)
 cases f with
 | next=>exact wpAny_execs_nil q
 | ret v=>exact q
 | brk=>exact q
 | cont=>exact q
theorem Inv.quiet{pins:List (Addr×Obj)}{σ:St}{H:Hp}{s:Shared}(I:Inv X pins σ H s):interactive X.env=false:=by simp[interactive,I.ok.kind]
def ajM(te:TE):TS:=λD σ H=>te σ H λ_ H1=>D.nx σ H1
theorem bM(he:PE X e te)(hs:swapsWith e none pos.line X.env=pure false:=by rfl):PS X (.Expr e pos) (ajM te):=by
 intro pins s σ H D I h
 exact wpAny_Expr_any (gq (he pins s σ H _ I h) λv s1 hz=>lA hz λx H1 I1 r1 q1=>⟨σ,H1,I1,q1⟩) I.quiet hs
def asj(te:TE):TS:=λD σ H=>te σ H D.rt
theorem bf(he:PE X e te):PS X (.Return (some e) pos) (asj te):=by
 intro pins s σ H D I h
 exact wpAny_Return_some (gq (he pins s σ H _ I h) λv s1 hz=>lA hz λx H1 I1 r1 q1=>⟨x,σ,H1,I1,r1,q1⟩)
def di(c:TT)(t u:TS):TS:=λD σ H=>c σ H λb H1=>if b=true then t D σ H1 else u D σ H1
theorem b8{c:Expr}{a b:List Stmt}{tc:TT}(hc:PT X c tc)(ha:PSs X a t)(hb:PSs X b u):PS X (.If c a b pos) (di tc t u):=by
 intro pins s σ H D I h
 refine wpAny_If (gq (hc pins s σ H _ I h) λd s1 hz=>ex3 hz λH1 I1 q1=>?_)
 cases d with
 | true=>exact ha pins s1 σ H1 D I1 q1
 | false=>exact hb pins s1 σ H1 D I1 q1
def asl:TS:=λ_ _ _=>False
end
abbrev TG:=V->St->Hp->(St->Hp->Prop)->Prop
abbrev TGs:=List V->St->Hp->(St->Hp->Prop)->Prop
def PG(X:Cx)(target:Expr)(t:TG):Prop :=
 ∀(pins:List (Addr×Obj)) (s:Shared) (σ:St) (H:Hp) (v:V) (u:Value) (Q:St->Hp->Prop),Inv X pins σ H s->RelV v u->t v σ H Q->
  wpAny (model X.prog X.w) X.A (assign target X.env u) (λ_ s'=>∃σ' H',Inv X pins σ' H' s'/\Q σ' H') X.xe s
def PGs(X:Cx)(ts:List Expr)(t:TGs):Prop :=
 ∀(pins:List (Addr×Obj)) (s:Shared) (σ:St) (H:Hp) (vs:List V) (us:List Value) (Q:St->Hp->Prop),Inv X pins σ H s->Vals vs us->t vs σ H Q->
  wpAny (model X.prog X.w) X.A (assignInOrder ((assignEach ts X.env).map (·.2)) us) (λ_ s'=>∃σ' H',Inv X pins σ' H' s'/\Q σ' H') X.xe s
abbrev asm:=V->V->V->Hp->(Hp->Prop)->Prop
def av2(X:Cx)(t:asm):Prop :=
 ∀(pins:List (Addr×Obj)) (s:Shared) (σ:St) (H:Hp) (o i v:V) (ov iv u:Value) (Q:Hp->Prop),Inv X pins σ H s->RelV o ov->RelV i iv->RelV v u->t o i v H Q->
  wpAny (model X.prog X.w) X.A (setItem ov iv u) (λ_ s'=>∃H',Inv X pins σ H' s'/\Q H') X.xe s
section
variable{X:Cx}{pos:Pos}
def ab2(i:Nat):TG:=λv σ H Q=>Q (σ.set i (some v)) H
theorem cN{i:Nat}{x:Str}(hN:X.N.Nodup)(hi:X.N[i]? = some x)(hx:Loc X.env.scope x)(hf:X.fn x=true\/X.env.scope.names.lookup x=some .local:=by first | exact .inl rfl | exact .inr rfl | assumption):PG X (.Name x pos) (ab2 i):=by
 intro pins s σ H v u Q I r h
 exact wpAny_assign_Name (afQ I hN hi hx r (λs' I'=>⟨_,H,I',h⟩) hf)
def azi:TGs:=λvs σ H Q=>vs=[]/\Q σ H
def av3(t:TG)(u:TGs):TGs:=λvs σ H Q=>∃v r,vs=v::r/\t v σ H λσ' H'=>u r σ' H' Q
theorem HW:PGs X [] azi:=by
 intro pins s σ H vs us Q I r h
 obtain⟨e,h⟩:=h
 subst e
 cases r
 exact assignInOrder_nil ⟨σ,H,I,h⟩
theorem jd{e:Expr}{es:List Expr}{t:TG}{u:TGs}(h1:PG X e t)(h2:PGs X es u)
 (hs:(assignEach (e::es) X.env).map (·.2)=assign e X.env::(assignEach es X.env).map (·.2):=by rfl):PGs X (e::es) (av3 t u):=by
 intro pins s σ H vs us Q I r h
 obtain⟨v,vr,e1,h⟩:=h
 subst e1
 cases r with
 | cons r rr =>
   rw[hs]
   refine assignInOrder_cons (gq (h1 pins s σ H _ _ _ I r h) λ_ s1 hz=>ex4 hz λσ1 H1 I1 q1=>?_)
   exact h2 pins s1 σ1 H1 _ _ Q I1 rr q1
def av4(K:PySem.W.Frag)(n:Nat)(t:TGs):TG:=λv σ H Q=>∃a xs,v=.ref a/\dF K H a xs/\xs.length=n/\t xs σ H Q
theorem Qq{es:List Expr}{k:Nat}{t:TGs}{n:Nat}(hc:X.calm=true)(h:PGs X es t)
 (hn:(assignEach es X.env).length=n:=by rfl) (hst:(assignEach es X.env).findIdx? (·.1)=none:=by rfl):PG X (.Tuple es k pos) (av4 X.K n t):=by
 intro pins s σ H v u Q I r hw
 obtain⟨a,xs,e1,hq,hl,hw⟩:=hw
 subst e1
 cases r
 obtain⟨its,rv,ht,hz⟩:=I.tuple hq
 refine assign_Tuple_tuple (I.ok.hd hc) ht (by simp[hn,<-hl,rv.length]) hst λh' hx=>?_
 have I1:Inv X pins σ H {s with heap:=h'}:=I.kept (t':=s.toks) λb o e=>hx b o (Nat.ne_of_lt (Heap.lt_size e)) e
 exact h pins _ σ H xs _ Q I1 (by simpa using rv) hw
def av5(to ti:TE)(t:asm):TG:=λv σ H Q=>to σ H λo H1=>ti σ H1 λi H2=>t o i v H2 λH3=>Q σ H3
theorem JK{o i:Expr}{to ti:TE}{t:asm}(ho:PE X o to)(hi:PE X i ti)(hs:av2 X t)
 (ha:∀v,assign (.Subscript o i pos) X.env v=(do
   let ov <-holding [v] (eval o X.env)
   let iv <-holding [v,ov] (eval i X.env)
   standAt pos
   holding [v,ov,iv] (setItem ov iv v)
   release [v,ov,iv] []):=by intro _;rfl):PG X (.Subscript o i pos) (av5 to ti t):=by
 intro pins s σ H v u Q I r h
 rw[ha]
 refine wpAny_bind (wpAny_holding (gq (ho pins s σ H _ I h) λov s1 hz=>lA hz λx H1 I1 r1 q1=>?_))
 refine wpAny_bind (wpAny_holding (gq (hi pins s1 σ H1 _ I1 q1) λiv s2 hz=>lA hz λy H2 I2 r2 q2=>?_))
 refine wpAny_bind (wpAny_standAt (wpAny_bind (wpAny_holding (gq (hs pins s2 σ H2 x y v ov iv u _ I2 r1 r2 r q2) λ_ s3 hz=>ex3 hz λH3 I3 q3=>?_))))
 exact wpAny_release ⟨σ,H3,I3,q3⟩
def asn(te:TE)(g:TG):TS:=λD σ H=>te σ H λx H1=>g x σ H1 D.nx
theorem zH{tg e:Expr}{te:TE}{g:TG}(he:PE X e te)(hg:PG X tg g)(hs:swapsWithSole [tg] e pos.line X.env=pure false:=by rfl)(hw:swappedStores [tg] e X.env=pure none:=by rfl)
 (h1:(assignEach [tg] X.env).map (·.2)=[assign tg X.env]:=by rfl):PS X (.Assign [tg] e pos) (asn te g):=by
 intro pins s σ H D I h
 refine wpAny_Assign_stores (gq (he pins s σ H _ I h) λv s1 hz=>lA hz λx H1 I1 r1 q1=>?_) hs hw
 rw[h1]
 exact gq (hg pins s1 σ H1 x v _ I1 r1 q1) λ_ s2 q=>q
theorem bz{i:Nat}{x:Str}{e:Expr}{te:TE}{pos':Pos}(hN:X.N.Nodup)(hi:X.N[i]? = some x)(hx:Loc X.env.scope x)(he:PE X e te)(hs:swapsWith e (some (.Name x pos')) pos.line X.env=pure false:=by rfl)(hf:X.fn x=true\/X.env.scope.names.lookup x=some .local:=by first | exact .inl rfl | exact .inr rfl | assumption) :
 PS X (.Assign [.Name x pos'] e pos) (asn te (ab2 i)):=by
 intro pins s σ H D I h
 refine wpAny_Assign_Name (gq (he pins s σ H _ I h) λv s1 hz=>lA hz λy H1 I1 r1 q1=>?_) hs
 exact afQ I1 hN hi hx r1 (λs2 I2=>⟨_,H1,I2,q1⟩) hf
end
section
variable{X:Cx}{pos:Pos}
def acT(c:TT)(tb:TS):TS:=λD σ H=>∃W:Nat->St->Hp->Prop,(∃m,W m σ H)/\∀m σ H,W m σ H->
 c σ H λb H1=>if b=true then ∃N:St->Hp->Prop,(∀σ' H',N σ' H'->∃m',m'<m/\W m' σ' H')/\tb {D with nx:=N,ct:=N,bk:=D.nx} σ H1 else D.nx σ H1
theorem WX{c:Expr}{body:List Stmt}{tc:TT}{tb:TS}(hp:PassesOwn (model X.prog X.w) X.A X.env X.xe)(hc:PT X c tc)(hb:PSs X body tb):PS X (.While c body [] pos) (acT tc tb):=by
 intro pins s σ H D I h
 obtain⟨W,⟨m0,w0⟩,turn⟩:=h
 refine wpAny_While (codeAny_whileLoop (λn s'=>∃σ' H',Inv X pins σ' H' s'/\W n σ' H') ?_ m0 ⟨σ,H,I,w0⟩)
 rintro n s1 ⟨σ1,H1,I1,w1⟩
 refine wpAny_passesOwn hp (gq (hc pins s1 σ1 H1 _ I1 (turn n σ1 H1 w1)) λb s2 hz=>ex3 hz λH2 I2 q2=>?_)
 cases b with
 | true =>
   obtain⟨N,hN,q2⟩:=q2
   rw[if_pos rfl]
   refine wpAny_passesOwn hp (gq (hb pins s2 σ1 H2 _ I2 q2) λf s3 q3=>?_)
   cases f with
   | next =>
     obtain⟨σ3,H3,I3,n3⟩:=q3
     obtain⟨m',hm,w3⟩:=hN σ3 H3 n3
     exact⟨m',hm,σ3,H3,I3,w3⟩
   | cont =>
     obtain⟨σ3,H3,I3,n3⟩:=q3
     obtain⟨m',hm,w3⟩:=hN σ3 H3 n3
     exact⟨m',hm,σ3,H3,I3,w3⟩
   | brk=>exact q3
   | ret v=>exact q3
 | false =>
   rw[if_neg Bool.false_ne_true]
   exact wpAny_execs_nil ⟨σ1,H2,I2,q2⟩
end
structure It where
 go:Nat->Hp->Prop
 yld:Nat->Hp->V->Hp->Prop
 stop:Nat->Hp->Prop
def Ly(X:Cx)(pins:List (Addr×Obj))(H:Hp)(b:Addr):Prop :=
 H b=none/\b≠X.env.locals/\b∉X.fs/\(b∈X.ex\/X.s₀.heap.objs.size<=b)/\(∀x c,X.env.cells.lookup x=some c->c≠b)/\∀p∈X.pn++pins,p.1≠b
theorem Inv.aoL{X:Cx}{pins:List (Addr×Obj)}{σ:St}{H H':Hp}{s:Shared}{b:Addr}(I:Inv X pins σ H s)(hb:s.heap.objs.size<=b)(hn:H' b=none):Ly X pins H' b:=by
 refine⟨hn,Nat.ne_of_gt (Nat.lt_of_lt_of_le I.lt hb),I.azc hb,.inr (Nat.le_trans I.sz hb),λx c e z=>?_,λp hp z=>?_⟩
 ·obtain⟨v,q⟩:=I.cell x c e
  exact absurd (Nat.lt_of_lt_of_le q.lt (by rw[z];exact hb)) (Nat.lt_irrefl _)
 ·exact absurd (Nat.lt_of_lt_of_le (Heap.lt_size (I.pin p hp).1) (by rw[z];exact hb)) (Nat.lt_irrefl _)
structure Turn(P:Program)(w:World)(K:PySem.W.Frag)(tg:Expr)(J:It)(fp:List Addr)(it:Addr)(tn:Nat->Heap->Prop):Prop where
 mem:it∈fp
 obj:∀i h,tn i h->∀b∈fp,∃o,h.get? b=some o/\∀v,o.data≠.cell v
 keep:∀i h h',tn i h->(∀b∈fp,∀o,h.get? b=some o->h'.get? b=some o)->tn i h'
 item:∀(X:Cx),X.prog=P->X.w=w->X.K=K->X.calm=true->∀(i:Nat) (pins:List (Addr×Obj)) (s:Shared) (σ:St) (H:Hp) (E:Value->Shared->Prop),Inv X pins σ H s->(∀b∈fp,Ly X pins H b)->tn i s.heap->J.go i H->
  wpAny (model P w) X.A (pyNext (.ref it)) (λr s1=>∃u,r=some u/\
   wpAny (model P w) X.A (letOwnedTupleGo tg (.ref it) u) (λ_ s2=>∃x H',Inv X pins σ H' s2/\RelV x u/\J.yld i H x H'/\tn (i+1) s2.heap/\∀b∈fp,H' b=none) E s1) E s
 done:∀(X:Cx),X.prog=P->X.w=w->X.K=K->X.calm=true->∀(i:Nat) (pins:List (Addr×Obj)) (s:Shared) (σ:St) (H:Hp) (E:Value->Shared->Prop),Inv X pins σ H s->(∀b∈fp,Ly X pins H b)->tn i s.heap->J.stop i H->
  wpAny (model P w) X.A (pyNext (.ref it)) (λr s1=>r=none/\Inv X pins σ H s1) E s
 self:∀(A:Around) (i:Nat) (s:Shared) (Q:Value->Shared->Prop) (E:Value->Shared->Prop),tn i s.heap->Q (.ref it) s->wpAny (model P w) A (pyIter (.ref it)) Q E s
abbrev TI:=St->Hp->(It->Hp->Prop)->Prop
def PIE(X:Cx)(pins:List (Addr×Obj))(σ:St)(tg:Expr)(R:It->Hp->Prop)(itv:Value)(s2:Shared):Prop :=
 ∃(it:Addr) (fp:List Addr) (tn:Nat->Heap->Prop) (J:It) (H':Hp),itv=.ref it/\Inv X pins σ H' s2/\Turn X.prog X.w X.K tg J fp it tn/\tn 0 s2.heap/\(∀b∈fp,Ly X pins H' b)/\R J H'
def PI(X:Cx)(tg iter:Expr)(wi:TI):Prop :=
 ∀(pins:List (Addr×Obj)) (s:Shared) (σ:St) (H:Hp) (R:It->Hp->Prop),Inv X pins σ H s->wi σ H R->
  wpAny (model X.prog X.w) X.A (eval iter X.env) (λv s1=>wpAny (model X.prog X.w) X.A (pyIter v) (PIE X pins σ tg R) X.xe s1) X.xe s
theorem art{M:Model}{A:Around}{E:Value->Shared->Prop}{s:Shared}{tg:Expr}{it:Addr}{u:Value}{o:Obj}{n:String}{vs:Array Value}{Q:Unit->Shared->Prop}(ho:s.heap.get? it=some o)(hc:o.cls=.type n)(hd:o.data=.fields vs)
 (hn:["enumerate","zip","dict_itemiterator","dict_reverseitemiterator","odict_iterator","itertools.zip_longest","itertools.pairwise"].contains n=false) (hQ:Q () s):wpAny M A (letOwnedTupleGo tg (.ref it) u) Q E s:=by
 unfold letOwnedTupleGo
 cases tg<;>first
  | exact wpAny_pure hQ
  | (cases u<;>first
      | exact wpAny_pure hQ
      | (refine wpAny_bind (wpAny_load ho ?_)
         rw[hc,hd]
         show wpAny M A (if(["enumerate","zip","dict_itemiterator","dict_reverseitemiterator","odict_iterator","itertools.zip_longest","itertools.pairwise"].contains n && vs[0]? == some (rawInt _))=true then _ else _) Q E s
         rw[if_neg (by intro h;rw[hn,Bool.false_and]at h;cases h)]
         exact wpAny_pure hQ))
def Itl(K:PySem.W.Frag)(a:Addr):It :=
 ⟨λi H=>∃xs x,bZ K H a xs/\xs[i]? = some x,λi H x H'=>H'=H/\∀xs,bZ K H a xs->xs[i]? = some x,λi H=>∃xs,bZ K H a xs/\xs.length<=i⟩
def Itr(lo:Int)(n:Nat):It:=⟨λi _=>i<n,λi H x H'=>H'=H/\x=.int (lo+i),λi _=>n<=i⟩
theorem akQ{P:Program}{w:World}{K:PySem.W.Frag}{tg:Expr}(a it:Addr):Turn P w K tg (Itl K a) [it] it (λi h=>h.IsListIter it a i) where
 mem:=by simp
 obj:=λi h st b hb=>by
  have e:b=it:=by simpa using hb
  subst e
  obtain⟨o,e,c,d⟩:=st
  exact⟨o,e,λv z=>by rw[d]at z;cases z⟩
 keep:=λi h h' st k=>st.at λo e=>k it (by simp) o e
 item:=by
  intro X hP hw hK hc i pins s σ H E I hf st hg
  subst hP hw hK
  obtain⟨xs,x,hq,hx⟩:=hg
  obtain⟨its,rv,p,hz⟩:=I.list hq
  obtain⟨u,hu,ru⟩:=rv.get hx
  obtain⟨f0,f1,f2,f3,f4,f5⟩:=hf it (by simp)
  refine wpAny_pyNext_list_item st p.isList (x:=u) (by simpa using hu) λh' st' sb=>?_
  have I1:Inv X pins σ H {s with heap:=h'}:=I.turned (t':=s.toks) (λb o hb e=>(sb.2 b hb).trans e) f0 f1 f3 f4 f5
  obtain⟨o,e,c,d⟩:=id st'
  exact⟨u,rfl,art (s:={s with heap:=h'}) e c d (by decide) ⟨x,H,I1,ru,⟨rfl,λys hy=>by rw[I.afT hy hq];exact hx⟩,st',λb hb=>(hf b hb).1⟩⟩
 done:=by
  intro X hP hw hK hc i pins s σ H E I hf st hg
  subst hP hw hK
  obtain⟨xs,hq,hx⟩:=hg
  obtain⟨its,rv,p,hz⟩:=I.list hq
  obtain⟨f0,f1,f2,f3,f4,f5⟩:=hf it (by simp)
  have hl:=rv.length
  exact wpAny_pyNext_list_end (I.ok.hd hc) st p.isList (by simp;lia) λh' eb=>⟨rfl,I.turned (t':=s.toks) (λb o hb e=>eb b o hb e) f0 f1 f3 f4 f5⟩
 self:=λ_ _ _ _ _ st h=>wpAny_pyIter_listiter st h
theorem aij{P:Program}{w:World}{K:PySem.W.Frag}{tg:Expr}(it:Addr)(lo:Int)(n:Nat):Turn P w K tg (Itr lo n) [it] it (λi h=>IsRangeIter h it (lo+(i:Nat)*1) ((n:Int) - (i:Nat)) 1) where
 mem:=by simp
 obj:=λi h st b hb=>by
  have e:b=it:=by simpa using hb
  subst e
  exact⟨_,st,λv z=>by
   have z':Data.fields _=Data.cell v:=z
   cases z'⟩
 keep:=λi h h' st k=>k it (by simp) _ st
 item:=by
  intro X hP hw hK hc i pins s σ H E I hf st hg
  subst hP hw hK
  obtain⟨f0,f1,f2,f3,f4,f5⟩:=hf it (by simp)
  have W:=Walks.range (prog:=X.prog) (w:=X.w) (I.ok.hd hc) it lo 1 n
  refine W.item i s _ _ hg st λv h' tk hv st' kk=>?_
  obtain⟨t,rfl⟩:=hv
  have I1:Inv X pins σ H {s with heap:=h',toks:=tk}:=I.turned (λb o hb e=>kk b o (by simpa using hb) e) f0 f1 f3 f4 f5
  refine⟨_,rfl,art (s:={s with heap:=h',toks:=tk}) (n:="range_iterator") st' rfl rfl (by decide) ⟨.int (lo+i),H,I1,⟨t,?_⟩,⟨rfl,rfl⟩,st',λb hb=>(hf b hb).1⟩⟩
  rw[Int.mul_one]
 done:=by
  intro X hP hw hK hc i pins s σ H E I hf st hg
  subst hP hw hK
  obtain⟨f0,f1,f2,f3,f4,f5⟩:=hf it (by simp)
  exact wpAny_pyNext_range_end (I.ok.hd hc) st (by have:n<=i:=hg;lia) λh' eb=>⟨rfl,I.turned (t':=s.toks) (λb o hb e=>eb b o hb e) f0 f1 f3 f4 f5⟩
 self:=λ_ _ _ _ _ st h=>wpAny_pyIter_rangeiter st h
section
variable{X:Cx}{tg:Expr}
def av7(K:PySem.W.Frag)(tl:TE):TI:=λσ H R=>tl σ H λx H1=>∃a,x=.ref a/\(∃xs,bZ K H1 a xs)/\R (Itl K a) H1
theorem lO{l:Expr}{tl:TE}(hl:PE X l tl):PI X tg l (av7 X.K tl):=by
 intro pins s σ H R I h
 refine gq (hl pins s σ H _ I h) λv s1 hz=>lA hz λx H1 I1 r1 q1=>?_
 obtain⟨a,e,⟨xs,hq⟩,q⟩:=q1
 subst e
 cases r1
 obtain⟨its,rv,p,hz⟩:=I1.list hq
 refine wpAny_pyIter_list p.isList ?_
 refine⟨s1.heap.objs.size,[s1.heap.objs.size],_,_,H1,rfl,I1.kept (t':=s1.toks) λb o e=>Heap.get?_push_of_some _ e,akQ a _,⟨_,Heap.get?_push_size _ rfl,rfl,rfl⟩,λb hb=>?_,q⟩
 have e:b=s1.heap.objs.size:=by simpa using hb
 subst e
 exact I1.aoL (Nat.le_refl _) (I1.hok.fresh (Nat.le_refl _))
theorem al7{pins:List (Addr×Obj)}{σ:St}{H:Hp}{s:Shared}{R:It->Hp->Prop}{E:Value->Shared->Prop}{lo hi:Int}{t u v:Tok}{tk:Nat}(I:Inv X pins σ H s)(h1 : -(2 ^ 62)<=lo)(h2:lo<2 ^ 62)(h3 : -(2 ^ 62)<=hi)(h4:hi<2 ^ 62)
 (q:R (Itr lo (hi - lo).toNat) H):wpAny (model X.prog X.w) X.A (pyIter (.ref s.heap.objs.size)) (PIE X pins σ tg R) E {s with heap:=s.heap.push {cls:=.type "range",data:=.fields #[.int lo t,.int hi u,.int 1 v]},toks:=tk}:=by
 refine wpAny_pyIter_range (IsRange.new ..) (small_one h1 h2 h3 h4) ?_
 have I1:Inv X pins σ H {s with heap:=s.heap.push {cls:=.type "range",data:=.fields #[.int lo t,.int hi u,.int 1 v]},toks:=tk}:=I.kept λb o e=>Heap.get?_push_of_some _ e
 refine⟨(s.heap.push {cls:=.type "range",data:=.fields #[.int lo t,.int hi u,.int 1 v]}).objs.size,[(s.heap.push {cls:=.type "range",data:=.fields #[.int lo t,.int hi u,.int 1 v]}).objs.size],_,_,H,rfl,
  I1.kept (t':=tk) λb o e=>Heap.get?_push_of_some _ e,aij _ lo (hi - lo).toNat,?_,λb hb=>?_,q⟩
 ·have e1:lo+((0:Nat):Int)*1=lo:=by simp
  have e2:(((hi - lo).toNat:Nat):Int) - ((0:Nat):Int)=Builtin.Range.rangeSize lo hi 1:=by rw[rangeSize_one];split<;>lia
  show IsRangeIter _ _ (lo+((0:Nat):Int)*1) ((((hi - lo).toNat:Nat):Int) - ((0:Nat):Int)) 1
  rw[e1,e2]
  exact Heap.get?_push_size _ rfl
 ·have e:b=(s.heap.push {cls:=.type "range",data:=.fields #[.int lo t,.int hi u,.int 1 v]}).objs.size:=by simpa using hb
  subst e
  exact I1.aoL (Nat.le_refl _) (I1.hok.fresh (Nat.le_refl _))
def av8(ta:TA):TI:=λσ H R=>ta σ H λvs H1=>∃j:Int,vs=[.int j]/\-(2 ^ 62)<=j/\j<2 ^ 62/\R (Itr 0 j.toNat) H1
theorem gP{a:Expr}{ta:TA}{p pos:Pos}(hg:Gl X "range") (hm:X.mg "range"=none) (ha:PA X [a] ta) (hs:starEach [a] X.env=[(false,eval a X.env)]:=by rfl):PI X tg (.Call (.Name "range" p) [a] [] pos) (av8 ta):=by
 intro pins s σ H R I h
 refine Call_ (WW I hg hm boot_range (PyProof.Rows.callWith_type1 (gq (ha pos pins s σ H _ I h) λus s1 hz=>lA hz λvs H1 I1 r1 q1=>?_) hs rfl))
 obtain⟨j,e,q1,q2,q⟩:=q1
 subst e
 cases r1 with
 | cons r rr =>
   cases rr
   obtain⟨t,rfl⟩:=r
   exact call_range_1 (al7 I1 (by lia) (by lia) q1 q2 (by simpa using q))
def Ub(wi:TI)(g:TG)(tb:TS):TS:=λD σ H=>wi σ H λJ H1=>∃W:Nat->Nat->St->Hp->Prop,(∃m,W 0 m σ H1)/\∀i m σ H,W i m σ H->
 (J.stop i H/\D.nx σ H)\/(J.go i H/\∃N:St->Hp->Prop,(∀σ' H',N σ' H'->∃m',m'<m/\W (i+1) m' σ' H')/\∀x H',J.yld i H x H'->g x σ H' λσ2 H2=>tb {D with nx:=N,ct:=N,bk:=D.nx} σ2 H2)
def WY(fp:List Addr)(h:Heap):List (Addr×Obj):=fp.filterMap λb=>(h.get? b).map λo=>(b,o)
theorem zJ{fp:List Addr}{h:Heap}{b:Addr}{o:Obj}(hb:b∈fp)(e:h.get? b=some o):(b,o)∈WY fp h:=List.mem_filterMap.mpr ⟨b,hb,by rw[e];rfl⟩
theorem akR{fp:List Addr}{h:Heap}{p:Addr×Obj}(hp:p∈WY fp h):p.1∈fp/\h.get? p.1=some p.2:=by
 obtain⟨b,hb,e⟩:=List.mem_filterMap.mp hp
 cases q:h.get? b with
 | none=>rw[q]at e;cases e
 | some o =>
   rw[q]at e
   have e':(b,o)=p:=Option.some.inj e
   subst e'
   exact⟨hb,q⟩
theorem Inv.pinned{pins:List (Addr×Obj)}{σ:St}{H:Hp}{s:Shared}{fp:List Addr}(I:Inv X pins σ H s)(hf:∀b∈fp,Ly X pins H b)(ho:∀b∈fp,∃o,s.heap.get? b=some o/\∀v,o.data≠.cell v):Inv X (pins++WY fp s.heap) σ H s :=
 I.ajL λp hp=>(List.mem_append.mp hp).elim (λz=>I.pin p (List.mem_append_right _ z)) λz=>by
  obtain⟨hb,e⟩:=akR z
  obtain⟨f0,f1,f2,_⟩:=hf p.1 hb
  obtain⟨o,e',d⟩:=ho p.1 hb
  rw[e]at e';cases e'
  exact⟨e,f0,f1,f2,d⟩
theorem Inv.Lz{pins pl:List (Addr×Obj)}{σ:St}{H:Hp}{s:Shared}(I:Inv X (pins++pl) σ H s):Inv X pins σ H s:=I.ajL λp hp=>I.pin p (List.mem_append_right _ (List.mem_append_left _ hp))
theorem tY{iter:Expr}{body:List Stmt}{wi:TI}{g:TG}{tb:TS}{pos:Pos}(hp:PassesOwn (model X.prog X.w) X.A X.env X.xe)(hc:X.calm=true)(hi:PI X tg iter wi)(hg:PG X tg g)(hb:PSs X body tb)
 (hs:∀x,foldedSetIterable iter X.env x=pure x:=by intro _;rfl):PS X (.For tg iter body [] pos) (Ub wi g tb):=by
 intro pins s σ H D I h
 refine wpAny_For (gq (hi pins s σ H _ I h) λv s1 h1=>gq h1 λitv s2 h2=>?_) hs
 obtain⟨it,fp,tn,J,H2,e,I2,T,st2,f2,W,⟨m0,w0⟩,turn⟩:=h2
 subst e
 have stat:∀{H':Hp},(∀b∈fp,H' b=none)->∀b∈fp,Ly X pins H' b:=λhn b hb=>⟨hn b hb,(f2 b hb).2⟩
 refine codeAny_forLoop_any (λn s'=>∃i σ' H',Inv X pins σ' H' s'/\tn i s'.heap/\(∀b∈fp,H' b=none)/\W i n σ' H') ?_ m0 ⟨0,σ,H2,I2,st2,λb hb=>(f2 b hb).1,w0⟩
 rintro n s3 ⟨i,σ3,H3,I3,st3,fr3,w3⟩
 rcases turn i n σ3 H3 w3 with ⟨stop,qn⟩ | ⟨go,N,hN,step⟩
 ·refine wpAny_passesOwn hp (gq (T.done X rfl rfl rfl hc i pins s3 σ3 H3 X.xe I3 (stat fr3) st3 stop) λr s4 ⟨hr,I4⟩=>?_)
  subst hr
  exact wpAny_execs_nil ⟨σ3,H3,I4,qn⟩
 ·refine wpAny_passesOwn hp (gq (T.item X rfl rfl rfl hc i pins s3 σ3 H3 X.xe I3 (stat fr3) st3 go) λr s4 ⟨u,hr,h4⟩=>?_)
  subst hr
  refine wpAny_passesOwn hp (gq h4 λ_ s5 hz=>lA hz λx H5 I5 r5 ⟨y5,st5,fr5⟩=>?_)
  have I5':=I5.pinned (stat fr5) (T.obj _ _ st5)
  refine wpAny_passesOwn hp (gq (hg _ s5 σ3 H5 x u _ I5' r5 (step x H5 y5)) λ_ s6 hz=>ex4 hz λσ6 H6 I6 q6=>?_)
  refine wpAny_passesOwn hp (gq (hb _ s6 σ6 H6 _ I6 q6) λf s7 q7=>?_)
  have again:∀{σ7:St} {H7:Hp},Inv X (pins++WY fp s5.heap) σ7 H7 s7->N σ7 H7->∃m,m<n/\∃i σ' H',Inv X pins σ' H' s7/\tn i s7.heap/\(∀b∈fp,H' b=none)/\W i m σ' H':=λ{σ7 H7} I7 n7=>by
   obtain⟨m',hm,w7⟩:=hN σ7 H7 n7
   refine⟨m',hm,i+1,σ7,H7,I7.Lz,T.keep _ _ _ st5 λb hb o e=>(I7.pin (b,o) (List.mem_append_right _ (List.mem_append_right _ (zJ hb e)))).1,λb hb=>?_,w7⟩
   obtain⟨o,e,d⟩:=T.obj _ _ st5 b hb
   exact(I7.pin (b,o) (List.mem_append_right _ (List.mem_append_right _ (zJ hb e)))).2.1
  cases f with
  | next=>obtain⟨σ7,H7,I7,n7⟩:=q7;exact again I7 n7
  | cont=>obtain⟨σ7,H7,I7,n7⟩:=q7;exact again I7 n7
  | brk=>obtain⟨σ7,H7,I7,q7⟩:=q7;exact⟨σ7,H7,I7.Lz,q7⟩
  | ret v=>obtain⟨x7,σ7,H7,I7,r7,q7⟩:=q7;exact⟨x7,σ7,H7,I7.Lz,r7,q7⟩
end
theorem tZ{K:PySem.W.Frag}{a:Addr}{xs:List V}{g:TG}{tb:TS}{D:Ends}{σ:St}{H:Hp}(Pv:Nat->St->Hp->Prop)(h0:Pv 0 σ H)(hl:∀i σ H,i<=xs.length->Pv i σ H->bZ K H a xs)
 (hs:∀i x σ H,xs[i]? = some x->Pv i σ H->g x σ H λσ2 H2=>tb {D with nx:=Pv (i+1),ct:=Pv (i+1),bk:=D.nx} σ2 H2) (hd:∀σ H,Pv xs.length σ H->D.nx σ H) :
 ∃W:Nat->Nat->St->Hp->Prop,(∃m,W 0 m σ H)/\∀i m σ H,W i m σ H->
  ((Itl K a).stop i H/\D.nx σ H)\/((Itl K a).go i H/\∃N:St->Hp->Prop,(∀σ' H',N σ' H'->∃m',m'<m/\W (i+1) m' σ' H')/\∀x H',(Itl K a).yld i H x H'->g x σ H' λσ2 H2=>tb {D with nx:=N,ct:=N,bk:=D.nx} σ2 H2):=by
 refine⟨λi m σ H=>m=xs.length - i/\i<=xs.length/\Pv i σ H,⟨xs.length,by simp,Nat.zero_le _,h0⟩,?_⟩
 rintro i m σ H ⟨rfl,hi,p⟩
 have q:=hl i σ H hi p
 by_cases hlt:i<xs.length
 ·refine .inr ⟨⟨xs,xs[i],q,by simp[hlt]⟩,Pv (i+1),λσ' H' p'=>⟨xs.length - (i+1),by lia,rfl,hlt,p'⟩,λx H' y=>?_⟩
  obtain⟨e,y⟩:=y
  subst e
  exact hs i x σ _ (y xs q) p
 ·have e:i=xs.length:=by lia
  subst e
  exact .inl ⟨⟨xs,q,Nat.le_refl _⟩,hd σ H p⟩
theorem HX{lo:Int}{n:Nat}{g:TG}{tb:TS}{D:Ends}{σ:St}{H:Hp}(Pv:Nat->St->Hp->Prop)(h0:Pv 0 σ H)
 (hs:∀i σ H,i<n->Pv i σ H->g (.int (lo+i)) σ H λσ2 H2=>tb {D with nx:=Pv (i+1),ct:=Pv (i+1),bk:=D.nx} σ2 H2) (hd:∀σ H,Pv n σ H->D.nx σ H) :
 ∃W:Nat->Nat->St->Hp->Prop,(∃m,W 0 m σ H)/\∀i m σ H,W i m σ H->
  ((Itr lo n).stop i H/\D.nx σ H)\/((Itr lo n).go i H/\∃N:St->Hp->Prop,(∀σ' H',N σ' H'->∃m',m'<m/\W (i+1) m' σ' H')/\∀x H',(Itr lo n).yld i H x H'->g x σ H' λσ2 H2=>tb {D with nx:=N,ct:=N,bk:=D.nx} σ2 H2):=by
 refine⟨λi m σ H=>m=n - i/\i<=n/\Pv i σ H,⟨n,by simp,Nat.zero_le _,h0⟩,?_⟩
 rintro i m σ H ⟨rfl,hi,p⟩
 by_cases hlt:i<n
 ·refine .inr ⟨hlt,Pv (i+1),λσ' H' p'=>⟨n - (i+1),by lia,rfl,hlt,p'⟩,λx H' y=>?_⟩
  obtain⟨e,y⟩:=y
  subst e y
  exact hs i σ _ hlt p
 ·have e:i=n:=by lia
  subst e
  exact .inl ⟨Nat.le_refl _,hd σ H p⟩
abbrev R2:=V->V->Hp->VK->Prop
def WK(X:Cx)(f:Value->Value->Sem Value)(r:R2):Prop :=
 ∀(pins:List (Addr×Obj)) (s:Shared) (σ:St) (H:Hp) (x y:V) (v u:Value) (Q:VK),Inv X pins σ H s->RelV x v->RelV y u->r x y H Q->
  wpAny (model X.prog X.w) X.A (f v u) (EP X pins σ Q) X.xe s
def UnR(X:Cx)(f:Value->Sem Value)(r:V->Hp->VK->Prop):Prop :=
 ∀(pins:List (Addr×Obj)) (s:Shared) (σ:St) (H:Hp) (x:V) (v:Value) (Q:VK),Inv X pins σ H s->RelV x v->r x H Q->
  wpAny (model X.prog X.w) X.A (f v) (EP X pins σ Q) X.xe s
def R5(X:Cx)(f:Value)(r:List V->Hp->VK->Prop):Prop :=
 ∀(pins:List (Addr×Obj)) (s:Shared) (σ:St) (H:Hp) (xs:List V) (us:List Value) (Q:VK),Inv X pins σ H s->Vals xs us->r xs H Q->
  wpAny (model X.prog X.w) X.A (call f us) (EP X pins σ Q) X.xe s
def azk(X:Cx)(r:V->Hp->(Bool->Hp->Prop)->Prop):Prop :=
 ∀(pins:List (Addr×Obj)) (s:Shared) (σ:St) (H:Hp) (x:V) (v:Value) (Q:Bool->Hp->Prop),Inv X pins σ H s->RelV x v->r x H Q->
  wpAny (model X.prog X.w) X.A (truthy v) (TP X pins σ Q) X.xe s
def W0(r:R2)(ta tb:TE):TE:=λσ H Q=>ta σ H λx H1=>tb σ H1 λy H2=>r x y H2 Q
def tUn(r:V->Hp->VK->Prop)(ta:TE):TE:=λσ H Q=>ta σ H λx H1=>r x H1 Q
def rI(C:Int->Int->Prop)(g:Int->Int->V):R2:=λx y H Q=>∃i j,x=.int i/\y=.int j/\C i j/\Q (g i j) H
def rI0(g:Int->Int->V):R2:=λx y H Q=>∃i j,x=.int i/\y=.int j/\Q (g i j) H
def rU(g:Int->V):V->Hp->VK->Prop:=λx H Q=>∃i,x=.int i/\Q (g i) H
section
variable{X:Cx}{a b c:Expr}{ta tb tc:TE}{pos:Pos}
theorem aso(ha:PE X a ta)(hb:PE X b tb){pins:List (Addr×Obj)}{s:Shared}{σ:St}{H:Hp}{R:V->V->Hp->Prop}(I:Inv X pins σ H s)
 (h:ta σ H λx H1=>tb σ H1 λy H2=>R x y H2) {Q:Value->Shared->Prop} {f:Value->Value->Sem Value}
 (hf:∀v u s2 x y H2,Inv X pins σ H2 s2->RelV x v->RelV y u->R x y H2->wpAny (model X.prog X.w) X.A (f v u) Q X.xe s2) :
 wpAny (model X.prog X.w) X.A (eval a X.env) (λv s₁=>wpAny (model X.prog X.w) X.A (eval b X.env) (λu s₂=>wpAny (model X.prog X.w) X.A (f v u) Q X.xe s₂) X.xe s₁) X.xe s:=by
 refine gq (ha pins s σ H _ I h) λv s1 hz=>lA hz λx H1 I1 r1 q1=>?_
 refine gq (hb pins s1 σ H1 _ I1 q1) λu s2 hz=>lA hz λy H2 I2 r2 q2=>?_
 exact hf v u s2 x y H2 I2 r1 r2 q2
theorem bG{op:Operator}{r:R2}(ho:WK X (binaryOp op) r)(ha:PE X a ta)(hb:PE X b tb):PE X (.BinOp a op b pos) (W0 r ta tb):=by
 intro pins s σ H Q I h
 exact wpAny_BinOp (aso ha hb I h λv u s2 x y H2 I2 rx ry q=>ho pins s2 σ H2 x y v u Q I2 rx ry q)
theorem R6{op:UnaryOp}{r:V->Hp->VK->Prop}(ho:UnR X (unaryOp op) r)(ha:PE X a ta):PE X (.UnaryOp op a pos) (tUn r ta):=by
 intro pins s σ H Q I h
 exact UnaryOp_ (gq (ha pins s σ H _ I h) λv s1 hz=>lA hz λx H1 I1 r1 q1=>ho pins s1 σ H1 x v Q I1 r1 q1)
theorem opI{f:Value->Value->Sem Value}{C:Int->Int->Prop}{g:Int->Int->Int}
 (rule:∀(i j:Int) (t u:Tok) (s:Shared) (Q:Value->Shared->Prop) (E:Value->Shared->Prop),C i j->Q (.int (g i j) s.toks) {s with toks:=s.toks+1}->wpAny (model X.prog X.w) X.A (f (.int i t) (.int j u)) Q E s) :
 WK X f (rI C λi j=>.int (g i j)):=by
 intro pins s σ H x y v u Q I rx ry h
 obtain⟨i,j,rfl,rfl,hc,q⟩:=h
 obtain⟨t,rfl⟩:=rx
 obtain⟨t',rfl⟩:=ry
 exact rule i j t t' s _ _ hc ⟨.int (g i j),H,I.tok _,⟨_,rfl⟩,q⟩
theorem av9{f:Value->Value->Sem Value}{g:Int->Int->Int}
 (rule:∀(i j:Int) (t u:Tok) (s:Shared) (Q:Value->Shared->Prop) (E:Value->Shared->Prop),Q (.int (g i j) s.toks) {s with toks:=s.toks+1}->wpAny (model X.prog X.w) X.A (f (.int i t) (.int j u)) Q E s) :
 WK X f (rI0 λi j=>.int (g i j)):=by
 intro pins s σ H x y v u Q I rx ry h
 obtain⟨i,j,rfl,rfl,q⟩:=h
 obtain⟨t,rfl⟩:=rx
 obtain⟨t',rfl⟩:=ry
 exact rule i j t t' s _ _ ⟨.int (g i j),H,I.tok _,⟨_,rfl⟩,q⟩
theorem asp{f:Value->Value->Sem Value}{g:Int->Int->Bool}
 (rule:∀(i j:Int) (t u:Tok) (s:Shared) (Q:Value->Shared->Prop) (E:Value->Shared->Prop),Q (.bool (g i j)) s->wpAny (model X.prog X.w) X.A (f (.int i t) (.int j u)) Q E s) :
 WK X f (rI0 λi j=>.bl (g i j)):=by
 intro pins s σ H x y v u Q I rx ry h
 obtain⟨i,j,rfl,rfl,q⟩:=h
 obtain⟨t,rfl⟩:=rx
 obtain⟨t',rfl⟩:=ry
 exact rule i j t t' s _ _ ⟨.bl (g i j),H,I,rfl,q⟩
def awa(i j:Int):Prop:=0<j/\j<1073741824
def azl(i j:Int):Prop:=0<=j/\j<=1000000/\i.natAbs<2 ^ 64
def al8(i j:Int):Prop:=(-(2 ^ 64)<i/\i<2 ^ 64)\/(-(2 ^ 64)<j/\j<2 ^ 64)
theorem al8.ok{i j:Int}(h:al8 i j):IntMulOk i j:=by
 rcases h with ⟨h1,h2⟩ | ⟨h1,h2⟩
 ·exact .of_left (intBits_le_64 h1 h2)
 ·exact .of_right (intBits_le_64 h1 h2)
theorem jQ:WK X (binaryOp .Add) (rI0 λi j=>.int (i+j)):=av9 λ_ _ _ _ _ _ _ q=>add_int q
theorem Eu:WK X (binaryOp .Sub) (rI0 λi j=>.int (i - j)):=av9 λ_ _ _ _ _ _ _ q=>sub_int q
theorem zK:WK X (binaryOp .Mult) (rI al8 λi j=>.int (i*j)):=opI λ_ _ _ _ _ _ _ hc q=>mul_int q hc.ok
theorem jH:WK X (binaryOp .FloorDiv) (rI awa λi j=>.int (i / j)):=opI λi j _ _ _ _ _ hc q=>by
 have h1:(0:Int)<j:=hc.1
 have h2:j<1073741824:=hc.2
 exact floordiv_int (by lia) (by rw[Int.fdiv_eq_ediv_of_nonneg i (by lia)];exact q) (.inl (PyProof.noPylong_small (by lia)))
theorem fL:WK X (binaryOp .Mod) (rI (λ_ j=>0<j) λi j=>.int (i % j)):=opI λi j _ _ _ _ _ hc q=>by
 have h1:(0:Int)<j:=hc
 exact mod_int' (by lia) (by rw[Int.fmod_eq_emod_of_nonneg i (by lia)];exact q)
theorem acU:WK X (binaryOp .Pow) (rI azl λi j=>.int (i ^ j.toNat)):=opI λ_ _ _ _ _ _ _ hc q=>pow_int_small hc.1 hc.2.1 hc.2.2 q
theorem unI{f:Value->Sem Value}{g:Int->Int}
 (rule:∀(i:Int) (t:Tok) (s:Shared) (Q:Value->Shared->Prop) (E:Value->Shared->Prop),Q (.int (g i) s.toks) {s with toks:=s.toks+1}->wpAny (model X.prog X.w) X.A (f (.int i t)) Q E s) :
 UnR X f (rU λi=>.int (g i)):=by
 intro pins s σ H x v Q I rx h
 obtain⟨i,rfl,q⟩:=h
 obtain⟨t,rfl⟩:=rx
 exact rule i t s _ _ ⟨.int (g i),H,I.tok _,⟨_,rfl⟩,q⟩
theorem Ew:UnR X (unaryOp .USub) (rU λi=>.int (-i)):=unI λ_ _ _ _ _ q=>neg_int q
end
def asr:V->V->Bool
 | .non,.non=>true | .non,.int _=>true | .int _,.non=>true | .non,.bl _=>true | .bl _,.non=>true | .non,.str _=>true | .str _,.non=>true
 | .int _,.int _=>true | .bl _,.bl _=>true | .str _,.str _=>true | .byt _,.byt _=>true
 | .int _,.str _=>true | .str _,.int _=>true | .bl _,.str _=>true | .str _,.bl _=>true
 | _,_=>false
def rEq:R2:=λx y H Q=>asr x y=true/\Q (.bl (decide (x=y))) H
def rNe:R2:=λx y H Q=>asr x y=true/\Q (.bl (!decide (x=y))) H
theorem ajN{i j:Int}:decide (V.int i=V.int j)=(i == j):=by
 rw[Bool.eq_iff_iff]
 simp
theorem al9{i j:Bool}:decide (V.bl i=V.bl j)=(i == j):=by
 rw[Bool.eq_iff_iff]
 simp
theorem ajO{i j:Str}:decide (V.str i=V.str j)=(i == j):=by
 rw[Bool.eq_iff_iff]
 simp
theorem ajP{i j:Array UInt8}:decide (V.byt i=V.byt j)=(i.toList == j.toList):=by
 rw[Bool.eq_iff_iff]
 cases i
 cases j
 simp
section
variable{X:Cx}{a b c:Expr}{ta tb tc:TE}{pos:Pos}
theorem eV{pins:List (Addr×Obj)}{σ:St}{H:Hp}{s:Shared}{Q:VK}{k k':Bool}(I:Inv X pins σ H s)(q:Q (.bl k) H)(e:k=k'):EP X pins σ Q (.bool k') s:=by
 subst e
 exact⟨.bl k,H,I,rfl,q⟩
theorem cR:WK X (compareOp .Eq) rEq:=by
 intro pins s σ H x y v u Q I rx ry h
 obtain⟨hs,q⟩:=h
 cases x with
 | non =>
   cases rx
   cases y with
   | non=>cases ry;exact PySem.EqNone.eq_none_none (eV I q (by simp))
   | bl j=>cases ry;exact PySem.EqNone.eq_none_bool (eV I q (by simp))
   | int j=>obtain⟨t',rfl⟩:=ry;exact PySem.EqNone.eq_none_int (eV I q (by simp))
   | str j=>obtain⟨t',rfl⟩:=ry;exact PySem.EqNone.eq_none_str (eV I q (by simp))
   | _=>exact absurd (show false=true from hs) Bool.false_ne_true
 | bl i =>
   cases rx
   cases y with
   | non=>cases ry;exact PySem.EqNone.eq_bool_none (eV I q (by simp))
   | bl j=>cases ry;exact eq_bool (eV I q al9)
   | str j=>obtain⟨t',rfl⟩:=ry;exact PySem.EqMixed.eq_bool_str (eV I q (by simp))
   | _=>exact absurd (show false=true from hs) Bool.false_ne_true
 | int i =>
   obtain⟨t,rfl⟩:=rx
   cases y with
   | non=>cases ry;exact PySem.EqNone.eq_int_none (eV I q (by simp))
   | int j=>obtain⟨t',rfl⟩:=ry;exact eq_int (eV I q ajN)
   | str j=>obtain⟨t',rfl⟩:=ry;exact PySem.EqMixed.eq_int_str (eV I q (by simp))
   | _=>exact absurd (show false=true from hs) Bool.false_ne_true
 | str i =>
   obtain⟨t,rfl⟩:=rx
   cases y with
   | non=>cases ry;exact PySem.EqNone.eq_str_none (eV I q (by simp))
   | bl j=>cases ry;exact PySem.EqMixed.eq_str_bool (eV I q (by simp))
   | int j=>obtain⟨t',rfl⟩:=ry;exact PySem.EqMixed.eq_str_int (eV I q (by simp))
   | str j=>obtain⟨t',rfl⟩:=ry;exact eq_str (eV I q ajO)
   | _=>exact absurd (show false=true from hs) Bool.false_ne_true
 | byt i =>
   obtain⟨t,rfl⟩:=rx
   cases y with
   | byt j=>obtain⟨t',rfl⟩:=ry;exact PySem.W.eq_bytes (eV I q ajP)
   | _=>exact absurd (show false=true from hs) Bool.false_ne_true
 | _=>cases y<;>exact absurd (show false=true from hs) Bool.false_ne_true
theorem BR:WK X (compareOp .NotEq) rNe:=by
 intro pins s σ H x y v u Q I rx ry h
 obtain⟨hs,q⟩:=h
 cases x with
 | non =>
   cases rx
   cases y with
   | non=>cases ry;exact PySem.EqNone.ne_none_none (eV I q (by simp))
   | bl j=>cases ry;exact PySem.EqNone.ne_none_bool (eV I q (by simp))
   | int j=>obtain⟨t',rfl⟩:=ry;exact PySem.EqNone.ne_none_int (eV I q (by simp))
   | str j=>obtain⟨t',rfl⟩:=ry;exact PySem.EqNone.ne_none_str (eV I q (by simp))
   | _=>exact absurd (show false=true from hs) Bool.false_ne_true
 | bl i =>
   cases rx
   cases y with
   | non=>cases ry;exact PySem.EqNone.ne_bool_none (eV I q (by simp))
   | bl j=>cases ry;exact ne_bool (eV I q (congrArg not al9))
   | str j=>obtain⟨t',rfl⟩:=ry;exact PySem.EqMixed.ne_bool_str (eV I q (by simp))
   | _=>exact absurd (show false=true from hs) Bool.false_ne_true
 | int i =>
   obtain⟨t,rfl⟩:=rx
   cases y with
   | non=>cases ry;exact PySem.EqNone.ne_int_none (eV I q (by simp))
   | int j=>obtain⟨t',rfl⟩:=ry;exact ne_int (eV I q (congrArg not ajN))
   | str j=>obtain⟨t',rfl⟩:=ry;exact PySem.EqMixed.ne_int_str (eV I q (by simp))
   | _=>exact absurd (show false=true from hs) Bool.false_ne_true
 | str i =>
   obtain⟨t,rfl⟩:=rx
   cases y with
   | non=>cases ry;exact PySem.EqNone.ne_str_none (eV I q (by simp))
   | bl j=>cases ry;exact PySem.EqMixed.ne_str_bool (eV I q (by simp))
   | int j=>obtain⟨t',rfl⟩:=ry;exact PySem.EqMixed.ne_str_int (eV I q (by simp))
   | str j=>obtain⟨t',rfl⟩:=ry;exact ne_str (eV I q (congrArg not ajO))
   | _=>exact absurd (show false=true from hs) Bool.false_ne_true
 | byt i =>
   obtain⟨t,rfl⟩:=rx
   cases y with
   | byt j=>obtain⟨t',rfl⟩:=ry;exact PySem.W.ne_bytes (eV I q (congrArg not ajP))
   | _=>exact absurd (show false=true from hs) Bool.false_ne_true
 | _=>cases y<;>exact absurd (show false=true from hs) Bool.false_ne_true
theorem ab3:WK X (compareOp .Lt) (rI0 λi j=>.bl (decide (i<j))):=asp λ_ _ _ _ _ _ _ q=>lt_int q
theorem aru:WK X (compareOp .Gt) (rI0 λi j=>.bl (decide (j<i))):=asp λ_ _ _ _ _ _ _ q=>gt_int q
theorem W2:WK X (compareOp .GtE) (rI0 λi j=>.bl (decide (j<=i))):=asp λ_ _ _ _ _ _ _ q=>ge_int q
theorem bu(b:Expr){op:CmpOp}(h:op≠.In:=by decide)(h2:op≠.NotIn:=by decide):behindInMarks op b=false:=by
 have e1:(op == CmpOp.In)=false:=by cases op<;>first | rfl | exact absurd rfl h
 have e2:(op == CmpOp.NotIn)=false:=by cases op<;>first | rfl | exact absurd rfl h2
 cases b<;>simp[behindInMarks,e1,e2]
theorem kO{op:CmpOp}{r:R2}(ho:WK X (compareOp op) r)(ha:PE X a ta)(hb:PE X b tb)(hm:behindInMarks op b=false):PE X (.Compare a [op] [b] pos) (W0 r ta tb):=by
 intro pins s σ H Q I h
 exact wpAny_Compare1 (aso ha hb I h λv u s2 x y H2 I2 rx ry q=>ho pins s2 σ H2 x y v u Q I2 rx ry q) hm
def afU(t:TE):TT:=λσ H Q=>t σ H λx H'=>∃k,x=.bl k/\Q k H'
theorem aU{op:CmpOp}{r:R2}(ho:WK X (compareOp op) r)(ha:PE X a ta)(hb:PE X b tb)(hm:behindInMarks op b=false):PT X (.Compare a [op] [b] pos) (afU (W0 r ta tb)):=by
 intro pins s σ H Q I h
 refine wpAny_isTrue_Compare1 (gq (ha pins s σ H _ I h) λv s1 hz=>lA hz λx H1 I1 r1 q1=>gq (hb pins s1 σ H1 _ I1 q1) λu s2 hz=>lA hz λy H2 I2 r2 q2 =>
  gq (ho pins s2 σ H2 x y v u _ I2 r1 r2 q2) λc s3 hz=>lA hz λz H3 I3 r3 ⟨k,e,q3⟩=>?_) hm
 subst e
 cases r3
 exact wpAny_truthy_bool ⟨H3,I3,q3⟩
def awb(K:PySem.W.Frag)(x:V)(H:Hp)(k:Bool):Prop :=
 match x with
 | .non=>k=false
 | .bl b=>k=b
 | .int i=>k=(i != 0)
 | .str y=>y.length<=sizeLine/\k=((y.length:Int) != 0)
 | .byt y=>y.size<=sizeLine/\k=((y.size:Int) != 0)
 | .ref p=>(∃xs,bZ K H p xs/\k = !xs.isEmpty)\/(∃xs,dF K H p xs/\k = !xs.isEmpty)\/∃kvs,H p=some (.dK kvs)/\k = !kvs.isEmpty
 | _=>False
theorem aik{κ:Type}{kvs:List (κ×V)}{vs:List (κ×Value)}(r:KV kvs vs):(!vs.isEmpty) = !kvs.isEmpty:=by
 cases r<;>rfl
theorem W3{xs:List V}{its:List Value}(r:Vals xs its):(!its.toArray.isEmpty) = !xs.isEmpty:=by
 cases r<;>simp
theorem W4:(sizeLine:Nat)<2 ^ 63:=by rw[sizeLine_eq];decide
theorem ass:azk X (λx H Q=>∃k,awb X.K x H k/\Q k H):=by
 intro pins s σ H x v Q I rx h
 obtain⟨k,e,q⟩:=h
 have hl:=W4
 have hs:sizeLine=16777216:=sizeLine_eq
 cases x with
 | non =>
   cases rx
   have e':k=false:=e
   subst e'
   exact truthy_none ⟨H,I,q⟩
 | bl b =>
   cases rx
   have e':k=b:=e
   subst e'
   exact wpAny_truthy_bool ⟨H,I,q⟩
 | int i =>
   obtain⟨t,rfl⟩:=rx
   have e':k=(i != 0):=e
   subst e'
   exact PySem.P.truthy_int ⟨H,I,q⟩
 | str y =>
   obtain⟨t,rfl⟩:=rx
   obtain⟨hy,e'⟩:y.length<=sizeLine/\k=((y.length:Int) != 0):=e
   subst e'
   exact PySem.P.truthy_str (by lia) ⟨H,I.tok _,q⟩
 | byt y =>
   obtain⟨t,rfl⟩:=rx
   obtain⟨hy,e'⟩:y.size<=sizeLine/\k=((y.size:Int) != 0):=e
   subst e'
   exact PySem.W.truthy_bytes (by lia) ⟨H,I.tok _,q⟩
 | ref p =>
   cases rx
   have e':(∃xs,bZ X.K H p xs/\k = !xs.isEmpty)\/(∃xs,dF X.K H p xs/\k = !xs.isEmpty)\/∃kvs,H p=some (.dK kvs)/\k = !kvs.isEmpty:=e
   rcases e' with ⟨xs,hx,e'⟩ | ⟨xs,hx,e'⟩ | ⟨kvs,hx,e'⟩
   ·subst e'
    obtain⟨its,r,pl,hz⟩:=I.list hx
    have hlen:=r.length
    exact wpAny_truthy_list pl.isList (by simp only[List.size_toArray];lia) ⟨H,I.tok _,by rw[W3 r];exact q⟩
   ·subst e'
    obtain⟨its,r,pl,hz⟩:=I.tuple hx
    have hlen:=r.length
    exact truthy_tuple pl (by simp only[List.size_toArray];lia) ⟨H,I.tok _,by rw[W3 r];exact q⟩
   ·subst e'
    obtain⟨hz,hS,vs,r,m⟩:kvs.length<=sizeLine/\(p == sysModules)=false/\∃vs,KV kvs vs/\s.heap.DictOf (ik X.prog X.w) p vs:=I.hok p _ hx
    have hlen:kvs.length=vs.length:=Paired.length r
    exact wpAny_truthy_dict hS m (by lia) ⟨H,I.tok _,by rw[aik r];exact q⟩
 | _=>exact(show False from e).elim
theorem Ex(ha:PE X a ta)(he:∀whole,isTrue a X.env whole=(do let v <-whole;standAt a.pos;holding [v] (truthy v))) :
 PT X a (λσ H Q=>ta σ H λx H'=>∃k,awb X.K x H' k/\Q k H'):=by
 intro pins s σ H Q I h
 exact isTrue_plain (gq (ha pins s σ H _ I h) λv s1 hz=>lA hz λx H1 I1 r1 q1=>ass pins s1 σ H1 x v Q I1 r1 q1) (he _)
theorem ail:WK X (binaryOp .Add) (λx y H Q=>∃i j,x=.str i/\y=.str j/\i.length+j.length<=sizeLine/\Q (.str (i++j)) H):=by
 intro pins s σ H x y v u Q I rx ry h
 obtain⟨i,j,rfl,rfl,hz,q⟩:=h
 obtain⟨t,rfl⟩:=rx
 obtain⟨t',rfl⟩:=ry
 exact add_str (λt' tk=>⟨.str (i++j),H,I.tok _,⟨_,rfl⟩,q⟩) hz
theorem vals1{x:V}{us:List Value}(r:Vals [x] us):∃u,us=[u]/\RelV x u:=by
 cases r with
 | cons r1 r2=>cases r2;exact⟨_,rfl,r1⟩
theorem mK:R5 X (.type "int") (λxs H Q=>(∃i,xs=[.int i]/\Q (.int i) H)\/∃k,xs=[.bl k]/\Q (.int (if k then 1 else 0)) H):=by
 intro pins s σ H xs us Q I r h
 rcases h with ⟨i,rfl,q⟩ | ⟨k,rfl,q⟩
 ·obtain⟨u,rfl,t,rfl⟩:=vals1 r
  exact call_int_int ⟨.int i,H,I,⟨_,rfl⟩,q⟩
 ·obtain⟨u,rfl,r1⟩:=vals1 r
  cases r1
  exact call_int_bool ⟨.int (if k then 1 else 0),H,I.tok _,⟨_,rfl⟩,q⟩
end
structure aim(h:Heap)(x dx C:Addr)(mA:Str->Option Value):Prop where
 obj:h.get? x=some (PySem.W.instObj C dx)
 ns:h.Ns1 dx mA
 ne:dx≠x
theorem akS{h:Heap}{dx:Addr}{mA:Str->Option Value}(n:h.Ns1 dx mA):∃od,h.get? dx=some od/\∀name,PySem.W.lookIn name od=some (mA name):=by
 obtain⟨o,es,ep,ho,hd,hk,_,hm⟩:=n
 refine⟨o,ho,λname=>?_⟩
 have e:=hm name
 unfold nsFind findBy at e
 rw[<-Array.find?_toList]at e
 unfold PySem.W.lookIn
 rw[hd]
 dsimp only
 split
 ·rename_i y q
  rw[q]at e
  exact congrArg some e
 ·rename_i q
  rw[q]at e
  have a:es.toList.any (·.refKey)=false:=by
   rw[List.any_eq_false]
   intro y hy
   obtain⟨z,t,hkey⟩:=hk y (Array.mem_toList_iff.mp hy)
   simp[DictEntry.refKey,hkey]
  have a':¬es.toList.any (·.refKey)=true:=by rw[a];exact Bool.false_ne_true
  rw[if_neg a']
  exact congrArg some e
theorem aim.look{h:Heap}{x dx C:Addr}{mA:Str->Option Value}(I:aim h x dx C mA):∃od,PySem.W.InstAt h x (PySem.W.instObj C dx) C (some od)/\∀name,PySem.W.lookIn name od=some (mA name) :=
 let ⟨od,ho,hl⟩:=akS I.ns
 ⟨od,⟨I.obj,rfl,rfl,ho⟩,hl⟩
section
variable{prog:Program}{w:World}{A:Around}{E:Value->Shared->Prop}{s:Shared}{K:PySem.W.Frag}{x dx C f:Addr}{mA:Str->Option Value}{name:Str}{v:Value}
theorem get_map{expr:Bool}{Q:Value->Shared->Prop}(X:K.In s.heap)(I:aim s.heap x dx C mA)(hg:PySem.W.plainGet K C name=true)(hh:PySem.W.hasDictIn K C=true)
 (ha:PySem.W.findIn K (.ref C) name=some none) (hv:mA name=some v) (hv':PySem.W.handedIn v=true) (h:Q v {s with toks:=s.toks+1}) :
 wpAny (model prog w) A (getAttr (.ref x) name expr) Q E s:=by
 obtain⟨od,J,hl⟩:=I.look
 exact PySem.W.get_value X J (PySem.W.plainGet_of hg).1 (PySem.W.findObj_own hh ha rfl (by rw[hl,hv])) hv' h
theorem ama{pl:Sem Bool}{Q:Value×List Value->Shared->Prop}(X:K.In s.heap)(I:aim s.heap x dx C mA)(hg:PySem.W.plainGet K C name=true)
 (hf:PySem.W.findIn K (.ref C) name=some (some (.ref f))) (ht:PySem.W.isFn K (.ref f)=true) (hv:mA name=none) (h:Q (.ref f,[.ref x]) s) :
 wpAny (model prog w) A (getMethod (.ref x) name pl) Q E s:=by
 obtain⟨od,J,hl⟩:=I.look
 exact PySem.W.method_fn X J (PySem.W.plainGet_of hg).1 (PySem.W.plainGet_of hg).2 hf (beq_iff_eq.mp ht) (by show(PySem.W.lookIn name od).map (·.isSome)=some false;rw[hl,hv];rfl) h
theorem aoN{ns:List Str}{Q:Unit->Shared->Prop}(X:K.In s.heap)(I:aim s.heap x dx C mA)
 (hs:PySem.W.findIn K (.ref C) "__setattr__"=some (some (.builtin "object.__setattr__"))) (hp:PySem.W.plainOver K C=true) (ht:PySem.W.takerIn K C name=some none) (hh:PySem.W.hasDictIn K C=true)
 (hw:PySem.Within mA ns) (hsz:ns.length<=sizeLine)
 (h:∀h',aim h' x dx C (λy=>if y=name then some v else mA y)->Heap.SameBut dx s.heap h'->Q () {s with heap:=h',toks:=s.toks+2}) :
 wpAny (model prog w) A (setAttr (.ref x) name v) Q E s:=by
 obtain⟨od,J,hl⟩:=I.look
 refine PySem.W.set_plain X J hs (PySem.W.osa_open (s:={s with toks:=s.toks+1}) (r:=none) X J hp ht λb=>?_)
 obtain⟨cd,hc,hd'⟩:=PySem.W.any_some hh
 have hx:s.heap.get? x=some ⟨.ref C,some dx,.plain,#[]⟩:=I.obj
 refine wpAny_bind (wpAny_pure (wpAny_bind (wpAny_bind (wpAny_loadPart hx (wpAny_bind (PySem.W.Looks.here (s:={s with toks:=s.toks+1}) (PySem.W.looks_clsIn X hc) ?_))))))
 rw[hd']
 refine wpAny_pure (a:=some dx) (wpAny_bind (wpAny_pure (wpAny_bind ?_)))
 refine wpAny_nsSet1 (s:={s with toks:=s.toks+1}) I.ns λh' hn2 hs2=>?_
 obtain⟨oD,esD,epD,hoD,hdD,hcD⟩:=hn2.count (PySem.Within.cons name v hw)
 refine wpAny_bind (wpAny_lookBehind hoD (by rw[hdD];exact pastItsLine_dict (Nat.le_trans hcD (by rw[List.length_cons];lia))) ?_)
 exact wpAny_pure (h _ ⟨(hs2.2 _ (Ne.symm I.ne)).trans I.obj,hn2,I.ne⟩ hs2)
theorem amb{R:Result->Shared->Prop}{vs:List Value}{kw:List (Str×Value)}(X:K.In s.heap)(hm:PySem.W.makesIn K C=true)
 (hi:PySem.W.findIn K (.ref C) "__init__"=some (some (.ref f))) (hf:PySem.W.typeIn K (.ref f)=some (.type "function"))
 (h:codeAny (model prog w) (A.under (.builtin "type.__call__" ⟨.ref C::vs,kw⟩)) (.call (.ref f) ⟨.ref (s.heap.objs.size+1)::vs,kw⟩) (PySem.W.InitBack (s.heap.objs.size+1) R)
   {s with heap:=(s.heap.push PySem.W.emptyDict).push (PySem.W.instObj C s.heap.objs.size)}) :
 codeAny (model prog w) A (.call (.ref C) ⟨vs,kw⟩) R s:=by
 obtain⟨hh,g,d,t,os⟩:=s
 exact PySem.W.make_core (PySem.W.makes_of X hm) (PySem.W.looks_findIn X hi) (λself=>PySem.W.bind_fn X self hf) (.inl rfl) h
end
def gk(f:Str)(v:V):List (Str×V)->List (Str×V)
 | []=>[(f,v)]
 | (g,x)::r=>if g=f then(g,v)::r else(g,x)::gk f v r
theorem jR(f g:Str)(v:V):∀fs:List (Str×V),(gk f v fs).lookup g=if g=f then some v else fs.lookup g
 | []=>by
   show List.lookup g [(f,v)]=_
   by_cases h:g=f
   ·have hb:(g == f)=true:=beq_iff_eq.mpr h
    simp only[List.lookup,hb,if_pos h]
   ·have hb:(g == f)=false:=beq_eq_false_iff_ne.mpr h
    simp only[List.lookup,hb,if_neg h]
 | (k,x)::r=>by
   have ih:=jR f g v r
   rw[show gk f v ((k,x)::r)=(if k=f then(k,v)::r else(k,x)::gk f v r)from rfl]
   by_cases hk:k=f
   ·rw[if_pos hk]
    by_cases h:g=k
    ·have hb:(g == k)=true:=beq_iff_eq.mpr h
     simp only[List.lookup,hb,if_pos (h.trans hk)]
    ·have hb:(g == k)=false:=beq_eq_false_iff_ne.mpr h
     simp only[List.lookup,hb,if_neg (λe:g=f=>h (e.trans hk.symm))]
   ·rw[if_neg hk]
    by_cases h:g=k
    ·have hb:(g == k)=true:=beq_iff_eq.mpr h
     simp only[List.lookup,hb,if_neg (λe:g=f=>hk (h.symm.trans e))]
    ·have hb:(g == k)=false:=beq_eq_false_iff_ne.mpr h
     simp only[List.lookup,hb]
     exact ih
theorem Qs(f:Str)(v:V):∀fs:List (Str×V),f∈(gk f v fs).map (·.1)/\∀g,g∈fs.map (·.1)->g∈(gk f v fs).map (·.1)
 | []=>⟨by simp[gk],λg h=>by simp at h⟩
 | (k,x)::r=>by
   obtain⟨i1,i2⟩:=Qs f v r
   rw[show gk f v ((k,x)::r)=(if k=f then(k,v)::r else(k,x)::gk f v r)from rfl]
   by_cases hk:k=f
   ·rw[if_pos hk]
    subst hk
    exact⟨by simp,λg h=>by simpa using h⟩
   ·rw[if_neg hk]
    refine⟨?_,λg h=>?_⟩
    ·rw[List.map_cons]
     exact List.mem_cons_of_mem _ i1
    ·rw[List.map_cons]at h ⊢
     rcases List.mem_cons.mp h with e | e
     ·exact List.mem_cons.mpr (.inl e)
     ·exact List.mem_cons_of_mem _ (i2 g e)
theorem R7(f:Str)(v:V):∀fs:List (Str×V),(gk f v fs).length<=fs.length+1
 | []=>by simp[gk]
 | (k,x)::r=>by
   have ih:=R7 f v r
   rw[show gk f v ((k,x)::r)=(if k=f then(k,v)::r else(k,x)::gk f v r)from rfl]
   by_cases hk:k=f
   ·rw[if_pos hk,List.length_cons,List.length_cons];lia
   ·rw[if_neg hk,List.length_cons,List.length_cons];lia
theorem Dh.some_of{v:V}{o:Option Value}(r:Dh (some v) o):∃u,o=some u/\RelV v u:=by
 cases o with
 | none=>exact(show False from r).elim
 | some u=>exact⟨u,rfl,r⟩
theorem Dh.none_of{o:Option Value}(r:Dh none o):o=none:=by
 cases o with
 | none=>rfl
 | some u=>exact(show False from r).elim
theorem akT{v:V}{u:Value}(r:RelV v u):PySem.W.handedIn u=true:=by
 cases v with
 | non=>cases (show u=Value.none from r);rfl
 | bl b=>cases (show u=Value.bool b from r);rfl
 | int i=>obtain⟨t,e⟩:=(show ∃t,u=Value.int i t from r);cases e;rfl
 | str x=>obtain⟨t,e⟩:=(show ∃t,u=Value.str x t from r);cases e;rfl
 | byt b=>obtain⟨t,e⟩:=(show ∃t,u=Value.bytes b t from r);cases e;rfl
 | flt b=>obtain⟨t,e⟩:=(show ∃t,u=Value.float b t from r);cases e;rfl
 | ref a=>cases (show u=Value.ref a from r);rfl
 | ty n=>cases (show u=Value.type n from r);rfl
section
variable{P:Program}{w:World}{H H':Hp}{h h':Heap}{a C dx:Addr}{fs fs':List (Str×V)}
theorem LC(hok:Ih P w H h)(e:H a=some (.ins C dx fs)):∃mA,aim h a dx C mA/\(∀f,Dh (fs.lookup f) (mA f))/\PySem.Within mA (fs.map (·.1))/\fs.length<=1000/\H dx=some (.own a):=by
 obtain⟨d,z,ne,ob,mA,n,r,q⟩:=(show fV P w H h a (.ins C dx fs)from hok a _ e)
 exact⟨mA,⟨ob,n,ne⟩,r,q,z,d⟩
end
structure Cls(K:PySem.W.Frag)(C:Addr):Prop where
 pg:PySem.W.plainGet K C Str.empty=true
 hd:PySem.W.hasDictIn K C=true
 po:PySem.W.plainOver K C=true
 sa:PySem.W.findIn K (.ref C) "__setattr__"=some (some (.builtin "object.__setattr__"))
theorem Cls.get{K:PySem.W.Frag}{C:Addr}(c:Cls K C)(f:Str):PySem.W.plainGet K C f=true:=c.pg
def ir(K:PySem.W.Frag)(C:Addr)(f:Str):Prop:=PySem.W.findIn K (.ref C) f=some none
theorem ir.taker{K:PySem.W.Frag}{C:Addr}{f:Str}(n:ir K C f):PySem.W.takerIn K C f=some none:=by
 unfold PySem.W.takerIn
 rw[show PySem.W.findIn K (.ref C) f=some none from n]
 rfl
structure Meth(K:PySem.W.Frag)(C:Addr)(m:Str)(f:Addr):Prop where
 at_:PySem.W.findIn K (.ref C) m=some (some (.ref f))
 fn:PySem.W.isFn K (.ref f)=true
 kp:PySem.W.keepIn K (.ref f)=true
section
variable{X:Cx}{pins:List (Addr×Obj)}{σ:St}{H:Hp}{s:Shared}{a C dx:Addr}{fs:List (Str×V)}{f:Str}{v:V}{A:Around}{E:Value->Shared->Prop}
theorem W5{b:Bool}{Q:Value->Shared->Prop}(I:Inv X pins σ H s)(e:H a=some (.ins C dx fs))(c:Cls X.K C)(n:ir X.K C f)(l:fs.lookup f=some v)
 (h:∀u s',Inv X pins σ H s'->RelV v u->Q u s'):wpAny (model X.prog X.w) A (getAttr (.ref a) f b) Q E s:=by
 obtain⟨mA,O,r,_,_,_⟩:=LC I.hok e
 obtain⟨u,hu,ru⟩:=Dh.some_of (v:=v) (o:=mA f) (by rw[<-l];exact r f)
 exact get_map I.yh O (c.get f) c.hd n hu (akT ru) (h u _ (I.tok _) ru)
theorem JL{m:Str}{g:Addr}{pl:Sem Bool}{Q:Value×List Value->Shared->Prop}(I:Inv X pins σ H s)(e:H a=some (.ins C dx fs))(c:Cls X.K C)(k:Meth X.K C m g)(l:fs.lookup m=none)
 (h:Q (.ref g,[.ref a]) s):wpAny (model X.prog X.w) A (getMethod (.ref a) m pl) Q E s:=by
 obtain⟨mA,O,r,_,_,_⟩:=LC I.hok e
 have hn:mA m=none:=Dh.none_of (by rw[<-l];exact r m)
 exact ama I.yh O (c.get m) k.at_ k.fn hn h
theorem W6{y:V}{u:Value}{Q:Unit->Shared->Prop}(I:Inv X pins σ H s)(e:H a=some (.ins C dx fs))(c:Cls X.K C)(n:ir X.K C f)(hl:fs.length<1000)(ry:RelV y u)
 (h:∀s',Inv X pins σ (upd H a (.ins C dx (gk f y fs))) s'->Q () s'):wpAny (model X.prog X.w) A (setAttr (.ref a) f u) Q E s:=by
 obtain⟨mA,O,r,wi,_,ho⟩:=LC I.hok e
 have hz:(fs.map (·.1)).length<=sizeLine:=by rw[List.length_map,sizeLine_eq];lia
 refine aoN I.yh O c.sa c.po n.taker c.hd wi hz λh' O' sb=>h _ ?_
 have hd:∃o,h'.get? dx=some o:=let ⟨o,_,_,e',_⟩:=O'.ns;⟨o,e'⟩
 refine I.write (x:=a) (e:=dx) (by rw[e];exact True.intro) (.inr ho) (λb q hb z=>(sb.2 b hb).trans z) hd ?_
 refine⟨by rw[aq O.ne];exact ho,?_,O.ne,O'.obj,_,O'.ns,λg=>?_,λg hg=>?_⟩
 ·have:=R7 f y fs;lia
 ·show Dh ((gk f y fs).lookup g) (if g=f then some u else mA g)
  rw[jR]
  by_cases q:g=f
  ·rw[if_pos q,if_pos q];exact ry
  ·rw[if_neg q,if_neg q];exact r g
 ·by_cases q:g=f
  ·rw[q];exact(Qs f y fs).1
  ·refine(Qs f y fs).2 g (wi g λz=>hg ?_)
   show(if g=f then some u else mA g)=none
   rw[if_neg q];exact z
theorem Inv.made(I:Inv X pins σ H s):Inv X pins σ (upd (upd H s.heap.objs.size (.own (s.heap.objs.size+1))) (s.heap.objs.size+1) (.ins C s.heap.objs.size []))
 {s with heap:=(s.heap.push PySem.W.emptyDict).push (PySem.W.instObj C s.heap.objs.size)}:=by
 have e1:(s.heap.push PySem.W.emptyDict).get? s.heap.objs.size=some PySem.W.emptyDict:=Heap.get?_push_size s.heap rfl
 have e2:((s.heap.push PySem.W.emptyDict).push (PySem.W.instObj C s.heap.objs.size)).get? (s.heap.objs.size+1)=some (PySem.W.instObj C s.heap.objs.size):=by
  have:=Heap.get?_push_size (s.heap.push PySem.W.emptyDict) (o:=PySem.W.instObj C s.heap.objs.size) rfl
  rwa[Heap.size_push]at this
 have e3:(s.heap.push PySem.W.emptyDict).Ns s.heap.objs.size (λ_=>none):=⟨PySem.W.emptyDict,#[],_,e1,rfl,(λe he=>absurd he (by simp)),λ_=>rfl⟩
 have I1:=I.laid (a:=s.heap.objs.size) (o:=.own (s.heap.objs.size+1)) (h':=s.heap.push PySem.W.emptyDict) (t':=s.toks) (λb u q=>Heap.get?_push_of_some _ q) (Nat.le_refl _) ⟨_,e1⟩
 refine I1.laid (a:=s.heap.objs.size+1) (o:=.ins C s.heap.objs.size []) (t':=s.toks) (λb u q=>Heap.get?_push_of_some _ q) (Nat.le_of_eq (Heap.size_push _ _)) ?_
 have ne:s.heap.objs.size≠s.heap.objs.size+1:=Nat.ne_of_lt (Nat.lt_succ_self _)
 refine⟨by rw[aq ne,aj],Nat.zero_le _,ne,e2,λ_=>none,(Heap.Ns1.of_empty e3).at λo q=>Heap.get?_push_of_some _ q,λ_=>True.intro,λy hy=>absurd rfl hy⟩
theorem aoO{prog:Program}{w:World}{env:Env}{e:Expr}{f:Str}{pos:Pos}{s:Shared}{Q:Value->Shared->Prop}(hb:attributeBase e f env (eval e env)=eval e env)
 (h:wpAny (model prog w) A (eval e env) (λo s₁=>wpAny (model prog w) A (getAttr o f true) Q E s₁) E s):wpAny (model prog w) A (eval (.Attribute e f pos) env) Q E s :=
 Attribute_any_ h (by rw[arm_eval_Attribute,hb])
end
def acV(K:PySem.W.Frag)(ta:TE)(f:Str):TE:=λσ H Q=>ta σ H λx H1=>∃a C dx fs v,x=.ref a/\H1 a=some (.ins C dx fs)/\Cls K C/\ir K C f/\fs.lookup f=some v/\Q v H1
def azn(K:PySem.W.Frag)(ta tv:TE)(f:Str):TS:=λD σ H=>tv σ H λy H1=>ta σ H1 λx H2=>∃a C dx fs,x=.ref a/\H2 a=some (.ins C dx fs)/\Cls K C/\ir K C f/\fs.length<1000/\
 D.nx σ (upd H2 a (.ins C dx (gk f y fs)))
def awc(X:Cx)(op:Operator)(rd:V->V->Hp->VK->Prop):Prop :=
 ∀(pins:List (Addr×Obj)) (s:Shared) (σ:St) (H:Hp) (x y:V) (u v:Value) (Q:VK),Inv X pins σ H s->RelV x u->RelV y v->rd x y H Q->wpAny (model X.prog X.w) X.A (inplaceOp op u v) (EP X pins σ Q) X.xe s
def aoP(K:PySem.W.Frag)(ta tv:TE)(rd:V->V->Hp->VK->Prop)(f:Str):TS:=λD σ H=>ta σ H λx H1=>∃a C dx fs v,x=.ref a/\H1 a=some (.ins C dx fs)/\Cls K C/\ir K C f/\fs.lookup f=some v/\
 tv σ H1 λy H2=>rd v y H2 λz H3=>∃dx' fs',H3 a=some (.ins C dx' fs')/\fs'.length<1000/\D.nx σ (upd H3 a (.ins C dx' (gk f z fs')))
section
variable{X:Cx}{o e value:Expr}{f:Str}{pos pos' tpos:Pos}{ta tv:TE}
theorem cM(he:PE X e ta)(hb:attributeBase e f X.env (eval e X.env)=eval e X.env):PE X (.Attribute e f pos) (acV X.K ta f):=by
 intro pins s σ H Q I h
 refine aoO hb (gq (he pins s σ H _ I h) λu s1 hz=>lA hz λx H1 I1 rx ⟨a,C,dx,fs,v,ex,ea,c,n,l,q⟩=>?_)
 subst ex
 obtain rfl:u=Value.ref a:=rx
 exact W5 I1 ea c n l λu' s2 I2 ru=>⟨v,H1,I2,ru,q⟩
theorem gA(ha:PE X o ta)(hv:PE X value tv)(hs:swapsWith value (some (.Attribute o f pos')) pos.line X.env=pure false):PS X (.Assign [.Attribute o f pos'] value pos) (azn X.K ta tv f):=by
 intro pins s σ H D I h
 refine plainObj_wpAny_Assign_Attribute (gq (hv pins s σ H _ I h) λu s1 hz=>lA hz λy H1 I1 ry q=>gq (ha pins s1 σ H1 _ I1 q) λov s2 hz=>lA hz λx H2 I2 rx ⟨a,C,dx,fs,ex,ea,c,n,l,q2⟩=>?_) hs
 subst ex
 obtain rfl:ov=Value.ref a:=rx
 exact W6 I2 ea c n l ry λs3 I3=>⟨σ,_,I3,q2⟩
theorem akU{op:Operator}{rd:V->V->Hp->VK->Prop}(ha:PE X o ta)(hv:PE X value tv)(hop:awc X op rd):PS X (.AugAssign (.Attribute o f tpos) op value pos) (aoP X.K ta tv rd f):=by
 intro pins s σ H D I h
 refine wpAny_AugAssign_AttributeAny (gq (ha pins s σ H _ I h) λov s1 hz=>lA hz λx H1 I1 rx ⟨a,C,dx,fs,v,ex,ea,c,n,l,q⟩=>?_)
 subst ex
 obtain rfl:ov=Value.ref a:=rx
 refine W5 I1 ea c n l λu s2 I2 ru=>gq (hv pins s2 σ H1 _ I2 q) λw3 s3 hz=>lA hz λy H2 I3 ry q3=>gq (hop pins s3 σ H2 v y u w3 _ I3 ru ry q3) λw4 s4 hz=>lA hz λz H3 I4 rz ⟨dx',fs',ea',l',q4⟩=>?_
 exact W6 I4 ea' c n l' rz λs5 I5=>⟨σ,_,I5,q4⟩
def azo:V->V->Hp->VK->Prop:=λx y H Q=>∃i j,x=.int i/\y=.int j/\Q (.int (i - j)) H
theorem asu:awc X .Sub azo:=by
 rintro pins s σ H x y u v Q I rx ry ⟨i,j,rfl,rfl,q⟩
 obtain⟨t,rfl⟩:=(show ∃t,u=Value.int i t from rx)
 obtain⟨t',rfl⟩:=(show ∃t',v=Value.int j t' from ry)
 exact PyProof.Rows.isub_int ⟨.int (i - j),H,I.tok _,⟨_,rfl⟩,q⟩
end
section
variable{X:Cx}{pins:List (Addr×Obj)}{σ:St}{H:Hp}{s:Shared}{A:Around}{E:Value->Shared->Prop}{Q:Value->Shared->Prop}{c:Value}{b:Bool}
inductive LK (K:PySem.W.Frag) (H:Hp):V->Value->Prop where
 | non:LK K H .non (.type "NoneType")
 | bl (x:Bool):LK K H (.bl x) (.type "bool")
 | int (i:Int):LK K H (.int i) (.type "int")
 | str (x:Str):LK K H (.str x) (.type "str")
 | flt (x:UInt64):LK K H (.flt x) (.type "float")
 | lst {a:Addr} {xs:List V} (e:H a=some (.lst xs)):LK K H (.ref a) (.type "list")
 | frz {a:Addr} {o:Obj} {xs:List V} (e:H a=some (.frz o (.lst xs))):LK K H (.ref a) (.type "list")
 | tup {a:Addr} {xs:List V} (e:H a=some (.tup xs)):LK K H (.ref a) (.type "tuple")
 | dK {a:Addr} {kvs:List (Key×V)} (e:H a=some (.dK kvs)):LK K H (.ref a) (.type "dict")
 | dT {a:Addr} {kvs:List (List Key×V)} (e:H a=some (.dT kvs)):LK K H (.ref a) (.type "dict")
 | ins {a C dx:Addr} {fs:List (Str×V)} (e:H a=some (.ins C dx fs)) (cl:Cls K C) (ha:PySem.W.findIn K (.ref C) "__class__"=some (some (.builtin "object.__class__")))
    (hn:PySem.W.specialIn K (.builtin "object.__class__") "__get__"=some (some (.builtin "getset_descriptor.__get__"))) (htk:PySem.W.takesIn K (.builtin "object.__class__")=some true)
    (hm:PySem.W.mroIn K C (.type "object")=some true):LK K H (.ref a) (.ref C)
theorem akV{x:V}{u t:Value}(I:Inv X pins σ H s)(rx:RelV x u)(ty:LK X.K H x t)(e:PySem.W.kitOne X.K t c=some b)(h:∀tk,Q (.bool b) {s with toks:=tk}) :
 wpAny (model X.prog X.w) A (call (.builtin "isinstance") [u,c]) Q E s:=by
 cases ty with
 | non=>cases (show u=Value.none from rx);exact PySem.W.kia_one PySem.W.kitx_none I.yh True.intro e (λz=>nomatch z) h
 | bl y=>cases (show u=Value.bool y from rx);exact PySem.W.kia_one PySem.W.kitx_bool I.yh True.intro e (λz=>nomatch z) h
 | int i=>obtain⟨t,q⟩:=(show ∃t,u=Value.int i t from rx);cases q;exact PySem.W.kia_one PySem.W.kitx_int I.yh True.intro e (λz=>nomatch z) h
 | str y=>obtain⟨t,q⟩:=(show ∃t,u=Value.str y t from rx);cases q;exact PySem.W.kia_one PySem.W.kitx_str I.yh True.intro e (λz=>nomatch z) h
 | flt y=>obtain⟨t,q⟩:=(show ∃t,u=Value.float y t from rx);cases q;exact PySem.W.kia_one PySem.W.kitx_float I.yh True.intro e (λz=>nomatch z) h
 | @lst a xs ea =>
   cases (show u=Value.ref a from rx)
   obtain⟨_,_,n,_,h1⟩:=(show fV X.prog X.w H s.heap a (.lst xs)from I.hok a _ ea)
   exact PySem.W.kia_one PySem.W.kitx_list I.yh ⟨_,h1,rfl⟩ e (λz=>nomatch z) h
 | @frz a ob xs ea =>
   cases (show u=Value.ref a from rx)
   obtain⟨_,_,_,n,_,h1⟩:=(show fV X.prog X.w H s.heap a (.frz ob (.lst xs))from I.hok a _ ea)
   exact PySem.W.kia_one PySem.W.kitx_list I.yh ⟨_,h1,rfl⟩ e (λz=>nomatch z) h
 | @tup a xs ea =>
   cases (show u=Value.ref a from rx)
   obtain⟨_,_,_,p⟩:=(show fV X.prog X.w H s.heap a (.tup xs)from I.hok a _ ea)
   obtain⟨o,h1,h2,_⟩:=p
   exact PySem.W.kia_one PySem.W.kitx_tuple I.yh ⟨o,h1,h2⟩ e (λz=>nomatch z) h
 | @dK a kvs ea =>
   cases (show u=Value.ref a from rx)
   obtain⟨_,_,vs,_,p⟩:=(show fV X.prog X.w H s.heap a (.dK kvs)from I.hok a _ ea)
   obtain⟨o,es,ep,h1,h2,_⟩:=p
   exact PySem.W.kia_one PySem.W.kitx_dict I.yh ⟨o,h1,h2.1⟩ e (λz=>nomatch z) h
 | @dT a kvs ea =>
   cases (show u=Value.ref a from rx)
   obtain⟨_,_,xs,_,o,es,ep,h1,h2,_⟩:=(show fV X.prog X.w H s.heap a (.dT kvs)from I.hok a _ ea)
   exact PySem.W.kia_one PySem.W.kitx_dict I.yh ⟨o,h1,h2.1⟩ e (λz=>nomatch z) h
 | @ins a C dx fs ea cl ha hn htk hm =>
   cases (show u=Value.ref a from rx)
   obtain⟨mA,O,_⟩:=LC I.hok ea
   obtain⟨od,J,_⟩:=O.look
   exact PySem.W.kia_one (PySem.W.kitx_own (cl.get _) cl.hd ha hn htk hm) I.yh J e (λz=>nomatch z) h
end
structure bR(k:Nat)(A:Around):Prop where
 hd:A.handled=none
 dp:A.depth+3*k+5<recursionLimit
 un:A.units+16*k+200<cLine
theorem bR.mono{j k:Nat}{A:Around}(r:bR k A)(h:j<=k):bR j A:=⟨r.hd,by have:=r.dp;lia,by have:=r.un;lia⟩
theorem bR.deeper{k:Nat}{A:Around}(r:bR (k+1) A)(env:Env):bR k (A.deeper env) :=
 ⟨r.hd,by have:=r.dp;show A.depth+1+3*k+5<_;lia,by have:=r.un;show A.units+3+16*k+200<_;lia⟩
theorem ain{A:Around}{C:Addr}{us:List Value}{kw:List (Str×Value)}:(A.under (.builtin "type.__call__" ⟨.ref C::us,kw⟩)).depth=A.depth+1:=by
 first | rfl | simp[Around.under,Code.weight,Code.isCreation,Code.isGuard,Code.isCaller,Code.frames,Code.isFrame,guardIds]
theorem aio{A:Around}{C:Addr}{us:List Value}{kw:List (Str×Value)}:(A.under (.builtin "type.__call__" ⟨.ref C::us,kw⟩)).units=A.units+1:=by
 first | rfl | simp[Around.under,Code.cUnits,Code.frames,Code.isFrame]
theorem bR.make{k:Nat}{A:Around}(r:bR (k+1) A)(C:Addr)(us:List Value)(kw:List (Str×Value)):bR k (A.under (.builtin "type.__call__" ⟨.ref C::us,kw⟩)) :=
 ⟨r.hd,by have:=r.dp;rw[ain];lia,by have:=r.un;rw[aio];lia⟩
theorem bR.depth{k:Nat}{A:Around}(r:bR k A):A.depth<recursionLimit:=by have:=r.dp;lia
theorem bR.units{k:Nat}{A:Around}(r:bR k A):A.units+64<cLine:=by have:=r.un;lia
theorem bR.aip{k:Nat}{A:Around}(r:bR k A):A.units<cLine:=by have:=r.un;lia
def Ii:TA:=λ_ H Q=>Q [] H
def mO(ta:TE)(tr:TA):TA:=λσ H Q=>ta σ H λx H1=>tr σ H1 λxs H2=>Q (x::xs) H2
section
variable{X:Cx}{e:Expr}{es:List Expr}{te:TE}{t:TA}{pos:Pos}
theorem ao:PA X [] Ii:=λ_ _ _ _ H Q I h=>Calls.spliced_nil ⟨[],H,I,.nil,h⟩
theorem aa(ha:PE X e te)(hr:PA X es t)(hs:starEach (e::es) X.env=(false,eval e X.env)::starEach es X.env:=by rfl):PA X (e::es) (mO te t):=by
 intro pos pins s σ H Q I h
 rw[hs]
 show wpAny _ _ (spliced ((false,eval e X.env)::backTo pos (starEach es X.env))) _ _ s
 refine Calls.spliced_cons (gq (ha pins s σ H _ I h) λu s1 hz=>lA hz λx H1 I1 r1 q1=>?_)
 exact gq (hr pos pins s1 σ H1 _ I1 q1) λus s2 hz=>lA hz λxs H2 I2 r2 q2=>⟨x::xs,H2,I2,.cons r1 r2,q2⟩
def amc(t:TA):TE:=λσ H Q=>t σ H λxs H1=>xs.length<=sizeLine/\∀p,H1 p=none->Q (.ref p) (upd H1 p (.tup xs))
def azp(t:TA):TE:=λσ H Q=>t σ H λxs H1=>xs.length<=sizeLine/\∀p,H1 p=none->Q (.ref p) (upd H1 p (.lst xs))
theorem cu{x1}(h:PA X es t):PE X (.Tuple es x1 pos) (amc t):=by
 intro pins s σ H Q I hq
 refine wpAny_Tuple_spliced (gq (h pos pins s σ H _ I hq) λus s1 hz=>lA hz λxs H1 I1 r ⟨z,q⟩=>⟨by rw[<-r.length];exact z,?_⟩)
 have hf:H1 s1.heap.objs.size=none:=I1.hok.fresh (Nat.le_refl _)
 refine⟨.ref s1.heap.objs.size,upd H1 s1.heap.objs.size (.tup xs),I1.laid (t':=s1.toks) (λb u e=>Heap.get?_push_of_some _ e) (Nat.le_refl _) ?_,rfl,q _ hf⟩
 exact⟨z,us,r,⟨_,Heap.get?_push_size _ rfl,rfl,_,rfl⟩⟩
theorem bO(h:PA X es t):PE X (.List es pos) (azp t):=by
 intro pins s σ H Q I hq
 refine wpAny_List_spliced (gq (h pos pins s σ H _ I hq) λus s1 hz=>lA hz λxs H1 I1 r ⟨z,q⟩=>⟨by rw[<-r.length];exact z,?_⟩)
 have hf:H1 s1.heap.objs.size=none:=I1.hok.fresh (Nat.le_refl _)
 refine⟨.ref s1.heap.objs.size,upd H1 s1.heap.objs.size (.lst xs),I1.laid (t':=s1.toks) (λb u e=>Heap.get?_push_of_some _ e) (Nat.le_refl _) ?_,rfl,q _ hf⟩
 exact⟨z,us,0,r,Heap.get?_push_size _ rfl⟩
end
abbrev Sp:=List V->Hp->VK->XK->Prop
abbrev CXT:=List Env->Hp->Shared->XK->Value->Shared->Prop
structure aiq(P:Program)(w:World)(K:PySem.W.Frag)(mg:Str->Option Value)(base:Heap)(A:Around)(outer:List Env)(s:Shared)(H:Hp):Prop where
 frames:A.frames=some outer
 mod:Mod K mg base
 bs:∀b o,base.get? b=some o->s.heap.get? b=some o/\H b=none
 bsz:base.objs.size<=s.heap.objs.size
 JH:s.heap.FunFrames base outer
 frf:∀b∈frs outer,H b=none
 hok:Ih P w H s.heap
 bare:AllBare s.gens
def CE(outer:List Env)(P:Program)(w:World)(H:Hp)(s:Shared)(Q:VK)(u:Value)(s':Shared):Prop :=
 ∃v H',s'.os=s.os/\AllBare s'.gens/\Un (frs outer) [] H H' s.heap s'.heap/\Ih P w H' s'.heap/\RelV v u/\Q v H'
def CR(CX:CXT)(outer:List Env)(P:Program)(w:World)(H:Hp)(s:Shared)(Q:VK)(E:XK)(r:Result)(s':Shared):Prop :=
 match r with
 | .ok (.ret u)=>CE outer P w H s Q u s'
 | .ok _=>False
 | .error e=>CX outer H s E e s'
structure cZ(P:Program)(w:World)(K:PySem.W.Frag)(mg:Str->Option Value)(base:Heap)(CX:CXT)(k:Nat)(f:Addr)(fd:FuncData)(ps:List Str)(sp:Sp):Prop where
 len:∀vs H Q E,sp vs H Q E->vs.length=ps.length
 run:∀(A:Around) (outer:List Env) (s:Shared) (H:Hp) (args:Args) (us:List Value) (vs:List V) (Q:VK) (E:XK),bR k A->aiq P w K mg base A outer s H->BindsTo s fd args (ps.zip us)->Vals vs us->sp vs H Q E->
  codeAny (model P w) A (.call (.ref f) args) (CR CX outer P w H s Q E) s
theorem aiq.make{P:Program}{w:World}{K:PySem.W.Frag}{mg:Str->Option Value}{base:Heap}{A:Around}{outer:List Env}{s:Shared}{H:Hp}(e:aiq P w K mg base A outer s H)(C:Addr)(us:List Value)(kw:List (Str×Value)) :
 aiq P w K mg base (A.under (.builtin "type.__call__" ⟨.ref C::us,kw⟩)) outer s H:=⟨by first | exact e.frames | (simpa[Around.under,Code.envs,Code.isFrame,pushEnvs] using e.frames),e.mod,e.bs,e.bsz,e.JH,e.frf,e.hok,e.bare⟩
section
variable{X:Cx}{pins:List (Addr×Obj)}{σ:St}{H:Hp}{s s':Shared}
theorem Inv.env0(I:Inv X pins σ H s):aiq X.prog X.w X.K X.mg X.base X.A X.stack s H :=
 ⟨I.ok.frames,I.ok.mod,I.bs,Nat.le_trans I.ok.bsz I.sz,I.stack,I.acR,I.hok,I.bare⟩
theorem Inv.after{Q:VK}{u:Value}(I:Inv X pins σ H s)(h:CE X.stack X.prog X.w H s Q u s'):EP X pins σ Q u s':=by
 obtain⟨v,H',os,bare,un,hok,r,q⟩:=h
 obtain⟨hh,g,d,t,os'⟩:=s'
 obtain rfl:os'=s.os:=os
 exact⟨v,H',I.call (h':=hh) (g':=g) (d':=d) (t':=t) (ch:=[]) un hok bare (λb z=>absurd z (by simp)),r,q⟩
end
def amd(sp:Sp)(W7:List V)(E:XK)(t:TA):TE:=λσ H Q=>t σ H λvs H1=>sp (vs++W7) H1 Q E
def arv(C:Addr)(m:Str)(sp:Sp)(W7:List V)(E:XK)(ta:TE)(t:TA):TE:=λσ H Q=>ta σ H λx H1=>∃a dx fs,x=.ref a/\H1 a=some (.ins C dx fs)/\fs.lookup m=none/\
 t σ H1 λvs H2=>sp (x::(vs++W7)) H2 Q E
def arw(C:Addr)(sp:Sp)(W7:List V)(E:XK)(t:TA):TE:=λσ H Q=>t σ H λvs H1=>∀x dx,H1 x=none->H1 dx=none->dx≠x->
 sp (.ref x::(vs++W7)) (upd (upd H1 dx (.own x)) x (.ins C dx [])) (λv H2=>v=.non/\Q (.ref x) H2) E
def Binds(K:PySem.W.Frag)(fd:FuncData)(ps:List Str)(ds:List Value):Prop :=
 ∀(s:Shared) (us:List Value),K.In s.heap->(us++ds).length=ps.length->BindsTo s fd ⟨us,[]⟩ (ps.zip (us++ds))
theorem Binds.all{K:PySem.W.Frag}{fd:FuncData}{ps:List Str}(h:∀us:List Value,us.length=ps.length->bindArgs fd ⟨us,[]⟩=pure (ps.zip us)):Binds K fd ps []:=λs us _ hl=>by
 rw[List.append_nil]at hl ⊢
 exact .of_eq (h us hl)
def Passes(CX:CXT)(X:Cx)(E:XK):Prop:=∀(pins:List (Addr×Obj)) (σ:St) (H:Hp) (s:Shared) (e:Value) (s':Shared),Inv X pins σ H s->CX X.stack H s E e s'->X.xe e s'
section
variable{X:Cx}{CX:CXT}{k:Nat}{f C:Addr}{fd:FuncData}{ps:List Str}{sp:Sp}{W7:List V}{ds:List Value}{E:XK}{x m:Str}{p pos apos:Pos}{e o:Expr}{es:List Expr}{ta:TE}{t:TA}
theorem air{pins:List (Addr×Obj)}{σ:St}{H:Hp}{s:Shared}{Q:VK}{us:List Value}{vs:List V}(F:cZ X.prog X.w X.K X.mg X.base CX k f fd ps sp)(hr:bR k X.A)(hb:Binds X.K fd ps ds)(hd:Vals W7 ds)(hx:Passes CX X E)
 (I:Inv X pins σ H s) (r:Vals vs us) (h:sp (vs++W7) H Q E):wpAny (model X.prog X.w) X.A (call (.ref f) us) (EP X pins σ Q) X.xe s:=by
 have r2:Vals (vs++W7) (us++ds):=r.append hd
 have hl:(us++ds).length=ps.length:=by rw[<-r2.length];exact F.len _ _ _ _ h
 refine wpAny_call (codeAny_mono (F.run X.A X.stack s H ⟨us,[]⟩ (us++ds) (vs++W7) Q E hr I.env0 (hb s us I.yh hl) r2 h) λr s' hq=>?_)
 cases r with
 | error e=>exact hx pins σ H s e s' I hq
 | ok fl =>
   cases fl with
   | ret u=>exact I.after hq
   | next=>exact False.elim hq
   | brk=>exact False.elim hq
   | cont=>exact False.elim hq
theorem cH(F:cZ X.prog X.w X.K X.mg X.base CX k f fd ps sp)(hr:bR k X.A)(hg:Gl X x)(hm:X.mg x=some (.ref f))(hk:PySem.W.keepIn X.K (.ref f)=true)(hb:Binds X.K fd ps ds)(hd:Vals W7 ds)(hx:Passes CX X E)
 (ha:PA X (e::es) t) (hdb:(x == ("__debug__":Str))=false:=by decide) (he:starEach (e::es) X.env=(false,eval e X.env)::starEach es X.env:=by rfl) (hpl:(backTo pos (starEach es X.env)).any (·.1)=false:=by rfl) :
 PE X (.Call (.Name x p) (e::es) [] pos) (amd sp W7 E t):=by
 intro pins s σ H Q I h
 refine wpAny_Call_Name_kw (zG I hg hm ?_ hdb)
 refine PySem.W.callWith_K (h₀:=X.base) I.ok.mod.kin hk (gq (ha pos pins s σ H _ I h) λus s1 hz=>lA hz λvs H1 I1 r q=>⟨I1.yh,?_⟩) he hpl
 exact air F hr hb hd hx I1 r q
theorem cC{pl:Sem Bool}(he:PE X o ta)(c:Cls X.K C)(hm:Meth X.K C m f)(F:cZ X.prog X.w X.K X.mg X.base CX k f fd ps sp)(hr:bR k X.A)(hb:Binds X.K fd ps ds)(hd:Vals W7 ds)(hx:Passes CX X E)(ha:PA X (e::es) t)
 (hst:starEach (e::es) X.env=(false,eval e X.env)::starEach es X.env:=by rfl) (hpl:(backTo pos (starEach es X.env)).any (·.1)=false:=by rfl)
 (ht:eval (.Call (.Attribute o m apos) (e::es) [] pos) X.env=(do
   let ov <-eval o X.env
   standAt apos.atName
   let (f,first) <-holding [ov] (getMethod ov m pl)
   callWith pos f first (backTo pos (starEach (e::es) X.env)) (backToKw pos (keywordEach [] X.env))):=by rfl) :
 PE X (.Call (.Attribute o m apos) (e::es) [] pos) (arv C m sp W7 E ta t):=by
 intro pins s σ H Q I h
 refine PySem.W.methodCall_KW (pl:=pl) (gq (he pins s σ H _ I h) λu s1 hz=>lA hz λx H1 I1 rx ⟨a,dx,fs,ex,ea,l,q⟩=>?_) ht
 subst ex
 obtain rfl:u=Value.ref a:=rx
 refine JL I1 ea c hm l ?_
 refine PySem.W.callWith_K (first:=[.ref a]) (h₀:=X.base) I.ok.mod.kin hm.kp (gq (ha pos pins s1 σ H1 _ I1 q) λus s2 hz=>lA hz λvs H2 I2 r q2=>⟨I2.yh,?_⟩) hst hpl
 exact air (us:=.ref a::us) (vs:=.ref a::vs) F hr hb hd hx I2 (.cons rfl r) q2
theorem t7{pl:Sem Bool}(he:PE X o ta)(c:Cls X.K C)(hm:Meth X.K C m f)(F:cZ X.prog X.w X.K X.mg X.base CX k f fd ps sp)(hr:bR k X.A)(hb:Binds X.K fd ps ds)(hd:Vals W7 ds)(hx:Passes CX X E)
 (ht:eval (.Call (.Attribute o m apos) [] [] pos) X.env=(do
   let ov <-eval o X.env
   standAt apos.atName
   let (f,first) <-holding [ov] (getMethod ov m pl)
   callWith pos f first (backTo pos (starEach [] X.env)) (backToKw pos (keywordEach [] X.env))):=by rfl) :
 PE X (.Call (.Attribute o m apos) [] [] pos) (arv C m sp W7 E ta Ii):=by
 intro pins s σ H Q I h
 refine PySem.W.methodCall_KW (pl:=pl) (gq (he pins s σ H _ I h) λu s1 hz=>lA hz λx H1 I1 rx ⟨a,dx,fs,ex,ea,l,q⟩=>?_) ht
 subst ex
 obtain rfl:u=Value.ref a:=rx
 refine JL I1 ea c hm l ?_
 exact PySem.W.callWith_K0 (first:=[.ref a]) I1.yh hm.kp (air (us:=[.ref a]) (vs:=[.ref a]) F hr hb hd hx I1 (.cons rfl .nil) q)
structure Mk(K:PySem.W.Frag)(C f:Addr):Prop where
 makes:PySem.W.makesIn K C=true
 init:PySem.W.findIn K (.ref C) "__init__"=some (some (.ref f))
 fn:PySem.W.isFn K (.ref f)=true
 kp:PySem.W.keepIn K (.ref C)=true
theorem afV{pins:List (Addr×Obj)}{σ:St}{H:Hp}{s:Shared}{Q:VK}{us:List Value}{vs:List V}(M:Mk X.K C f)(F:cZ X.prog X.w X.K X.mg X.base CX k f fd ps sp)(hr:bR (k+1) X.A)(hb:Binds X.K fd ps ds)(hd:Vals W7 ds)
 (hx:Passes CX X E) (I:Inv X pins σ H s) (r:Vals vs us)
 (h:∀x dx,H x=none->H dx=none->dx≠x->sp (.ref x::(vs++W7)) (upd (upd H dx (.own x)) x (.ins C dx [])) (λv H2=>v=.non/\Q (.ref x) H2) E) :
 wpAny (model X.prog X.w) X.A (call (.ref C) us) (EP X pins σ Q) X.xe s:=by
 have hq:=h (s.heap.objs.size+1) s.heap.objs.size (I.hok.fresh (Nat.le_succ _)) (I.hok.fresh (Nat.le_refl _)) (Nat.ne_of_lt (Nat.lt_succ_self _))
 have I2:=Inv.made (C:=C) I
 have r2:Vals (V.ref (s.heap.objs.size+1)::(vs++W7)) (Value.ref (s.heap.objs.size+1)::(us++ds)):=.cons rfl (r.append hd)
 have hl:(Value.ref (s.heap.objs.size+1)::us++ds).length=ps.length:=by
  have e:=r2.length
  rw[F.len _ _ _ _ hq]at e
  exact e.symm
 refine wpAny_call (amb (f:=f) I.yh M.makes M.init (beq_iff_eq.mp M.fn) (codeAny_mono (F.run _ X.stack _ _ ⟨Value.ref (s.heap.objs.size+1)::us,[]⟩ (Value.ref (s.heap.objs.size+1)::(us++ds)) _ _ E (hr.make C us [])
  (I2.env0.make C us []) (hb _ (Value.ref (s.heap.objs.size+1)::us) I2.yh hl) r2 hq) λr s' hq'=>?_))
 cases r with
 | error e=>exact hx pins σ _ _ e s' I2 hq'
 | ok fl =>
   cases fl with
   | ret u =>
     obtain⟨v,H',I3,rv,ev,q3⟩:=I2.after hq'
     subst ev
     exact⟨rv,⟨V.ref (s.heap.objs.size+1),H',I3,rfl,q3⟩⟩
   | next=>exact False.elim hq'
   | brk=>exact False.elim hq'
   | cont=>exact False.elim hq'
theorem acW(M:Mk X.K C f)(F:cZ X.prog X.w X.K X.mg X.base CX k f fd ps sp)(hr:bR (k+1) X.A)(hg:Gl X x)(hm:X.mg x=some (.ref C))(hb:Binds X.K fd ps ds)(hd:Vals W7 ds)(hx:Passes CX X E)
 (ha:PA X (e::es) t) (hdb:(x == ("__debug__":Str))=false:=by decide) (he:starEach (e::es) X.env=(false,eval e X.env)::starEach es X.env:=by rfl) (hpl:(backTo pos (starEach es X.env)).any (·.1)=false:=by rfl) :
 PE X (.Call (.Name x p) (e::es) [] pos) (arw C sp W7 E t):=by
 intro pins s σ H Q I h
 refine wpAny_Call_Name_kw (zG I hg hm ?_ hdb)
 refine PySem.W.callWith_K (h₀:=X.base) I.ok.mod.kin M.kp (gq (ha pos pins s σ H _ I h) λus s1 hz=>lA hz λvs H1 I1 r q=>⟨I1.yh,?_⟩) he hpl
 exact afV M F hr hb hd hx I1 r q
theorem ame(M:Mk X.K C f)(F:cZ X.prog X.w X.K X.mg X.base CX k f fd ps sp)(hr:bR (k+1) X.A)(hg:Gl X x)(hm:X.mg x=some (.ref C))(hb:Binds X.K fd ps ds)(hd:Vals W7 ds)(hx:Passes CX X E)
 (hdb:(x == ("__debug__":Str))=false:=by decide):PE X (.Call (.Name x p) [] [] pos) (arw C sp W7 E Ii):=by
 intro pins s σ H Q I h
 refine wpAny_Call_Name_kw (zG I hg hm ?_ hdb)
 exact PySem.W.callWith_K0 I.yh M.kp (afV (us:=[]) M F hr hb hd hx I .nil h)
end
section
variable{X:Cx}{CX:CXT}{k:Nat}{f C:Addr}{fd:FuncData}{ps ks:List Str}{sp:Sp}{E:XK}{x m:Str}{p pos apos aCG:Pos}{e o:Expr}{es:List Expr}{kws:List Keyword}{te ta:TE}{t tk:TA}{nm:Option Str}
variable{g:List Value->List Value->List Value}{gV:List V->List V->List V}
end
structure bB(N P:List Str)(sc:Scope):Prop where
 kind:sc.kind=.function
 co:sc.isCoroutine=false
 gen:sc.isGenerator=false
 nd:N.Nodup
 pre:N.take P.length=P
 par:∀x∈P,sc.names.lookup x=some .local\/sc.names.lookup x=some .cell
 asv:∀y∈sc.names,y.2≠.free
theorem ab4{kindOf:Str->Option NameKind}{x:Str}:∀{binds:List (Str×Value)} {m:Str->Option Value},(∀v,(x,v)∉binds)->bindL kindOf binds m x=m x
 | [],_,_=>rfl
 | (n,v)::r,m,h=>by
   unfold bindL
   rw[ab4 λw hw=>h w (List.mem_cons_of_mem _ hw)]
   split
   ·have:x≠n:=by rintro rfl;exact h v List.mem_cons_self
    simp[this]
   ·rfl
theorem ab5{kindOf:Str->Option NameKind}{x:Str}:∀{binds:List (Str×Value)} {m:Str->Option Value},(∀v,(x,v)∉binds)->bindC kindOf binds m x=m x
 | [],_,_=>rfl
 | (n,v)::r,m,h=>by
   unfold bindC
   rw[ab5 λw hw=>h w (List.mem_cons_of_mem _ hw)]
   split
   ·rfl
   ·have:x≠n:=by rintro rfl;exact h v List.mem_cons_self
    simp[this]
theorem ab6{kindOf:Str->Option NameKind}{x:Str}{v:Value}:∀{P:List Str} {vs:List Value} {i:Nat} {m:Str->Option Value},P.Nodup->P[i]? = some x->vs[i]? = some v->kindOf x=some .local->
 bindL kindOf (P.zip vs) m x=some v
 | [],_,_,_,_,h,_,_=>by simp at h
 | _::_,[],_,_,_,_,h,_=>by simp at h
 | p::P,w::vs,0,m,nd,h1,h2,hk=>by
   simp at h1 h2;subst h1;subst h2
   show bindL kindOf ((p,w)::P.zip vs) m p=_
   unfold bindL
   rw[ab4 λv hv=>(List.nodup_cons.mp nd).1 (List.of_mem_zip hv).1,if_pos hk]
   simp
 | p::P,w::vs,i+1,m,nd,h1,h2,hk=>by
   show bindL kindOf ((p,w)::P.zip vs) m x=_
   unfold bindL
   exact ab6 (i:=i) (List.nodup_cons.mp nd).2 (by simpa using h1) (by simpa using h2) hk
theorem ab7{kindOf:Str->Option NameKind}{x:Str}{v:Value}:∀{P:List Str} {vs:List Value} {i:Nat} {m:Str->Option Value},P.Nodup->P[i]? = some x->vs[i]? = some v->kindOf x≠some .local->
 bindC kindOf (P.zip vs) m x=some v
 | [],_,_,_,_,h,_,_=>by simp at h
 | _::_,[],_,_,_,_,h,_=>by simp at h
 | p::P,w::vs,0,m,nd,h1,h2,hk=>by
   simp at h1 h2;subst h1;subst h2
   show bindC kindOf ((p,w)::P.zip vs) m p=_
   unfold bindC
   rw[ab5 λv hv=>(List.nodup_cons.mp nd).1 (List.of_mem_zip hv).1,if_neg hk]
   simp
 | p::P,w::vs,i+1,m,nd,h1,h2,hk=>by
   show bindC kindOf ((p,w)::P.zip vs) m x=_
   unfold bindC
   exact ab7 (i:=i) (List.nodup_cons.mp nd).2 (by simpa using h1) (by simpa using h2) hk
def start(N:List Str)(vs:List V):St:=vs.map some++List.replicate (N.length - vs.length) none
def dm(CX:CXT)(P:Program)(w:World)(K:PySem.W.Frag)(mg:Str->Option Value)(base:Heap)(N:List Str)(qual:Str)(scope:Scope)(f:Addr)(cd:Value)(A:Around)(outer:List Env)(s:Shared)(H:Hp)(E:XK):Cx where
 prog:=P
 w:=w
 K:=K
 mg:=mg
 base:=base
 A:=A.deeper (envOfC qual scope s.heap.objs.size f cd)
 N:=N
 s₀:=s
 H₀:=H
 env:=envOfC qual scope s.heap.objs.size f cd
 outer:=outer
 stack:=envOfC qual scope s.heap.objs.size f cd::outer
 ex:=[]
 calm:=true
 fn:=λ_=>true
 pn:=[]
 xe:=λe s'=>wpAny (model P w) (A.deeper (envOfC qual scope s.heap.objs.size f cd)) (leaving (envOfC qual scope s.heap.objs.size f cd) e) (λ_ s''=>CX outer H s E e s'') (λe' s''=>CX outer H s E e' s'') s'
theorem afW{sc:Scope}{n:Nat}{x:Str}(h:sc.names.lookup x=some .cell):∃c,(cellsFrom n sc.names []).lookup x=some c:=by
 have q:=PySem.W.cellsFrom_some sc.names n [] (.inl h)
 exact Option.isSome_iff_exists.mp q
theorem akX{CX:CXT}{P:Program}{w:World}{K:PySem.W.Frag}{mg:Str->Option Value}{base:Heap}{N ps:List Str}{qual:Str}{scope:Scope}{f:Addr}{cd:Value}{A:Around}{outer:List Env}{s s1:Shared}{H:Hp}{E:XK}{us:List Value}{vs:List V}
 (S:bB N ps scope) (hd:A.handled=none) (e0:aiq P w K mg base A outer s H) (hl:vs.length=ps.length) (r:Vals vs us)
 (x:InCallC s s.heap.objs.size (bindL (envOfC qual scope s.heap.objs.size f cd).kindOf (ps.zip us) λ_=>none) (cellsFrom (s.heap.objs.size+1) scope.names []) (bindC (envOfC qual scope s.heap.objs.size f cd).kindOf (ps.zip us) λ_=>none) s1) :
 Inv (dm CX P w K mg base N qual scope f cd A outer s H E) [] (start N vs) H s1:=by
 have hpl:ps.length<=N.length:=by have:=congrArg List.length S.pre;rw[List.length_take]at this;lia
 obtain⟨h1,tk,rfl,hk⟩:=x.done
 have noA:∀b:Addr,b∉(dm CX P w K mg base N qual scope f cd A outer s H E).ex:=λb z=>absurd (show b∈([]:List Addr)from z) (by simp)
 refine⟨⟨e0.mod,S.kind,rfl,rfl,Nat.le_refl _,λy z c h1 h2=>?_,λy hy=>?_,λy c _ h=>?_,λ_=>hd,Around.frames_deeper e0.frames,.inr ⟨rfl,rfl⟩,λb z=>absurd z (noA b),e0.bs,e0.bsz,λb _ _=>noA b,λb z=>absurd z (noA b),e0.JH,e0.frf⟩,
  rfl,e0.bare,Un.kept hk,⟨_,x.toInCall.ns,λi y v h1 h2 h3=>?_⟩,λy c h=>⟨_,x.cell y c h⟩,e0.hok.fresh (Nat.le_refl _),λy c h=>?_,λp hp=>absurd (show p∈([]:List (Addr×Obj))from hp) (by simp),e0.hok.kept hk,?_⟩
 ·exact name_of_addr x.apart (PySem.mem_of_lookup h1) (PySem.mem_of_lookup h2)
 ·have hy:scope.names.lookup y=some .cell\/scope.names.lookup y=some .free:=hy
  rcases hy with hy | hy
  ·exact afW hy
  ·exact absurd rfl (S.asv _ (PySem.mem_of_lookup hy))
 ·exact Nat.le_of_lt (x.above y c (PySem.mem_of_lookup h))
 ·have hi:i<vs.length:=by
   unfold start at h2
   by_cases hi:i<vs.length
   ·exact hi
   ·rw[List.getElem?_append_right (by simpa using hi)]at h2
    rw[List.getElem?_replicate]at h2
    split at h2<;>cases h2
  have ha:vs[i]? = some v:=by
   unfold start at h2
   rw[List.getElem?_append_left (by simpa using hi),List.getElem?_map]at h2
   cases e:vs[i]? with
   | none=>rw[e]at h2;cases h2
   | some a=>rw[e]at h2;cases h2;rfl
  obtain⟨u,hu,rv⟩:=r.get ha
  have hp:ps[i]? = some y:=by
   rw[<-S.pre,List.getElem?_take_of_lt (by lia)];exact h1
  have ndP:ps.Nodup:=by rw[<-S.pre];exact S.nd.sublist (List.take_sublist _ _)
  refine⟨u,rv,?_⟩
  rcases S.par y (List.mem_of_getElem? hp)with k | k
  ·exact .inl ⟨k,ab6 ndP hp hu k⟩
  ·obtain⟨c,e⟩:=afW (n:=s.heap.objs.size+1) k
   refine .inr ⟨.inl k,c,e,?_⟩
   have q:=x.cell y c e
   rw[ab7 ndP hp hu (by show scope.names.lookup y≠_;rw[k];decide)]at q
   exact q
 ·exact e0.hok.fresh (Nat.le_of_lt (x.above y c (PySem.mem_of_lookup h)))
 ·unfold start
  show _=N.length
  rw[List.length_append,List.length_map,List.length_replicate]
  lia
theorem arz{CX:CXT}{P:Program}{w:World}{K:PySem.W.Frag}{mg:Str->Option Value}{base:Heap}{k:Nat}{f:Addr}{name qual:Str}{params:Arguments}{body:List Stmt}{scope:Scope}{dV kV doc pm cdv ct oc:Value}{an od:Option Addr}
 {osl:Array (Option Value)} {N ps:List Str} {sp:Sp} (lk:K.lookup f=some ⟨oc,od,.func (PySem.W.fnOf name qual params body scope dV kV doc pm an cdv ct),osl⟩) (hcd:PySem.W.codeIn K cdv qual=true) (S:bB N ps scope)
 (len:∀vs H Q E,sp vs H Q E->vs.length=ps.length)
 (hbody:∀(A:Around) (outer:List Env) (s:Shared) (H:Hp) (vs:List V) (Q:VK) (E:XK),bR k (A.deeper (envOfC qual scope s.heap.objs.size f cdv))->sp vs H Q E->
   ∃t,PSs (dm CX P w K mg base N qual scope f cdv A outer s H E) body t/\t {nx:=λ_ H'=>Q .non H',rt:=Q} (start N vs) H) :
 cZ P w K mg base CX (k+1) f (PySem.W.fnOf name qual params body scope dV kV doc pm an cdv ct) ps sp:=by
 refine⟨len,λA outer s H args us vs Q E hr e0 hb r hsp=>?_⟩
 have hl:=len _ _ _ _ hsp
 have KX:K.In s.heap:=e0.mod.kin.keeps λb o e=>(e0.bs b o e).1
 have lim:s.heap.NoLimit:=e0.mod.nolimit.keeps λb o e=>(e0.bs b o e).1
 have hkind:∀y∈ps.zip us,scope.names.lookup y.1=some .local\/(scope.names.lookup y.1=some .cell/\((cellsFrom (s.heap.objs.size+1) scope.names []).lookup y.1).isSome=true):=λ⟨n,v⟩ hy=>by
  rcases S.par n (List.of_mem_zip hy).1 with q | q
  ·exact .inl q
  ·exact .inr ⟨q,PySem.W.cellsFrom_some _ _ _ (.inl q)⟩
 refine codeAny_call_function hr.depth (KX _ _ lk) rfl S.co S.gen rfl (PySem.W.codeRec_of KX hcd) (hb _ _ _ _ ?_)
 refine wpAny_newFunctionEnv_cells S.kind hkind λenv he s1 x=>?_
 subst he
 refine⟨lim.keeps x.toInCall.keep,codeAny_func ?_⟩
 obtain⟨t,ht,hq⟩:=hbody A outer s H vs Q E (hr.deeper _) hsp
 have I:Inv (dm CX P w K mg base N qual scope f cdv A outer s H E) [] (start N vs) H s1:=akX S hr.hd e0 hl r x
 refine wpAny_mono (ht [] s1 (start N vs) H _ I hq) (λfl s' hs=>?_) λe s' hs=>hs
 have fin:∀{σ':St} {H':Hp} {v:V} {u:Value},Inv (dm CX P w K mg base N qual scope f cdv A outer s H E) [] σ' H' s'->RelV v u->Q v H'->CE outer P w H s Q u s' :=
  λ{σ' H' v u} J rv q=>⟨v,H',J.os,J.bare,J.base,J.hok,rv,q⟩
 cases fl with
 | ret u =>
   obtain⟨v,σ',H',J,rv,q⟩:=hs
   exact fin J rv q
 | next =>
   obtain⟨σ',H',J,q⟩:=hs
   exact fin (v:=V.non) (u:=Value.none) J rfl q
 | brk =>
   obtain⟨_,_,_,q⟩:=hs
   exact False.elim q
 | cont =>
   obtain⟨_,_,_,q⟩:=hs
   exact False.elim q
section
variable{X:Cx}{x:Str}{p pos:Pos}{e:Expr}{es:List Expr}{t:TA}{id T:String}{r:List V->Hp->VK->Prop}
def tCB(r:List V->Hp->VK->Prop)(t:TA):TE:=λσ H Q=>t σ H λvs H1=>r vs H1 Q
theorem dI(hc:R5 X (.builtin id) r)(hg:Gl X x)(hm:X.mg x=none)(hv:bootBuiltins x=some (.builtin id))(ha:PA X (e::es) t)(hn:x≠"__name__":=by decide) (hdb:(x == ("__debug__":Str))=false:=by decide)
 (he:starEach (e::es) X.env=(false,eval e X.env)::starEach es X.env:=by rfl) (hpl:(backTo pos (starEach es X.env)).any (·.1)=false:=by rfl):PE X (.Call (.Name x p) (e::es) [] pos) (tCB r t):=by
 intro pins s σ H Q I h
 refine wpAny_Call_Name_kw (WW I hg hm hv ?_ hn hdb)
 exact PyProof.Rows.callWith_builtin1 (gq (ha pos pins s σ H _ I h) λus s1 hz=>lA hz λvs H1 I1 r1 q1=>hc pins s1 σ H1 vs us Q I1 r1 q1) he hpl
theorem iw(hc:R5 X (.type T) r)(hg:Gl X x)(hm:X.mg x=none)(hv:bootBuiltins x=some (.type T))(ha:PA X (e::es) t)(hn:x≠"__name__":=by decide) (hdb:(x == ("__debug__":Str))=false:=by decide)
 (he:starEach (e::es) X.env=(false,eval e X.env)::starEach es X.env:=by rfl) (hpl:(backTo pos (starEach es X.env)).any (·.1)=false:=by rfl):PE X (.Call (.Name x p) (e::es) [] pos) (tCB r t):=by
 intro pins s σ H Q I h
 refine wpAny_Call_Name_kw (WW I hg hm hv ?_ hn hdb)
 exact PyProof.Rows.callWith_type1 (gq (ha pos pins s σ H _ I h) λus s1 hz=>lA hz λvs H1 I1 r1 q1=>hc pins s1 σ H1 vs us Q I1 r1 q1) he hpl
end
end L2
namespace HT
open PySem PyProof.Rows
section
open PySem.SeqAt
open PySem.AutoSeq1 (wpAny_loadPart')
open PySem.MeetsSeq PySem.MeetsSeq2 PySem.MeetsSeq3
end
section
variable{prog:Program}{w:World}{A:Around}{E:Value->Shared->Prop}{s:Shared}
theorem aoQ{t b:Addr}{vs ws:List Value}{Q:Value->Shared->Prop}(ht:IsTup s.heap t vs.toArray)(hb:IsTup s.heap b ws.toArray)(hv:vs≠[])
 (h1:ws=[]->Q (.ref t) s) (h2:ws≠[]->Q (.ref s.heap.objs.size) {s with heap:=s.heap.push {cls:=.type "tuple",data:=.seq (vs++ws).toArray}})
 (hsz:vs.length+ws.length<=sizeLine):wpAny (model prog w) A (binaryOp .Add (.ref t) (.ref b)) Q E s:=by
 obtain⟨⟨cls,dd,data,sl⟩,ho,hc,n,hd⟩:=id ht
 obtain⟨⟨cls2,dd2,data2,sl2⟩,ho2,hc2,n2,hd2⟩:=id hb
 simp only at hc hd hc2 hd2
 subst hc hd hc2 hd2
 have e:vs.toArray++ws.toArray=(vs++ws).toArray:=by simp
 by_cases hw:ws=[]
 ·exact concat_meets ⟨_,ho,rfl⟩ ⟨_,ho2,rfl⟩ noFill_tuple_add seq_tuple_add PySem.F.slot_tuple_add PySem.F.entry_tuple_add (PySem.F.args_tuple_add_2 _ _)
   (tuple_addW1 t b vs.toArray ws.toArray n n2 dd dd2 sl sl2 (by simpa using hv) (by simp[hw])) ⟨ho,ho2,h1 hw⟩
 ·refine concat_meets ⟨_,ho,rfl⟩ ⟨_,ho2,rfl⟩ noFill_tuple_add seq_tuple_add PySem.F.slot_tuple_add PySem.F.entry_tuple_add (PySem.F.args_tuple_add_2 _ _)
   (tuple_addW2 t b vs.toArray ws.toArray n n2 dd dd2 sl sl2 (by simpa using hv) (by simpa using hw) (by rw[List.size_toArray,List.size_toArray];exact hsz)) ⟨ho,ho2,?_⟩
  rw[e]
  exact h2 hw
def oX(n d:Nat):Option Int->Nat
 | none=>d
 | some v=>if v<0 then(v+(n:Int)).toNat else min v.toNat n
theorem asw(n d:Nat)(hd:d<=n)(o:Option Int):oX n d o<=n:=by
 cases o with
 | none=>exact hd
 | some v =>
   show(if v<0 then(v+(n:Int)).toNat else min v.toNat n)<=n
   by_cases hv:v<0
   ·rw[if_pos hv];lia
   ·rw[if_neg hv];exact Nat.min_le_right _ _
theorem ajQ(v:Int)(n d:Nat):(if v<0 then max (v+(n:Int)) 0 else min v (n:Int))=((oX n d (some v):Nat):Int):=by
 show(if v<0 then max (v+(n:Int)) 0 else min v (n:Int))=(((if v<0 then(v+(n:Int)).toNat else min v.toNat n):Nat):Int)
 by_cases hv:v<0
 ·simp only[if_pos hv];lia
 ·simp only[if_neg hv];lia
theorem ais(lo hi:Option Int)(n:Nat):Builtin.Slice.sliceAdjust lo hi 1 (n:Int)=(((oX n 0 lo:Nat):Int),((oX n n hi:Nat):Int)):=by
 have h1:¬((1:Int)<0):=by lia
 unfold Builtin.Slice.sliceAdjust
 simp only[h1,if_false]
 refine Prod.ext ?_ ?_
 ·cases lo with
  | none=>rfl
  | some v=>exact ajQ v n 0
 ·cases hi with
  | none=>rfl
  | some v=>exact ajQ v n n
theorem ait(i j:Nat):Builtin.Slice.slicePlaces (i:Int) (j:Int) 1=j - i:=by
 unfold Builtin.Slice.slicePlaces
 have h1:(1:Int) > 0:=by lia
 simp only[h1,if_true,Int.ediv_one]
 split<;>lia
theorem W8{v:Value}{o:Option Int}{Q:Option Int->Shared->Prop}(p:IsPart v o)(h:Q o s):wpAny (model prog w) A (Builtin.Slice.slicePartIndex v) Q E s:=by
 cases p with
 | none=>exact slicePart_none h
 | int i t=>exact slicePart_int h
theorem Qt{sl:Addr}{vl vu:Value}{lo hi:Option Int}{n:Nat}{Q:Int×Int×Nat->Shared->Prop}(hs:s.heap.IsSliceOf sl vl vu .none)(pl:IsPart vl lo)(pu:IsPart vu hi)
 (h:Q (((oX n 0 lo:Nat):Int),1,oX n n hi - oX n 0 lo) s):wpAny (model prog w) A (Builtin.Slice.sliceApplied (.ref sl) (pure (n:Int))) Q E s:=by
 obtain⟨os,hos,hcs,hds⟩:=id hs
 unfold Builtin.Slice.sliceApplied Builtin.Slice.sliceFields
 refine wpAny_bind (wpAny_bind (wpAny_field hos hds (x:=vl) rfl (wpAny_bind (wpAny_field hos hds (x:=vu) rfl (wpAny_bind (wpAny_field hos hds (x:=.none) rfl (wpAny_pure ?_)))))))
 refine wpAny_bind (slicePart_none ?_)
 show wpAny _ _ (if((1:Int) == 0)=true then _ else _) _ _ s
 rw[if_neg (by decide)]
 refine wpAny_bind (W8 pl (wpAny_bind (W8 pu (wpAny_bind (wpAny_pure ?_)))))
 show wpAny _ _ (match Builtin.Slice.sliceAdjust lo hi 1 (n:Int)with | (lo,hi)=>pure (lo,(1:Int),Builtin.Slice.slicePlaces lo hi 1)) _ _ s
 rw[ais lo hi n]
 show wpAny _ _ (pure (((oX n 0 lo:Nat):Int),(1:Int),Builtin.Slice.slicePlaces ((oX n 0 lo:Nat):Int) ((oX n n hi:Nat):Int) 1)) _ _ s
 rw[ait]
 exact wpAny_pure h
theorem amf(xs:Array Value)(i k:Nat):((List.range k).filterMap λ(m:Nat)=>xs[((i:Int)+(m:Int)*1).toNat]?).toArray=((xs.toList.drop i).take k).toArray:=by
 have e:(λ(m:Nat)=>xs[((i:Int)+(m:Int)*1).toNat]?)=λm=>xs[i+m]? := by
  funext m
  have:((i:Int)+(m:Int)*1).toNat=i+m:=by lia
  rw[this]
 rw[e]
 have:=pick_run xs i k
 rw[List.filterMap_map]at this
 have e2:((λx=>xs[x]?) ∘ λx=>i+x)=λm=>xs[i+m]? := rfl
 rw[e2]at this
 rw[this]
theorem LQ{t sl:Addr}{items:Array Value}{vl vu:Value}{lo hi:Option Int}{Q:Value->Shared->Prop}(ht:IsTup s.heap t items)(hs:s.heap.IsSliceOf sl vl vu .none)(pl:IsPart vl lo)(pu:IsPart vu hi)
 (hw:¬(oX items.size 0 lo=0/\oX items.size items.size hi=items.size))
 (h:Q (.ref s.heap.objs.size) {s with heap:=s.heap.push {cls:=.type "tuple",data:=.seq ((items.toList.drop (oX items.size 0 lo)).take (oX items.size items.size hi - oX items.size 0 lo)).toArray}})
 (hsz:items.size<=sizeLine):wpAny (model prog w) A (getItem (.ref t) (.ref sl)) Q E s:=by
 have ajR:sizeOk (.seq ((items.toList.drop (oX items.size 0 lo)).take (oX items.size items.size hi - oX items.size 0 lo)).toArray):=by
  show((items.toList.drop (oX items.size 0 lo)).take (oX items.size items.size hi - oX items.size 0 lo)).toArray.size<=sizeLine
  rw[List.size_toArray,List.length_take,List.length_drop,Array.length_toList]
  lia
 have hj:oX items.size items.size hi<=items.size:=asw _ _ (Nat.le_refl _) hi
 obtain⟨os,hos,hcs,hds⟩:=id hs
 have hTs:s.TypeIs (.ref sl) "slice":=⟨os,hos,hcs⟩
 unfold getItem
 try with_reducible refine wpAny_holding ?_
 first | refine wpAny_bind (wpAny_pure ?_) | skip
 refine wpAny_bind (wpAny_sequenceKey ht.typeIs (by decide) ?_)
 refine wpAny_bind (wpAny_callSpecial?_slot (name:=Str.ofString "__getitem__") ht.typeIs PyProof.Rows.slot_tuple_getitem
  (wpAny_call_entry PyProof.Rows.slot_tuple_getitem ht.typeIs entry_tuple_getitem ?_ (args_tuple_getitem _ _)))
 show wpAny _ _ (Builtin.Tuple.tupleItemsOf (.ref t) >>= _) _ _ s
 refine wpAny_bind (tupleItemsOf_ ht ?_)
 refine wpAny_bind (wpAny_typeOf hTs ?_)
 rw[if_pos (by decide)]
 refine wpAny_bind (Qt hs pl pu ?_)
 have hno:¬((((oX items.size 0 lo:Nat):Int) == 0 && (1:Int) == 1 && (oX items.size items.size hi - oX items.size 0 lo) == items.size)=true):=by
  intro q
  rw[Bool.and_eq_true,Bool.and_eq_true]at q
  have q1:((oX items.size 0 lo:Nat):Int)=0:=eq_of_beq q.1.1
  have q2:oX items.size items.size hi - oX items.size 0 lo=items.size:=eq_of_beq q.2
  exact hw ⟨by lia,by lia⟩
 show wpAny _ _ (if(((oX items.size 0 lo:Nat):Int) == 0 && (1:Int) == 1 && (oX items.size items.size hi - oX items.size 0 lo) == items.size)=true then _ else _) _ _ s
 rw[if_neg hno,amf]
 first
  | exact wpAny_bind (m:=Builtin.Tuple.tupleExact _) (wpAny_newObj_type (wpAny_pure ⟨_,rfl,wpAny_pure h⟩) ajR)
  | exact wpAny_bind (m:=Builtin.Tuple.tupleExact _) (wpAny_newObj_type (wpAny_bind (wpAny_pure (wpAny_pure ⟨_,rfl,wpAny_pure h⟩))) ajR)
  | exact wpAny_bind (wpAny_bind (m:=Builtin.Tuple.tupleExact _) (wpAny_newObj_type (wpAny_pure (wpAny_pure ⟨_,rfl,wpAny_pure h⟩)) ajR))
  | exact wpAny_bind (wpAny_bind (m:=Builtin.Tuple.tupleExact _) (wpAny_newObj_type (wpAny_pure ⟨_,rfl,wpAny_pure h⟩) ajR))
end
end HT
namespace L2
open PySem PySem.Spec PyProof.Rows
abbrev TO:=St->Hp->(Option Int->Hp->Prop)->Prop
def PO(X:Cx)(e:Option Expr)(t:TO):Prop :=
 ∀(pins:List (Addr×Obj)) (s:Shared) (σ:St) (H:Hp) (Q:Option Int->Hp->Prop),Inv X pins σ H s->t σ H Q->
  wpAny (model X.prog X.w) X.A (evalPart e X.env) (λu s'=>∃o H',Inv X pins σ H' s'/\IsPart u o/\Q o H') X.xe s
def aoR:TO:=λ_ H Q=>Q none H
def awd(t:TE):TO:=λσ H Q=>t σ H λx H1=>∃i,x=.int i/\Q (some i) H1
section
variable{X:Cx}{e:Expr}{te:TE}{lo hi:Option Expr}{tl th:TO}{pos p2:Pos}
theorem ajS:PO X none aoR:=by
 intro pins s σ H Q I h
 rw[evalPart_none]
 exact wpAny_pure ⟨none,H,I,.none,h⟩
theorem ajT(h:PE X e te):PO X (some e) (awd te):=by
 intro pins s σ H Q I hw
 rw[evalPart_some]
 refine gq (h pins s σ H _ I hw) λu s1 hz=>lA hz λx H1 I1 r1 q1=>?_
 obtain⟨i,rfl,q⟩:=q1
 obtain⟨t,rfl⟩:=r1
 exact⟨some i,H1,I1,.int i t,q⟩
def SlR(X:Cx)(r:V->Option Int->Option Int->Hp->VK->Prop):Prop :=
 ∀(pins:List (Addr×Obj)) (s:Shared) (σ:St) (H:Hp) (x:V) (v vl vu:Value) (lo hi:Option Int) (sl:Addr) (Q:VK),Inv X pins σ H s->RelV x v->s.heap.IsSliceOf sl vl vu .none->IsPart vl lo->IsPart vu hi->r x lo hi H Q->
  ∃T id,typeLookup (.type T) "__getitem__"=pure (some (.builtin id))/\s.TypeIs v T/\wpAny (model X.prog X.w) X.A (getItem v (.ref sl)) (EP X pins σ Q) X.xe s
def tSl(r:V->Option Int->Option Int->Hp->VK->Prop)(te:TE)(tl th:TO):TE:=λσ H Q=>te σ H λx H1=>tl σ H1 λl H2=>th σ H2 λu H3=>r x l u H3 Q
theorem afX{r:V->Option Int->Option Int->Hp->VK->Prop}(hr:SlR X r)(he:PE X e te)(hl:PO X lo tl)(hu:PO X hi th):PE X (.Subscript e (.Slice lo hi none p2) pos) (tSl r te tl th):=by
 intro pins s σ H Q I h
 refine Subscript_ (gq (he pins s σ H _ I h) λv s1 hz=>lA hz λx H1 I1 r1 q1=>?_)
 refine wpAny_Slice (gq (hl pins s1 σ H1 _ I1 q1) λvl s2 hz=>lA hz λl H2 I2 pl q2=>gq (hu pins s2 σ H2 _ I2 q2) λvu s3 hz=>lA hz λu H3 I3 pu q3=>?_)
 rw[evalPart_none]
 refine wpAny_pure ?_
 have I4:Inv X pins σ H3 {s3 with heap:=s3.heap.push {cls:=.type "slice",data:=.fields #[vl,vu,.none]}}:=I3.kept (t':=s3.toks) λb ob q=>Heap.get?_push_of_some _ q
 obtain⟨T,id,hT,ht,hg⟩:=hr pins {s3 with heap:=s3.heap.push {cls:=.type "slice",data:=.fields #[vl,vu,.none]}} σ H3 x v vl vu l u s3.heap.objs.size Q I4 r1 (Heap.IsSliceOf.new ..) pl pu q3
 show wpAny (model X.prog X.w) X.A (subscriptTail e (.Slice lo hi none p2) v (.ref s3.heap.objs.size)) (EP X pins σ Q) X.xe {s3 with heap:=s3.heap.push {cls:=.type "slice",data:=.fields #[vl,vu,.none]}}
 exact tail_any (ops:=[.ref s3.heap.objs.size,v]) ht hT hg (by with_unfolding_all rfl)
def aaJ(xs:List V)(lo hi:Option Int):List V:=(xs.drop (HT.oX xs.length 0 lo)).take (HT.oX xs.length xs.length hi - HT.oX xs.length 0 lo)
theorem R8(xs:List V)(lo hi:Option Int):(aaJ xs lo hi).length<=xs.length:=by
 unfold aaJ
 rw[List.length_take,List.length_drop]
 lia
def azr(K:PySem.W.Frag):V->Option Int->Option Int->Hp->VK->Prop:=λx lo hi H Q=>∃a xs,x=.ref a/\dF K H a xs/\
 ¬(HT.oX xs.length 0 lo=0/\HT.oX xs.length xs.length hi=xs.length)/\∀p,H p=none->Q (.ref p) (upd H p (.tup (aaJ xs lo hi)))
theorem asx:SlR X (azr X.K):=by
 intro pins s σ H x v vl vu lo hi sl Q I rx hs pl pu h
 obtain⟨a,xs,rfl,hx,hw,q⟩:=h
 cases rx
 obtain⟨its,r,ht,hz⟩:=I.tuple hx
 have hlen:its.toArray.size=xs.length:=by rw[List.size_toArray];exact r.length.symm
 refine⟨"tuple",_,PyProof.Rows.slot_tuple_getitem.lookup,ht.typeIs,?_⟩
 refine HT.LQ ht hs pl pu (by rw[hlen];exact hw) ?_ (by rw[hlen];exact hz)
 rw[hlen]
 refine⟨.ref s.heap.objs.size,_,I.laid (t':=s.toks) (o:=.tup (aaJ xs lo hi)) (λb ob q=>Heap.get?_push_of_some _ q) (Nat.le_refl _) ?_,rfl,q _ (I.hok.fresh (Nat.le_refl _))⟩
 exact⟨Nat.le_trans (R8 xs lo hi) hz,_,(r.drop (HT.oX xs.length 0 lo)).take (HT.oX xs.length xs.length hi - HT.oX xs.length 0 lo),IsTup.new _ _⟩
def awe(K:PySem.W.Frag):R2:=λx y H Q=>∃a b xs ys,x=.ref a/\y=.ref b/\dF K H a xs/\dF K H b ys/\xs≠[]/\xs.length+ys.length<=sizeLine/\
 (ys=[]->Q (.ref a) H)/\(ys≠[]->∀p,H p=none->Q (.ref p) (upd H p (.tup (xs++ys))))
theorem Vals.acX{xs:List V}{us:List Value}(r:Vals xs us):us=[]↔xs=[]:=by
 cases r with
 | nil=>simp
 | cons _ _=>simp
theorem aoS:WK X (binaryOp .Add) (awe X.K):=by
 intro pins s σ H x y v u Q I rx ry h
 obtain⟨a,b,xs,ys,rfl,rfl,ha,hb,hx,hz,q1,q2⟩:=h
 cases rx
 cases ry
 obtain⟨its,r1,p1,_⟩:=I.tuple ha
 obtain⟨its2,r2,p2,_⟩:=I.tuple hb
 refine HT.aoQ p1 p2 (λz=>hx (r1.acX.mp z)) (λz=>⟨.ref a,H,I,rfl,q1 (r2.acX.mp z)⟩) (λz=>?_) (by rw[<-r1.length,<-r2.length];exact hz)
 refine⟨.ref s.heap.objs.size,_,I.laid (t':=s.toks) (o:=.tup (xs++ys)) (λb ob q=>Heap.get?_push_of_some _ q) (Nat.le_refl _) ?_,rfl,q2 (λw=>z (r2.acX.mpr w)) _ (I.hok.fresh (Nat.le_refl _))⟩
 exact⟨by rw[List.length_append];exact hz,_,r1.append r2,IsTup.new _ _⟩
end
def ixN(n:Nat)(i:Int):Option Nat:=if 0<=i then(if i<n then some i.toNat else none)else if -(n:Int)<=i then some (i+n).toNat else none
def Qu{α:Type}(xs:List α)(i:Int):Option α:=(ixN xs.length i).bind λj=>xs[j]?
theorem ajU{n:Nat}{i:Int}{j:Nat}(h:ixN n i=some j):seqIndex? i n=some j/\j<n/\-(n:Int)<=i/\i<n:=by
 unfold ixN at h
 by_cases h0:0<=i
 ·rw[if_pos h0]at h
  by_cases h1:i<n
  ·rw[if_pos h1]at h
   have e:i.toNat=j:=Option.some.inj h
   exact⟨by rw[seqIndex_of h0 h1,e],by lia,by lia,h1⟩
  ·rw[if_neg h1]at h;cases h
 ·rw[if_neg h0]at h
  by_cases h1 : -(n:Int)<=i
  ·rw[if_pos h1]at h
   have e:(i+n).toNat=j:=Option.some.inj h
   exact⟨by rw[seqIndex_neg (by lia) h1,e],by lia,h1,by lia⟩
  ·rw[if_neg h1]at h;cases h
theorem ajV{α:Type}{xs:List α}{i:Int}{v:α}(h:Qu xs i=some v):∃j,seqIndex? i xs.length=some j/\xs[j]? = some v/\j<xs.length/\-(xs.length:Int)<=i/\i<xs.length:=by
 unfold Qu at h
 cases e:ixN xs.length i with
 | none=>rw[e]at h;cases h
 | some j =>
   rw[e]at h
   obtain⟨h1,h2,h3,h4⟩:=ajU e
   exact⟨j,h1,h,h2,h3,h4⟩
theorem zL{α:Type}{xs:List α}{j:Nat}{v:α}(h:xs[j]? = some v):Qu xs (j:Int)=some v:=by
 have hj:j<xs.length:=(List.getElem?_eq_some_iff.mp h).1
 have e:ixN xs.length (j:Int)=some j:=by
  unfold ixN
  rw[if_pos (by lia),if_pos (by lia)];simp
 unfold Qu;rw[e];exact h
def aoU(b:Expr):Prop:=∀o i,subscripted b false o i=operate [o,i] (getItem o i)
def IxR(X:Cx)(r:R2):Prop :=
 ∀(value slice:Expr) (pins:List (Addr×Obj)) (s:Shared) (σ:St) (H:Hp) (x y:V) (v u:Value) (Q:VK),Inv X pins σ H s->RelV x v->RelV y u->r x y H Q->
  subscripted slice false v u=operate [v,u] (getItem v u)->wpAny (model X.prog X.w) X.A (subscriptTail value slice v u) (EP X pins σ Q) X.xe s
def MtR(X:Cx)(id:String)(r:V->List V->Hp->VK->Prop):Prop :=
 ∀(pins:List (Addr×Obj)) (s:Shared) (σ:St) (H:Hp) (x:V) (xs:List V) (v:Value) (us:List Value) (Q:VK),Inv X pins σ H s->RelV x v->Vals xs us->r x xs H Q->
  wpAny (model X.prog X.w) X.A (call (.builtin id) (v::us)) (EP X pins σ Q) X.xe s
section
variable{X:Cx}{a b:Expr}{ta tb:TE}{pos:Pos}
theorem aO{r:R2}(hr:IxR X r)(ha:PE X a ta)(hb:PE X b tb)(hs:aoU b):PE X (.Subscript a b pos) (W0 r ta tb):=by
 intro pins s σ H Q I h
 exact Subscript_ (aso ha hb I h λv u s2 x y H2 I2 rx ry q=>hr a b pins s2 σ H2 x y v u Q I2 rx ry q (hs _ _))
def aiu(K:PySem.W.Frag):R2:=λx y H Q=>∃p xs i v,x=.ref p/\y=.int i/\bZ K H p xs/\Qu xs i=some v/\Q v H
def aiv(K:PySem.W.Frag):R2:=λx y H Q=>∃p xs i v,x=.ref p/\y=.int i/\dF K H p xs/\Qu xs i=some v/\Q v H
theorem bF:IxR X (aiu X.K):=by
 intro value slice pins s σ H x y v u Q I rx ry h hs
 obtain⟨p,xs,i,z,rfl,rfl,hq,he,q⟩:=h
 cases rx
 obtain⟨t,rfl⟩:=ry
 obtain⟨its,r,pl,hz⟩:=I.list hq
 obtain⟨j,h1,h2,h3,h4,h5⟩:=ajV he
 obtain⟨w,ew,rw'⟩:=r.get h2
 have hl:=r.length
 have hn:=W4
 have fin:EP X pins σ Q w s:=⟨z,H,I,rw',q⟩
 by_cases h0:0<=i
 ·have hj:i.toNat=j:=by
   rw[seqIndex_of h0 h5]at h1
   exact Option.some.inj h1
  exact item_listR pl.isList h0 (by lia) (by rw[hj];simpa using ew) fin hs
 ·have hj:(i+(its.toArray.size:Int)).toNat=j:=by
   rw[seqIndex_neg (by lia) h4]at h1
   rw[List.size_toArray,<-hl]
   exact Option.some.inj h1
  exact subscriptTail_builtinR (x:=w) pl.isList.typeIs slot_list_getitem.lookup
   (wpAny_getItem_list_neg (Q:=λr s'=>r=w/\EP X pins σ Q r s') pl.isList (by lia) (by rw[List.size_toArray]<;>lia) (by lia) (by rw[hj];simpa using ew) ⟨rfl,fin⟩) hs
theorem bC:IxR X (aiv X.K):=by
 intro value slice pins s σ H x y v u Q I rx ry h hs
 obtain⟨p,xs,i,z,rfl,rfl,hq,he,q⟩:=h
 cases rx
 obtain⟨t,rfl⟩:=ry
 obtain⟨its,r,pl,hz⟩:=I.tuple hq
 obtain⟨j,h1,h2,h3,h4,h5⟩:=ajV he
 obtain⟨w,ew,rw'⟩:=r.get h2
 have hl:=r.length
 have hn:=W4
 have fin:EP X pins σ Q w s:=⟨z,H,I,rw',q⟩
 exact subscriptTail_builtinR (x:=w) pl.typeIs slot_tuple_getitem.lookup
  (getItem_tuple (j:=j) (Q:=λr s'=>r=w/\EP X pins σ Q r s') pl (by lia) (by lia) (by rw[List.size_toArray,<-hl];exact h1) (by simpa using ew) ⟨rfl,fin⟩) hs
theorem aiw(its:List Value)(n j:Nat)(u:Value):Obj.mapSeq (·.setIfInBounds j u) {cls:=.type "list",data:=.seq its.toArray n}={cls:=.type "list",data:=.seq (its.set j u).toArray n}:=by
 simp[Obj.mapSeq]
theorem Inv.lst{pins:List (Addr×Obj)}{σ:St}{H:Hp}{s:Shared}{p:Addr}{xs:List V}(I:Inv X pins σ H s)(h:H p=some (.lst xs)) :
 ∃(its:List Value) (n:Nat),Vals xs its/\s.heap.get? p=some {cls:=.type "list",data:=.seq its.toArray n}/\xs.length<=sizeLine:=by
 obtain⟨z,its,n,r,e⟩:=I.hok p _ h
 exact⟨its,n,r,e,z⟩
theorem Inv.asy{pins:List (Addr×Obj)}{σ:St}{H:Hp}{s:Shared}{p:Addr}{xs ys:List V}{its its':List Value}{n n':Nat}{f:Obj->Obj}(I:Inv X pins σ H s)(h:H p=some (.lst xs))
 (ho:s.heap.get? p=some {cls:=.type "list",data:=.seq its.toArray n}) (hf:f {cls:=.type "list",data:=.seq its.toArray n}={cls:=.type "list",data:=.seq its'.toArray n'}) (r:Vals ys its') (hz:ys.length<=sizeLine) (t:Nat) :
 Inv X pins σ (upd H p (.lst ys)) {s with heap:=s.heap.update p f,toks:=t}:=by
 have e:(s.heap.update p f).get? p=some {cls:=.type "list",data:=.seq its'.toArray n'}:=by
  rw[Heap.get?_update_self f ho (by rw[hf]<;>rfl),hf]
 refine I.write (x:=p) (e:=p) (by rw[h];trivial) (.inl rfl) (λb u hb q=>(Heap.get?_update_other _ _ (Ne.symm hb)).trans q) ⟨_,e⟩ ?_
 exact⟨hz,its',n',r,e⟩
def arA:V->V->V->Hp->(Hp->Prop)->Prop:=λo i v H Q=>∃p xs k j,o=.ref p/\i=.int k/\H p=some (.lst xs)/\ixN xs.length k=some j/\Q (upd H p (.lst (xs.set j v)))
theorem set_list:av2 X arA:=by
 intro pins s σ H o i v ov iv u Q I ro ri rv h
 obtain⟨p,xs,k,j,rfl,rfl,hp,hj,q⟩:=h
 cases ro
 obtain⟨t,rfl⟩:=ri
 obtain⟨its,n,r,ho,hz⟩:=I.lst hp
 obtain⟨h1,h2,h3,h4⟩:=ajU hj
 have hl:=r.length
 have hn:=W4
 have I':Inv X pins σ (upd H p (.lst (xs.set j v))) {s with heap:=s.heap.update p (Obj.mapSeq (·.setIfInBounds j u))} :=
  I.asy hp ho (aiw its n j u) (r.set rv j) (by rw[List.length_set];exact hz) s.toks
 by_cases h0:0<=k
 ·have hk:k.toNat=j:=by
   rw[seqIndex_of h0 h4]at h1
   exact Option.some.inj h1
  exact PySem.W.ki_setAt ho h0 (by lia) (by rw[List.size_toArray,<-hl];exact h4) (by rw[hk];exact⟨_,I',q⟩)
 ·have hk:(k+(its.toArray.size:Int)).toNat=j:=by
   rw[seqIndex_neg (by lia) h3]at h1
   rw[List.size_toArray,<-hl]
   exact Option.some.inj h1
  exact PySem.W.ki_setBack ho (by lia) (by rw[List.size_toArray,<-hl];exact h3) (by lia) (by rw[hk];exact⟨_,I',q⟩)
theorem acY(lo hi:Option Int)(n:Nat):(sliceBounds lo hi none n).1=((HT.oX n 0 lo:Nat):Int)/\(sliceBounds lo hi none n).2.1=((HT.oX n n hi:Nat):Int)/\(sliceBounds lo hi none n).2.2=1:=by
 refine⟨?_,?_,rfl⟩
 ·cases lo with
  | none=>simp[sliceBounds,HT.oX]
  | some i =>
    simp only[sliceBounds,HT.oX,Option.getD_none,show(1:Int) > 0 by decide,if_true]
    by_cases h:i<0
    ·simp only[h,if_true]<;>lia
    ·simp only[h,if_false]<;>lia
 ·cases hi with
  | none=>simp[sliceBounds,HT.oX]
  | some i =>
    simp only[sliceBounds,HT.oX,Option.getD_none,show(1:Int) > 0 by decide,if_true]
    by_cases h:i<0
    ·simp only[h,if_true]<;>lia
    ·simp only[h,if_false]<;>lia
theorem aaK(its:List Value)(lo hi:Option Int):slicePick its.toArray lo hi none=((its.drop (HT.oX its.length 0 lo)).take (HT.oX its.length its.length hi - HT.oX its.length 0 lo)).toArray:=by
 obtain⟨h1,h2,h3⟩:=acY lo hi its.toArray.size
 unfold slicePick
 rw[h1,h2,h3]
 simp only[sliceRange_one,pick_run,List.size_toArray]<;>rfl
def azs(K:PySem.W.Frag):V->Option Int->Option Int->Hp->VK->Prop:=λx lo hi H Q=>∃a xs,x=.ref a/\bZ K H a xs/\∀p,H p=none->Q (.ref p) (upd H p (.lst (aaJ xs lo hi)))
theorem aoV:SlR X (azs X.K):=by
 intro pins s σ H x v vl vu lo hi sl Q I rx hs pl pu h
 obtain⟨a,xs,rfl,hx,q⟩:=h
 cases rx
 obtain⟨its,r,ht,hz⟩:=I.list hx
 have hlen:=r.length
 refine⟨"list",_,slot_list_getitem.lookup,ht.isList.typeIs,?_⟩
 refine wpAny_getItem_list_slice ht.isList hs pl pu .none (by simp) ?_ (by rw[List.size_toArray]<;>lia)
 rw[aaK,<-hlen]
 refine⟨.ref s.heap.objs.size,_,I.laid (t':=s.toks) (o:=.lst (aaJ xs lo hi)) (λb ob q=>Heap.get?_push_of_some _ q) (Nat.le_refl _) ?_,rfl,q _ (I.hok.fresh (Nat.le_refl _))⟩
 exact⟨Nat.le_trans (R8 xs lo hi) hz,_,0,(r.drop (HT.oX xs.length 0 lo)).take (HT.oX xs.length xs.length hi - HT.oX xs.length 0 lo),Heap.get?_push_size _ rfl⟩
def vI:V->Bool
 | .non=>true
 | .bl _=>true
 | .int _=>true
 | .str _=>true
 | _=>false
def eqV:V->V->Bool
 | .non,.non=>true
 | .bl a,.bl b=>a == b
 | .bl a,.int b=>(if a then 1 else 0) == b
 | .int a,.bl b=>a == (if b then 1 else 0)
 | .int a,.int b=>a == b
 | .str a,.str b=>a == b
 | _,_=>false
theorem asz{A:Around}{s:Shared}{y x:V}{u v:Value}(ry:RelV y u)(rx:RelV x v)(fy:vI y=true)(fx:vI x=true):SeqAt.EqAt A s u v (eqV y x):=by
 cases y with
 | non =>
   cases ry
   cases x with
   | non=>cases rx;exact SeqAt.EqAt.same _
   | bl b=>cases rx;exact SeqAt.EqAt.none_bool b
   | int b=>obtain⟨t,rfl⟩:=rx;exact SeqAt.EqAt.none_int b t
   | str b=>obtain⟨t,rfl⟩:=rx;exact SeqAt.EqAt.none_str b t
   | _=>exact absurd (show false=true from fx) Bool.false_ne_true
 | bl a =>
   cases ry
   cases x with
   | non=>cases rx;exact SeqAt.EqAt.bool_none a
   | bl b=>cases rx;exact SeqAt.EqAt.bool_bool a b
   | int b=>obtain⟨t,rfl⟩:=rx;exact SeqAt.EqAt.bool_int a b t
   | str b=>obtain⟨t,rfl⟩:=rx;exact SeqAt.EqAt.bool_str a b t
   | _=>exact absurd (show false=true from fx) Bool.false_ne_true
 | int a =>
   obtain⟨t',rfl⟩:=ry
   cases x with
   | non=>cases rx;exact SeqAt.EqAt.int_none a t'
   | bl b=>cases rx;exact SeqAt.EqAt.int_bool a t' b
   | int b=>obtain⟨t,rfl⟩:=rx;exact SeqAt.EqAt.int_int a t' b t
   | str b=>obtain⟨t,rfl⟩:=rx;exact SeqAt.EqAt.int_str a t' b t
   | _=>exact absurd (show false=true from fx) Bool.false_ne_true
 | str a =>
   obtain⟨t',rfl⟩:=ry
   cases x with
   | non=>cases rx;exact SeqAt.EqAt.str_none a t'
   | bl b=>cases rx;exact SeqAt.EqAt.str_bool a t' b
   | int b=>obtain⟨t,rfl⟩:=rx;exact SeqAt.EqAt.str_int a t' b t
   | str b=>obtain⟨t,rfl⟩:=rx;exact SeqAt.EqAt.str_str a t' b t
   | _=>exact absurd (show false=true from fx) Bool.false_ne_true
 | _=>exact absurd (show false=true from fy) Bool.false_ne_true
def eqU(x:V)(u:Value):Bool:=match u with
 | .none=>eqV .non x
 | .bool b=>eqV (.bl b) x
 | .int i _=>eqV (.int i) x
 | .str z _=>eqV (.str z) x
 | _=>false
theorem aiy{x y:V}{u:Value}(r:RelV y u)(f:vI y=true):eqU x u=eqV y x:=by
 cases y with
 | non=>cases r;rfl
 | bl b=>cases r;rfl
 | int i=>obtain⟨t,rfl⟩:=r;rfl
 | str z=>obtain⟨t,rfl⟩:=r;rfl
 | _=>exact absurd (show false=true from f) Bool.false_ne_true
theorem acZ{x:V}:∀{xs:List V} {us:List Value},Vals xs us->xs.all vI=true->us.any (eqU x)=xs.any λy=>eqV y x
 | _,_,.nil,_=>rfl
 | y::xs,u::us,.cons r t,f=>by
   rw[List.all_cons,Bool.and_eq_true]at f
   rw[List.any_cons,List.any_cons,aiy r f.1,acZ t f.2]
theorem LR{A:Around}{s:Shared}{x:V}{v:Value}(rx:RelV x v)(fx:vI x=true):∀{xs:List V} {us:List Value},Vals xs us->xs.all vI=true->∀u∈us,SeqAt.EqAt A s u v (eqU x u)
 | _,_,.nil,_=>λu hu=>by cases hu
 | y::xs,u::us,.cons r t,f=>λu' hu=>by
   rw[List.all_cons,Bool.and_eq_true]at f
   rcases List.mem_cons.mp hu with rfl | hu
   ·rw[aiy r f.1];exact asz r rx f.1 fx
   ·exact LR rx fx t f.2 u' hu
def inV(x:V)(xs:List V):Bool:=xs.any λy=>eqV y x
def rIn(K:PySem.W.Frag)(neg:Bool):R2:=λx y H Q=>∃p xs,y=.ref p/\(bZ K H p xs\/dF K H p xs)/\vI x=true/\xs.all vI=true/\Q (.bl (if neg then !inV x xs else inV x xs)) H
theorem zM:WK X (compareOp .NotIn) (rIn X.K true):=by
 intro pins s σ H x y v u Q I rx ry h
 obtain⟨p,xs,rfl,hq,fx,fs,q⟩:=h
 cases ry
 rcases hq with hq | hq
 ·obtain⟨its,r,pl,hz⟩:=I.list hq
  refine SeqAt.notIn_listAt (eqU x) pl.isList (λw hw=>LR rx fx r fs w (by simpa using hw)) ⟨.bl _,H,I,rfl,?_⟩
  rw[show its.toArray.any (eqU x)=its.any (eqU x)by simp,acZ r fs]
  exact q
 ·obtain⟨its,r,pl,hz⟩:=I.tuple hq
  refine SeqAt.notIn_tupleAt (eqU x) pl (λw hw=>LR rx fx r fs w (by simpa using hw)) ⟨.bl _,H,I,rfl,?_⟩
  rw[show its.toArray.any (eqU x)=its.any (eqU x)by simp,acZ r fs]
  exact q
theorem dJ:R5 X (.builtin "len") (λxs H Q=>∃p ys,xs=[.ref p]/\(bZ X.K H p ys\/dF X.K H p ys)/\Q (.int ys.length) H):=by
 intro pins s σ H xs us Q I r h
 obtain⟨p,ys,rfl,hq,q⟩:=h
 obtain⟨u,rfl,rx⟩:=vals1 r
 cases rx
 have hn:=W4
 rcases hq with hq | hq
 ·obtain⟨its,r',pl,hz⟩:=I.list hq
  have hlen:=r'.length
  exact Calls.call_len_list pl.isList (by simp only[List.size_toArray]<;>lia) ⟨.int ys.length,H,I.tok _,⟨s.toks+1,by rw[List.size_toArray,hlen]⟩,q⟩
 ·obtain⟨its,r',pl,hz⟩:=I.tuple hq
  have hlen:=r'.length
  exact len_tuple pl (by simp only[List.size_toArray]<;>lia) ⟨.int ys.length,H,I.tok _,⟨s.toks+1,by rw[List.size_toArray,hlen]⟩,q⟩
theorem zN:R5 X (.type "list") (λxs H Q=>∃p ys,xs=[.ref p]/\(bZ X.K H p ys\/dF X.K H p ys)/\∀l,H l=none->Q (.ref l) (upd H l (.lst ys))):=by
 intro pins s σ H xs us Q I r h
 obtain⟨p,ys,rfl,hq,q⟩:=h
 obtain⟨u,rfl,rx⟩:=vals1 r
 cases rx
 have fin:∀(its:List Value),Vals ys its->ys.length<=sizeLine->∀(h':Heap) (c':Nat),(∀b o',s.heap.get? b=some o'->h'.get? b=some o')->
  h'.get? s.heap.objs.size=some {cls:=.type "list",dict:=none,data:=.seq its.toArray c',slots := #[]}->EP X pins σ Q (.ref s.heap.objs.size) {s with heap:=h'}:=λits r' hz h' c' kp e =>
  ⟨.ref s.heap.objs.size,_,I.laid (t':=s.toks) kp (Nat.le_refl _) (show fV X.prog X.w _ h' _ (.lst ys)from⟨hz,its,c',r',e⟩),rfl,q _ (I.hok.fresh (Nat.le_refl _))⟩
 rcases hq with hq | hq
 ·obtain⟨its,r',pl,hz⟩:=I.list hq
  have hlen:=r'.length
  obtain⟨o,ho,hc,n,hd⟩:=pl.isList
  exact call_list_seq p (.inl rfl) ho hc hd (λh' c' kp e=>fin its r' hz h' c' kp e) (by simp only[List.size_toArray]<;>lia)
 ·obtain⟨its,r',pl,hz⟩:=I.tuple hq
  have hlen:=r'.length
  obtain⟨o,ho,hc,n,hd⟩:=pl
  exact call_list_seq p (.inr rfl) ho hc hd (λh' c' kp e=>fin its r' hz h' c' kp e) (by simp only[List.size_toArray]<;>lia)
def tyV(K:PySem.W.Frag)(T:String)(x:V)(H:Hp):Prop:=match x with
 | .str _=>T="str"
 | .int _=>T="int"
 | .ref p=>(T="list"/\∃xs,bZ K H p xs)\/(T="tuple"/\∃o,K.lookup p=some o/\o.cls=.type "tuple"/\o.dict=none)\/
    (T="dict"/\((∃kvs,H p=some (.dK kvs))\/∃kvs,H p=some (.dT kvs)))\/(T="set"/\∃S n,H p=some (.set S n))
 | _=>False
theorem amh{pins:List (Addr×Obj)}{σ:St}{H:Hp}{s:Shared}{T:String}{x:V}{v:Value}(I:Inv X pins σ H s)(r:RelV x v)(ty:tyV X.K T x H) :
 s.TypeIs v T/\∀a,v=.ref a->∃ob,s.heap.get? a=some ob/\ob.dict=none:=by
 cases x with
 | str z =>
   obtain⟨t,rfl⟩:=r
   cases (show T="str" from ty)
   exact⟨typeIs_str s z t,λ_ e=>nomatch e⟩
 | int i =>
   obtain⟨t,rfl⟩:=r
   cases (show T="int" from ty)
   exact⟨typeIs_int s i t,λ_ e=>nomatch e⟩
 | ref p =>
   cases r
   rcases ty with ⟨rfl,xs,hq⟩ | ⟨rfl,o,hk,hc,hd⟩ | ⟨rfl,hk⟩ | ⟨rfl,S,n,hk⟩
   ·obtain⟨its,_,pl,_⟩:=I.list hq
    refine⟨pl.isList.typeIs,λa e=>?_⟩
    cases e
    obtain⟨o,n,e,c,hd,_⟩:=pl
    exact⟨o,e,hd⟩
   ·refine⟨⟨o,I.yh p o hk,hc⟩,λa e=>?_⟩
    cases e
    exact⟨o,I.yh _ o hk,hd⟩
   ·have z:∃o,s.heap.get? p=some o/\o.ExactDict:=by
     rcases hk with ⟨kvs,hk⟩ | ⟨kvs,hk⟩
     ·obtain⟨_,_,_,_,o,_,_,e,ex,_⟩:=I.hok p _ hk
      exact⟨o,e,ex⟩
     ·obtain⟨_,_,_,_,o,_,_,e,ex,_⟩:=I.hok p _ hk
      exact⟨o,e,ex⟩
    obtain⟨o,e,ex⟩:=z
    refine⟨⟨o,e,ex.1⟩,λa e2=>?_⟩
    cases e2
    exact⟨o,e,ex.2.1⟩
   ·obtain⟨o,_,_,_,e,ex,_⟩:=I.hok p _ hk
    refine⟨⟨o,e,ex.1⟩,λa e2=>?_⟩
    cases e2
    exact⟨o,e,ex.2.1⟩
 | _=>exact False.elim ty
def azv(K:PySem.W.Frag)(T:String)(r:V->List V->Hp->VK->Prop)(to:TE):TE:=λσ H Q=>to σ H λx H1=>tyV K T x H1/\r x [] H1 Q
def tBM(K:PySem.W.Frag)(T:String)(r:V->List V->Hp->VK->Prop)(to:TE)(t:TA):TE:=λσ H Q=>to σ H λx H1=>tyV K T x H1/\t σ H1 λxs H2=>r x xs H2 Q
variable{o e:Expr}{es:List Expr}{to:TE}{t:TA}{name:Str}{apos cpos:Pos}{T id:String}{r:V->List V->Hp->VK->Prop}
theorem ami(pa:PlainAttrs T)(slot:Slot T name id)(hty:typeOf (.builtin id)=pure (.type "method_descriptor")) (hm:MtR X id r) (ho:PE X o to)
 (hbase:attributeBase o name X.env (eval o X.env)=eval o X.env:=by rfl) (hline:(apos.endLine == cpos.line)=true:=by rfl):PE X (.Call (.Attribute o name apos) [] [] cpos) (azv X.K T r to):=by
 intro pins s σ H Q I h
 refine wpAny_Call_method0_late hbase hline (gq (ho pins s σ H _ I h) λv s1 hz=>lA hz λx H1 I1 r1 ⟨ty,q1⟩=>?_)
 obtain⟨h1,h2⟩:=amh I1 r1 ty
 exact⟨T,id,pa,slot,hty,h1,h2,Calls.callWith_builtin rfl (PySem.evalArgs_none (hm pins s1 σ H1 x [] v [] Q I1 r1 .nil q1))⟩
theorem eN(pa:PlainAttrs T)(slot:Slot T name id)(hty:typeOf (.builtin id)=pure (.type "method_descriptor")) (hm:MtR X id r) (ho:PE X o to) (ha:PA X (e::es) t)
 (hbase:attributeBase o name X.env (eval o X.env)=eval o X.env:=by rfl)
 (hfew:((backTo cpos (starEach (e::es) X.env)).all (λx => !x.1) && (backToKw cpos (keywordEach [] X.env)).all (λx=>x.1.isSome)
   && decide ((e::es).length+([]:List Keyword).length+(if([]:List Keyword).isEmpty then 0 else 1)<30))=true:=by rfl)
 (hline:(apos.endLine == cpos.line)=true:=by rfl) (hs:starEach (e::es) X.env=(false,eval e X.env)::starEach es X.env:=by rfl) (hplain:(backTo cpos (starEach es X.env)).any (·.1)=false:=by rfl) :
 PE X (.Call (.Attribute o name apos) (e::es) [] cpos) (tBM X.K T r to t):=by
 intro pins s σ H Q I h
 refine wpAny_Call_method_late hbase hfew hline rfl (gq (ho pins s σ H _ I h) λv s1 hz=>lA hz λx H1 I1 r1 ⟨ty,q1⟩=>?_)
 obtain⟨h1,h2⟩:=amh I1 r1 ty
 refine⟨T,id,pa,slot,hty,h1,h2,?_⟩
 have hA:=ha cpos pins s1 σ H1 _ I1 q1
 rw[hs]at hA ⊢
 refine Calls.callWith_builtin (by show(false || (backTo cpos (starEach es X.env)).any (·.1))=false;rw[hplain]<;>rfl) (Calls.evalArgs_plain ?_)
 exact gq hA λus s2 hz=>lA hz λvs H2 I2 r2 q2=>hm pins s2 σ H2 x vs v us Q I2 r1 r2 q2
end
def MtM(X:Cx)(id:String)(r:V->List V->Hp->VK->Prop):Prop :=
 ∀(pins:List (Addr×Obj)) (s:Shared) (σ:St) (H:Hp) (x:V) (xs:List V) (v:Value) (us:List Value) (Q:VK),Inv X pins σ H s->RelV x v->Vals xs us->r x xs H Q->
  wpAny (model X.prog X.w) X.A (call (.builtin id) (v::us)) (EP X pins σ Q) X.xe s
theorem Vals.one:∀{x:V} {us:List Value},Vals [x] us->∃u,us=[u]/\RelV x u:=by
 intro x us h
 cases h with
 | cons r t=>cases t;exact⟨_,rfl,r⟩
theorem Vals.two:∀{x y:V} {us:List Value},Vals [x,y] us->∃u v,us=[u,v]/\RelV x u/\RelV y v:=by
 intro x y us h
 cases h with
 | cons r t =>
   cases t with
   | cons q t=>cases t;exact⟨_,_,rfl,r,q⟩
theorem Vals.zero:∀{us:List Value},Vals [] us->us=[]
 | _,.nil=>rfl
theorem Vals.dropLast{xs:List V}{us:List Value}(h:Vals xs us):Vals xs.dropLast us.dropLast:=by
 induction h with
 | nil=>exact .nil
 | cons r t ih =>
   cases t with
   | nil=>exact .nil
   | cons q t'=>exact .cons r ih
theorem Vals.eraseIdx:∀{xs:List V} {us:List Value} (i:Nat),Vals xs us->Vals (xs.eraseIdx i) (us.eraseIdx i)
 | _,_,_,.nil=>.nil
 | _,_,0,.cons _ t=>t
 | _,_,i+1,.cons r t=>.cons r (Vals.eraseIdx i t)
theorem Vals.rep{xs:List V}{us:List Value}(h:Vals xs us):∀k:Nat,Vals (List.replicate k xs).flatten (List.replicate k us).flatten
 | 0=>.nil
 | k+1=>by
   rw[List.replicate_succ,List.replicate_succ,List.flatten_cons,List.flatten_cons]
   exact Vals.append h (Vals.rep h k)
theorem aiz{α:Type}(l:List α):l.eraseIdx (l.length - 1)=l.dropLast:=by
 induction l with
 | nil=>rfl
 | cons a r ih =>
   cases r with
   | nil=>rfl
   | cons b r =>
     have e:(a::b::r).length - 1=((b::r).length - 1)+1:=by
      have h1:(a::b::r).length=r.length+2:=rfl
      have h2:(b::r).length=r.length+1:=rfl
      lia
     rw[e,List.eraseIdx_cons_succ,ih]
     all_goals rfl
theorem ab8{α:Type}:∀(l:List α) (i:Nat),(l.eraseIdx i).length<=l.length
 | [],_=>Nat.le_refl _
 | _::_,0=>Nat.le_succ _
 | _::r,i+1=>Nat.succ_le_succ (ab8 r i)
theorem foldl_rep(its:List Value):∀(k:Nat) (acc:List Value),
 List.foldl (λx1 x2=>x1++x2) acc.toArray (List.replicate k its.toArray)=(acc++(List.replicate k its).flatten).toArray
 | 0,acc=>by simp
 | k+1,acc=>by
   have e:acc.toArray++its.toArray=(acc++its).toArray:=by simp
   have e2:(acc++its)++(List.replicate k its).flatten=acc++(List.replicate (k+1) its).flatten:=by
    rw[List.replicate_succ,List.flatten_cons,List.append_assoc]
   rw[<-e2,<-foldl_rep its k (acc++its),<-e,List.replicate_succ,List.foldl_cons]
section
variable{X:Cx}{pins:List (Addr×Obj)}{σ:St}{H:Hp}{s:Shared}{l b:Addr}{xs ys zs:List V}
theorem Inv.amj{its its':List Value}{n:Nat}{f:Array Value->Array Value}{t':Nat}(I:Inv X pins σ H s)(hH:H l=some (.lst xs))
 (e:s.heap.get? l=some {cls:=.type "list",data:=.seq its.toArray n}) (hf:f its.toArray=its'.toArray) (hv:Vals ys its') (hz:ys.length<=sizeLine) :
 Inv X pins σ (upd H l (.lst ys)) {s with heap:=s.heap.update l (Obj.mapSeq f),toks:=t'}:=by
 have q:=PySem.IsL.update e f
 rw[hf]at q
 refine I.write (x:=l) (e:=l) (by rw[hH];exact trivial) (.inl rfl) (λb' u hb hu=>(Heap.get?_update_other s.heap (Obj.mapSeq f) (Ne.symm hb)).trans hu) ⟨_,q⟩ ?_
 exact⟨hz,its',_,hv,q⟩
theorem Inv.asA{its:List Value}{t':Nat}(I:Inv X pins σ H s)(hv:Vals ys its)(hz:ys.length<=sizeLine) :
 Inv X pins σ (upd H s.heap.objs.size (.lst ys)) {s with heap:=s.heap.push {cls:=.type "list",data:=.seq its.toArray},toks:=t'} :=
 I.laid (λ_ _ q=>Heap.get?_push_of_some _ q) (Nat.le_refl _) ⟨hz,its,0,hv,Heap.get?_push_size _ rfl⟩
theorem Inv.fresh(I:Inv X pins σ H s):H s.heap.objs.size=none:=I.hok.fresh (Nat.le_refl _)
theorem Inv.afZ(I:Inv X pins σ H s)(hH:H l=some (.lst xs)):xs.length<=sizeLine/\∃(its:List Value) (n:Nat),Vals xs its/\xs.length=its.length/\s.heap.get? l=some {cls:=.type "list",data:=.seq its.toArray n}:=by
 obtain⟨z,its,n,r,e⟩:=I.hok l _ hH
 exact⟨z,its,n,r,r.length,e⟩
theorem af0{n:Nat}(h:n<=sizeLine):Builtin.List.listTooLong n=false:=by
 unfold Builtin.List.listTooLong
 exact decide_eq_false (by lia)
end
section
variable{X:Cx}
def Ma:V->List V->Hp->VK->Prop:=λx vs H Q=>∃l xs y,x=.ref l/\vs=[y]/\H l=some (.lst xs)/\xs.length<sizeLine/\Q .non (upd H l (.lst (xs++[y])))
theorem cD:MtM X "list.append" Ma:=by
 intro pins s σ H x vs v us Q I rx rv h
 obtain⟨l,xs,y,rfl,rfl,hH,hz,q⟩:=h
 cases rx
 obtain⟨u,rfl,ru⟩:=rv.one
 obtain⟨z,its,n,r,hl,e⟩:=I.afZ hH
 refine call_meets F.slot_list_append ⟨_,e,rfl⟩ F.entry_list_append (F.args_list_append_2 _ _) (PySem.list_append l its.toArray n u (by rw[List.size_toArray];lia)) ⟨e,?_⟩
 refine⟨.non,_,I.amj (its':=its++[u]) hH e (by simp) (r.append (.cons ru .nil)) ?_,rfl,q⟩
 rw[List.length_append,List.length_singleton]
 lia
def azw:V->List V->Hp->VK->Prop:=λx vs H Q=>∃l xs y,x=.ref l/\vs=[]/\H l=some (.lst xs)/\xs[xs.length - 1]? = some y/\Q y (upd H l (.lst xs.dropLast))
theorem amk:MtM X "list.pop" azw:=by
 intro pins s σ H x vs v us Q I rx rv h
 obtain⟨l,xs,y,rfl,rfl,hH,hy,q⟩:=h
 cases rx
 have hus:=rv.zero
 subst hus
 obtain⟨z,its,n,r,hl,e⟩:=I.afZ hH
 obtain⟨u,hu,ru⟩:=r.get hy
 have hy':its.toArray[its.toArray.size - 1]? = some u:=by
  show its.toArray[its.length - 1]? = some u
  rw[<-Array.getElem?_toList,<-hl]
  exact hu
 refine call_meets F.slot_list_pop ⟨_,e,rfl⟩ F.entry_list_pop (F.args_list_pop_1 _) (MeetsSeq.list_pop_last l its.toArray n u hy' (by rw[List.size_toArray];lia)) ⟨e,?_⟩
 refine⟨y,_,I.amj (its':=its.dropLast) hH e ?_ r.dropLast ?_,ru,q⟩
 ·show its.toArray.eraseIdxIfInBounds (its.toArray.size - 1)=its.dropLast.toArray
  rw[List.size_toArray,List.eraseIdxIfInBounds_toArray,aiz]
 ·rw[List.length_dropLast]
  lia
def asB:V->List V->Hp->VK->Prop:=λx vs H Q=>∃l xs i k y,x=.ref l/\vs=[.int i]/\H l=some (.lst xs)/\-(2 ^ 63)<=i/\i<2 ^ 63/\seqIndex? i xs.length=some k/\xs[k]? = some y/\Q y (upd H l (.lst (xs.eraseIdx k)))
theorem Ey:MtM X "list.pop" asB:=by
 intro pins s σ H x vs v us Q I rx rv h
 obtain⟨l,xs,i,k,y,rfl,rfl,hH,h1,h2,hk,hy,q⟩:=h
 cases rx
 obtain⟨u,rfl,ru⟩:=rv.one
 obtain⟨t,rfl⟩:=ru
 obtain⟨z,its,n,r,hl,e⟩:=I.afZ hH
 obtain⟨w,hw,rw'⟩:=r.get hy
 refine call_meets F.slot_list_pop ⟨_,e,rfl⟩ F.entry_list_pop (F.args_list_pop_2 _ _)
  (MeetsSeq.list_pop_at l its.toArray n i t k w (fitsIndex_both h1 h2) (by rw[List.size_toArray,<-hl];exact hk) (by rw[<-Array.getElem?_toList];exact hw) (by rw[List.size_toArray];lia)) ⟨e,?_⟩
 refine⟨y,_,I.amj (its':=its.eraseIdx k) hH e ?_ (r.eraseIdx k) ?_,rw',q⟩
 ·show its.toArray.eraseIdxIfInBounds k=(its.eraseIdx k).toArray
  rw[List.eraseIdxIfInBounds_toArray]
 ·have:=ab8 xs k
  lia
def asC:R2:=λx y H Q=>∃l b xs zs,x=.ref l/\y=.ref b/\H l=some (.lst xs)/\H b=some (.lst zs)/\xs.length+zs.length<=sizeLine/\∀p,H p=none->Q (.ref p) (upd H p (.lst (xs++zs)))
theorem m6:WK X (binaryOp .Add) asC:=by
 intro pins s σ H x y v u Q I rx ry h
 obtain⟨l,b,xs,zs,rfl,rfl,hH,hB,hz,q⟩:=h
 cases rx
 cases ry
 obtain⟨z,its,n,r,hl,e⟩:=I.afZ hH
 obtain⟨z2,its2,n2,r2,hl2,e2⟩:=I.afZ hB
 refine PySem.P.add_list e e2 ?_ (by rw[List.size_toArray,List.size_toArray];lia)
 have ea:its.toArray++its2.toArray=(its++its2).toArray:=by simp
 rw[ea]
 exact⟨.ref _,_,I.asA (t':=s.toks) (r.append r2) (by rw[List.length_append];lia),rfl,q _ I.fresh⟩
def azx:R2:=λx y H Q=>∃l k xs,x=.ref l/\y=.int k/\H l=some (.lst xs)/\-(2 ^ 63)<=k/\k<2 ^ 63/\xs.length*k.toNat<=sizeLine/\
 ∀p,H p=none->Q (.ref p) (upd H p (.lst (List.replicate k.toNat xs).flatten))
theorem len_rep{α:Type}(xs:List α)(k:Nat):(List.replicate k xs).flatten.length=k*xs.length:=by
 induction k with
 | zero=>simp
 | succ k ih=>rw[List.replicate_succ,List.flatten_cons,List.length_append,ih,Nat.succ_mul,Nat.add_comm]
theorem aml:WK X (binaryOp .Mult) azx:=by
 intro pins s σ H x y v u Q I rx ry h
 obtain⟨l,k,xs,rfl,rfl,hH,h1,h2,hz,q⟩:=h
 cases rx
 obtain⟨t,rfl⟩:=ry
 obtain⟨z,its,n,r,hl,e⟩:=I.afZ hH
 have hlen:its.toArray.size*k.toNat<=sizeLine:=by rw[List.size_toArray,<-hl];exact hz
 have azy:¬its.toArray.size*k.toNat > (2 ^ 63 - 1) / 8:=by
  have:(sizeLine:Nat)<=(2 ^ 63 - 1) / 8:=by decide
  lia
 have hfit:¬(!Builtin.List.listFitsIndex k)=true:=by
  rw[fitsIndex_both h1 h2]
  exact Bool.false_ne_true
 have awi:¬Builtin.List.listTooLong (its.toArray.size*k.toNat)=true:=by
  rw[af0 hlen]
  exact Bool.false_ne_true
 have hnew:List.foldl (λx1 x2=>x1++x2) #[] (List.replicate (if its.toArray.isEmpty=true then 0 else k.toNat) its.toArray)=(List.replicate k.toNat its).flatten.toArray:=by
  have f0:∀m:Nat,List.foldl (λx1 x2=>x1++x2) #[] (List.replicate m its.toArray)=(List.replicate m its).flatten.toArray:=λm=>by
   have:=foldl_rep its m []
   rw[List.nil_append]at this
   exact this
  rw[f0]
  cases its with
  | nil=>simp
  | cons a r'=>rw[if_neg (by simp)]
 refine wpAny_binaryOp_repeat_ref (T:="list") (U:="int") (by decide) ⟨_,e,rfl⟩ (λs'=>typeIs_int s' k t) noFill_list_mul F.fills_int_mul F.slot_int_rmul repeat_list F.slot_int_index.lookup
  (call_meets F.slot_int_rmul (typeIs_int s k t) F.entry_int_rmul (F.args_int_rmul_2 _ _) (int___rmul___int_list k t l its.toArray n)
    ⟨e,rfl,⟨_,e,rfl⟩,call_meets F.slot_list_mul ⟨_,e,rfl⟩ F.entry_list_mul (F.args_list_mul_2 _ _) (AutoListH.list___mul___list_int_3 l its.toArray n k t hfit azy awi) ⟨e,?_⟩⟩)
 rw[hnew]
 exact⟨.ref _,_,I.asA (t':=s.toks) (r.rep k.toNat) (by rw[len_rep,Nat.mul_comm];exact hz),rfl,q _ I.fresh⟩
end
section
variable{prog:Program}{w:World}{A:Around}{E:Value->Shared->Prop}{s:Shared}
end
section
variable{X:Cx}
end
section
variable{κ:Type}[DecidableEq κ]
def fW(kvs:List (κ×V))(k:κ):Option V:=(kvs.find? λkv=>decide (kv.1=k)).map (·.2)
def putK(kvs:List (κ×V))(k:κ)(v:V):List (κ×V) :=
 if(kvs.any λkv=>decide (kv.1=k))=true then kvs.map (λkv=>if kv.1=k then(kv.1,v)else kv)else kvs++[(k,v)]
def yj(kvs:List (κ×V))(k:κ):List (κ×V):=kvs.filter λkv=>decide (kv.1≠k)
theorem jT{p:κ×V}{r:List (κ×V)}{k:κ}(e:p.1=k):fW (p::r) k=some p.2:=by simp[fW,List.find?_cons,e]
theorem jU{p:κ×V}{r:List (κ×V)}{k:κ}(e:¬p.1=k):fW (p::r) k=fW r k:=by simp[fW,List.find?_cons,e]
theorem Mf(k:κ):∀kvs:List (κ×V),(kvs.any λkv=>decide (kv.1=k))=(fW kvs k).isSome
 | []=>rfl
 | p::r=>by
   rw[List.any_cons]
   by_cases e:p.1=k
   ·simp only[jT e,decide_eq_true e,Bool.true_or,Option.isSome_some]
   ·rw[jU e,decide_eq_false e,Bool.false_or];exact Mf k r
theorem af1(k j:κ)(y:V):∀kvs:List (κ×V),fW (kvs.map λkv=>if kv.1=k then(kv.1,y)else kv) j=(fW kvs j).map λx=>if j=k then y else x
 | []=>rfl
 | p::r=>by
   have ih:=af1 k j y r
   rw[List.map_cons]
   by_cases h:p.1=k
   ·rw[if_pos h]
    by_cases e:p.1=j
    ·rw[jT (p:=(p.1,y)) e,jT e,Option.map_some,if_pos (e.symm.trans h)]
    ·rw[jU (p:=(p.1,y)) e,jU e,ih]
   ·rw[if_neg h]
    by_cases e:p.1=j
    ·rw[jT (p:=p) e,jT e,Option.map_some,if_neg (λz=>h (e.trans z))]
    ·rw[jU (p:=p) e,jU e,ih]
theorem ab9(k j:κ)(y:V):∀kvs:List (κ×V),fW kvs k=none->fW (kvs++[(k,y)]) j=if j=k then some y else fW kvs j
 | [],_=>by
   by_cases e:k=j
   ·rw[if_pos e.symm];exact jT (p:=(k,y)) e
   ·rw[if_neg (λz=>e z.symm)];exact jU (p:=(k,y)) e
 | p::r,hn=>by
   rw[List.cons_append]
   have hk:¬p.1=k:=λz=>by rw[jT z]at hn;cases hn
   rw[jU hk]at hn
   have ih:=ab9 k j y r hn
   by_cases e:p.1=j
   ·rw[jT e,jT e,if_neg (λz=>hk (e.trans z))]
   ·rw[jU e,jU e,ih]
theorem amm(kvs:List (κ×V))(k j:κ)(y:V):fW (putK kvs k y) j=if j=k then some y else fW kvs j:=by
 unfold putK
 by_cases a:(kvs.any λkv=>decide (kv.1=k))=true
 ·rw[if_pos a,af1]
  rw[Mf]at a
  by_cases e:j=k
  ·obtain⟨x,hx⟩:=Option.isSome_iff_exists.mp a
   rw[if_pos e,e,hx,Option.map_some,if_pos rfl]
  ·rw[if_neg e]
   cases fW kvs j with
   | none=>rfl
   | some x=>rw[Option.map_some,if_neg e]
 ·rw[if_neg a]
  refine ab9 k j y kvs ?_
  rw[Mf]at a
  cases q:fW kvs k with
  | none=>rfl
  | some x=>rw[q]at a;exact(a rfl).elim
theorem vJ(kvs:List (κ×V))(k:κ)(v:V):(putK kvs k v).length<=kvs.length+1:=by
 unfold putK
 split
 ·rw[List.length_map];lia
 ·rw[List.length_append,List.length_cons,List.length_nil];lia
theorem Dh.Qv{o:Option V}{u:Option Value}(r:Dh o u):o.isSome=u.isSome:=by
 cases o with
 | none=>cases u with
   | none=>rfl
   | some _=>exact(show False from r).elim
 | some _=>cases u with
   | none=>exact(show False from r).elim
   | some _=>rfl
theorem KV.val{kvs:List (κ×V)}{vs:List (κ×Value)}(r:KV kvs vs)(k:κ):Dh (fW kvs k) (valueAt vs k):=by
 unfold KV at r
 induction r with
 | nil=>exact True.intro
 | @cons p q ps qs h t ih =>
   obtain⟨h1,h2⟩:=h
   by_cases e:p.1=k
   ·have e':q.1=k:=h1.symm.trans e
    have b:valueAt (q::qs) k=some q.2:=by simp[valueAt,List.find?_cons,e']
    rw[jT e,b];exact h2
   ·have e':¬q.1=k:=λz=>e (h1.trans z)
    have b:valueAt (q::qs) k=valueAt qs k:=by simp[valueAt,List.find?_cons,e']
    rw[jU e,b];exact ih
theorem KV.any{kvs:List (κ×V)}{vs:List (κ×Value)}(r:KV kvs vs)(k:κ):(kvs.any λkv=>decide (kv.1=k))=vs.any λkv=>decide (kv.1=k):=by
 unfold KV at r
 induction r with
 | nil=>rfl
 | cons h t ih=>rw[List.any_cons,List.any_cons,ih,h.1]
theorem KV.repl{kvs:List (κ×V)}{vs:List (κ×Value)}(r:KV kvs vs)(k:κ){y:V}{u:Value}(ry:RelV y u) :
 KV (kvs.map λkv=>if kv.1=k then(kv.1,y)else kv) (vs.map λkv=>if kv.1=k then(kv.1,u)else kv):=by
 unfold KV at r ⊢
 induction r with
 | nil=>exact .nil
 | @cons p q ps qs h t ih =>
   rw[List.map_cons,List.map_cons]
   refine .cons ?_ ih
   obtain⟨h1,h2⟩:=h
   by_cases e:p.1=k
   ·rw[if_pos e,if_pos (h1.symm.trans e)];exact⟨h1,ry⟩
   ·rw[if_neg e,if_neg (λz=>e (h1.trans z))];exact⟨h1,h2⟩
theorem KV.put{kvs:List (κ×V)}{vs:List (κ×Value)}(r:KV kvs vs)(k:κ){y:V}{u:Value}(ry:RelV y u):KV (putK kvs k y) (stored vs k u):=by
 unfold putK stored
 rw[r.any k]
 by_cases e:(vs.any λkv=>decide (kv.1=k))=true
 ·rw[if_pos e,if_pos e];exact r.repl k ry
 ·rw[if_neg e,if_neg e];exact Paired.snoc r ⟨rfl,ry⟩
theorem KV.drop{kvs:List (κ×V)}{vs:List (κ×Value)}(r:KV kvs vs)(k:κ):KV (yj kvs k) (without vs k):=by
 unfold KV at r ⊢
 unfold yj without
 induction r with
 | nil=>exact .nil
 | @cons p q ps qs h t ih =>
   obtain⟨h1,h2⟩:=h
   rw[List.filter_cons,List.filter_cons]
   by_cases e:p.1=k
   ·have a:¬decide (p.1≠k)=true:=by simp[e]
    have b:¬decide (q.1≠k)=true:=by simp[h1.symm.trans e]
    rw[if_neg a,if_neg b];exact ih
   ·have e':¬q.1=k:=λz=>e (h1.trans z)
    have a:decide (p.1≠k)=true:=by simp[e]
    have b:decide (q.1≠k)=true:=by simp[e']
    rw[if_pos a,if_pos b];exact .cons ⟨h1,h2⟩ ih
theorem KV.length{kvs:List (κ×V)}{vs:List (κ×Value)}(r:KV kvs vs):kvs.length=vs.length:=Paired.length r
theorem af2(kvs:List (κ×V))(k:κ):(yj kvs k).length<=kvs.length:=List.length_filter_le _ _
end
theorem W9{P:Program}{w:World}{k:Key}{u:Value}(r:RelV (kV k) u):(ik P w).is k u=true:=by
 cases k with
 | inl i=>obtain⟨t,e⟩:=(show ∃t,u=Value.int i t from r);subst e;exact afM P w i t
 | inr x=>obtain⟨t,e⟩:=(show ∃t,u=Value.str x t from r);subst e;exact afN P w x t
theorem aca{P:Program}{w:World}:∀{ks:List Key} {us:List Value},Vals (ks.map kV) us->ItemsAre (ik P w) ks us
 | [],_,r=>by rw[List.map_nil]at r;cases r;exact .nil
 | k::ks,_,r=>by
   rw[List.map_cons]at r
   cases r with
   | cons h t=>exact .cons (W9 h) (aca t)
abbrev KT(H:Hp):List (List Key×V)->List (List Key×Addr×Value)->Prop:=Paired λp q=>p.1=q.1/\H q.2.1=some (.tup (p.1.map kV))/\RelV p.2 q.2.2
theorem KT.val{H:Hp}{kvs:List (List Key×V)}{xs:List (List Key×Addr×Value)}(r:KT H kvs xs)(k:List Key):Dh (fW kvs k) ((atKey xs k).map (·.2)):=by
 induction r with
 | nil=>exact True.intro
 | @cons p q ps qs h t ih =>
   obtain⟨h1,_,h2⟩:=h
   by_cases e:p.1=k
   ·have e':q.1=k:=h1.symm.trans e
    have b:atKey (q::qs) k=some q.2:=by simp[atKey,List.find?_cons,e']
    rw[jT e,b];exact h2
   ·have e':¬q.1=k:=λz=>e (h1.trans z)
    have b:atKey (q::qs) k=atKey qs k:=by simp[atKey,List.find?_cons,e']
    rw[jU e,b];exact ih
theorem KT.repl{H:Hp}{kvs:List (List Key×V)}{xs:List (List Key×Addr×Value)}(r:KT H kvs xs)(k:List Key){y:V}{u:Value}(ry:RelV y u) :
 KT H (kvs.map λkv=>if kv.1=k then(kv.1,y)else kv) (xs.map (putAt k u)):=by
 induction r with
 | nil=>exact .nil
 | @cons p q ps qs h t ih =>
   rw[List.map_cons,List.map_cons]
   refine .cons ?_ ih
   obtain⟨h1,h2,h3⟩:=h
   unfold putAt
   by_cases e:p.1=k
   ·rw[if_pos e,if_pos (h1.symm.trans e)];exact⟨h1,h2,ry⟩
   ·rw[if_neg e,if_neg (λz=>e (h1.trans z))];exact⟨h1,h2,h3⟩
theorem KT.put{H:Hp}{kvs:List (List Key×V)}{xs:List (List Key×Addr×Value)}(r:KT H kvs xs)(k:List Key){b:Addr}{y:V}{u:Value}(hb:H b=some (.tup (k.map kV)))(ry:RelV y u) :
 KT H (putK kvs k y) (storedH xs k b u):=by
 have e:(kvs.any λkv=>decide (kv.1=k))=(atKey xs k).isSome:=by
  rw[Mf,(r.val k).Qv,Option.isSome_map]
 unfold putK storedH
 rw[e]
 by_cases q:(atKey xs k).isSome=true
 ·rw[if_pos q,if_pos q];exact r.repl k ry
 ·rw[if_neg q,if_neg q];exact Paired.snoc r ⟨rfl,hb,ry⟩
theorem KT.keeps{H H':Hp}{kvs:List (List Key×V)}{xs:List (List Key×Addr×Value)}(r:KT H kvs xs)(ht:∀b ys,H b=some (.tup ys)->H' b=some (.tup ys)):KT H' kvs xs :=
 Paired.asd r λ_ _ z=>⟨z.1,ht _ _ z.2.1,z.2.2⟩
section
variable{P:Program}{w:World}{H:Hp}{h:Heap}{a:Addr}
theorem arB{u:HO}(ok:Ih P w H h)(e:Rd H a u):fV P w H h a u:=e.ok ok
theorem af3{kvs:List (Key×V)}(ok:Ih P w H h)(e:Rd H a (.dK kvs)):kvs.length<=sizeLine/\(a == sysModules)=false/\∃vs,KV kvs vs/\h.DictOf (ik P w) a vs :=
 show fV P w H h a (.dK kvs)from arB ok e
theorem ajW{kvs:List (Key×V)}(ok:Ih P w H h)(e:H a=some (.dK kvs)):kvs.length<=sizeLine/\(a == sysModules)=false/\∃vs,KV kvs vs/\h.DictOf (ik P w) a vs:=af3 ok (.inl e)
theorem ac0{ks:List Key}(ok:Ih P w H h)(e:H a=some (.tup (ks.map kV))):(tupleKind (ik P w)).is h ks a:=by
 obtain⟨_,its,r,o,h1,h2,n,h3⟩:=(show fV P w H h a (.tup (ks.map kV))from ok a _ e)
 exact⟨o,its.toArray,n,h1,h2,h3,by simpa using aca r⟩
theorem af4{kvs:List (List Key×V)}(ok:Ih P w H h)(e:Rd H a (.dT kvs)):kvs.length<=sizeLine/\(a == sysModules)=false/\
 ∃xs,KT H kvs xs/\h.DictOfH (tupleKind (ik P w)) a xs:=by
 obtain⟨z,y,xs,r,o,es,ep,h1,h2,h3,h4,h5⟩:=(show fV P w H h a (.dT kvs)from arB ok e)
 refine⟨z,y,xs,r,o,es,ep,h1,h2,h3,h4,λx hx=>?_,h5⟩
 have all:∀{l:List (List Key×V)} {m:List (List Key×Addr×Value)},KT H l m->∀x∈m,(tupleKind (ik P w)).is h x.1 x.2.1:=by
  intro l m q
  induction q with
  | nil=>intro x hx;exact nomatch hx
  | @cons p q ps qs hq t ih =>
    intro x hx
    rcases List.mem_cons.mp hx with e | hx
    ·subst e
     exact ac0 ok (by rw[<-hq.1];exact hq.2.1)
    ·exact ih x hx
 exact all r x hx
theorem awj{kvs:List (List Key×V)}(ok:Ih P w H h)(e:H a=some (.dT kvs)):kvs.length<=sizeLine/\(a == sysModules)=false/\
 ∃xs,KT H kvs xs/\h.DictOfH (tupleKind (ik P w)) a xs:=af4 ok (.inl e)
end
def Ij(H:Hp)(a:Addr)(y:V)(r:Option V):Prop :=
 (∃kvs k,Rd H a (.dK kvs)/\y=kV k/\r=fW kvs k)\/∃kvs k b,Rd H a (.dT kvs)/\y=.ref b/\H b=some (.tup (k.map kV))/\r=fW kvs k
def aiA(H:Hp)(a:Addr)(y v:V)(H':Hp):Prop :=
 (∃kvs k,H a=some (.dK kvs)/\y=kV k/\kvs.length<sizeLine/\H'=upd H a (.dK (putK kvs k v)))\/
 ∃kvs k b,H a=some (.dT kvs)/\y=.ref b/\H b=some (.tup (k.map kV))/\kvs.length<sizeLine/\H'=upd H a (.dT (putK kvs k v))
theorem Ij.k{H:Hp}{a:Addr}{kvs:List (Key×V)}{k:Key}(e:H a=some (.dK kvs)):Ij H a (kV k) (fW kvs k):=.inl ⟨kvs,k,.inl e,rfl,rfl⟩
theorem aiA.k{H:Hp}{a:Addr}{kvs:List (Key×V)}{k:Key}{v:V}(e:H a=some (.dK kvs))(hl:kvs.length<sizeLine):aiA H a (kV k) v (upd H a (.dK (putK kvs k v))):=.inl ⟨kvs,k,e,rfl,hl,rfl⟩
section
variable{X:Cx}{pins:List (Addr×Obj)}{σ:St}{H:Hp}{s:Shared}{a:Addr}{y v:V}{u r:Value}{o:Option V}{A:Around}{E:Value->Shared->Prop}
theorem Inv.big(I:Inv X pins σ H s):sysModules<s.heap.objs.size:=by
 have h:mainGlobals<s.heap.objs.size:=(I.mod.glob.keeps I.bk).lt
 exact Nat.lt_trans (by decide) h
theorem akY{Q:Value->Shared->Prop}(hu:A.units+1<cLine)(I:Inv X pins σ H s)(g:Ij H a y (some v))(ry:RelV y u)(h:∀w' s',Inv X pins σ H s'->RelV v w'->Q w' s') :
 wpAny (model X.prog X.w) A (getItem (.ref a) u) Q E s:=by
 rcases g with ⟨kvs,k,e,ey,l⟩ | ⟨kvs,k,b,e,ey,eb,l⟩
 ·subst ey
  obtain⟨z,hd,vs,rel,dd⟩:=af3 I.hok e
  obtain⟨w',hw,rw'⟩:=Dh.some_of (v:=v) (o:=valueAt vs k) (by rw[l];exact rel.val k)
  exact wpAny_getItem_of (W9 ry) dd.mapOf hw (h w' _ (I.tok _) rw')
 ·subst ey
  cases (show u=Value.ref b from ry)
  obtain⟨z,hd,xs,rel,dd⟩:=af4 I.hok e
  obtain⟨w',hw,rw'⟩:=Dh.some_of (v:=v) (o:=(atKey xs k).map (·.2)) (by rw[l];exact rel.val k)
  obtain⟨p,hp,hp2⟩:=Option.map_eq_some_iff.mp hw
  refine wpAny_getItem_heap (tupleKind_room_in1 hu) (ac0 I.hok eb) dd hp ?_
  rw[hp2]
  exact h w' _ (I.tok _) rw'
theorem azz{Q:Value->Shared->Prop}(hu:A.units+1<cLine)(I:Inv X pins σ H s)(g:Ij H a y o)(ry:RelV y u)(h:∀s',Inv X pins σ H s'->Q (.bool o.isSome) s') :
 wpAny (model X.prog X.w) A (compareOp .In u (.ref a)) Q E s:=by
 rcases g with ⟨kvs,k,e,ey,l⟩ | ⟨kvs,k,b,e,ey,eb,l⟩
 ·subst ey
  obtain⟨z,hd,vs,rel,dd⟩:=af3 I.hok e
  refine wpAny_in_of (W9 ry) hd dd.mapOf ?_
  rw[<-(rel.val k).Qv,<-l]
  exact h _ (I.tok _)
 ·subst ey
  cases (show u=Value.ref b from ry)
  obtain⟨z,hd,xs,rel,dd⟩:=af4 I.hok e
  refine wpAny_in_heap (tupleKind_room_in1 hu) (ac0 I.hok eb) hd dd ?_
  have q:=(rel.val k).Qv
  rw[Option.isSome_map]at q
  rw[<-q,<-l]
  exact h _ (I.tok _)
theorem WL{h':Heap}{t':Nat}{ob:HO}(I:Inv X pins σ H s)(mu:Mut (H a))(hs:Heap.SameBut a s.heap h')(he:∃q,h'.get? a=some q)(new:fV X.prog X.w (upd H a ob) h' a ob) :
 Inv X pins σ (upd H a ob) {s with heap:=h',toks:=t'} :=
 I.write (x:=a) (e:=a) mu (.inl rfl) (λb q hb z=>(hs.2 b hb).trans z) he new
theorem aiB{P:Program}{w:World}{H':Hp}{h':Heap}{kvs:List (Key×V)}{vs:List (Key×Value)}(z:kvs.length<=sizeLine)(hd:(a == sysModules)=false)(rel:KV kvs vs)(dd:h'.DictOf (ik P w) a vs) :
 fV P w H' h' a (.dK kvs):=⟨z,hd,vs,rel,dd⟩
theorem akZ{H':Hp}{Q:Unit->Shared->Prop}(hu:A.units+1<cLine)(I:Inv X pins σ H s)(g:aiA H a y v H')(ry:RelV y u)(rv:RelV v r)(h:∀s',Inv X pins σ H' s'->Q () s') :
 wpAny (model X.prog X.w) A (setItem (.ref a) u r) Q E s:=by
 rcases g with ⟨kvs,k,e,ey,l,eH⟩ | ⟨kvs,k,b,e,ey,eb,l,eH⟩
 ·subst ey eH
  obtain⟨z,hd,vs,rel,dd⟩:=ajW I.hok e
  have hz:vs.length<=sizeLine:=by rw[<-rel.length];exact z
  have hl:(putK kvs k v).length<=sizeLine:=by have:=vJ kvs k v;lia
  refine wpAny_setItem_pairs (hsz:=hz) (W9 ry) dd λh' dd' hs=>h _ ?_
  have he:∃q,h'.get? a=some q:=let ⟨q,_,_,hq,_⟩:=dd';⟨q,hq⟩
  exact WL I (by rw[e];exact True.intro) hs he (aiB hl hd (rel.put k rv) dd')
 ·subst ey eH
  cases (show u=Value.ref b from ry)
  obtain⟨z,hd,xs,rel,dd⟩:=awj I.hok e
  have hz:xs.length<=sizeLine:=by rw[<-Paired.length rel];exact z
  have hl:(putK kvs k v).length<=sizeLine:=by have:=vJ kvs k v;lia
  refine wpAny_setItem_heap (hsz:=hz) (tupleKind_room_in1 hu) (ac0 I.hok eb) dd λh' dd' hs=>h _ ?_
  obtain⟨q,es,ep,hq,h2,h3,h4,_,h5⟩:=dd'
  refine WL I (by rw[e];exact True.intro) hs ⟨q,hq⟩ ⟨hl,hd,_,(rel.put k eb rv).keeps λc ys ec=>?_,q,es,ep,hq,h2,h3,h4,h5⟩
  rw[aq (ju ec e (λz=>nomatch z))]
  exact ec
end
section
variable{X:Cx}{pins:List (Addr×Obj)}{σ:St}{H:Hp}{s:Shared}{a:Addr}{kvs:List (Key×V)}{k:Key}{u:Value}{A:Around}{E:Value->Shared->Prop}
theorem awk{v:V}{more:List Value}{Q:Value->Shared->Prop}(I:Inv X pins σ H s)(e:H a=some (.dK kvs))(ry:RelV (kV k) u)(l:fW kvs k=some v)(hm:more=[]\/∃x,more=[x])
 (h:∀w' s',Inv X pins σ (upd H a (.dK (yj kvs k))) s'->RelV v w'->Q w' s'):wpAny (model X.prog X.w) A (call (.builtin "dict.pop") (.ref a::u::more)) Q E s:=by
 obtain⟨z,hd,vs,rel,dd⟩:=ajW I.hok e
 obtain⟨w',hw,rw'⟩:=Dh.some_of (v:=v) (o:=valueAt vs k) (by rw[<-l];exact rel.val k)
 have hp:(keyPart u).isSome=true:=by
  cases k with
  | inl i=>obtain⟨t,q⟩:=(show ∃t,u=Value.int i t from ry);subst q;rfl
  | inr x=>obtain⟨t,q⟩:=(show ∃t,u=Value.str x t from ry);subst q;rfl
 have ha:argsOk "dict.pop" ⟨.ref a::u::more,[]⟩:=by
  rcases hm with q | ⟨x,q⟩
  ·subst q;exact PySem.F.args_dict_pop_2 _ _
  ·subst q;exact PySem.F.args_dict_pop_3 _ _ _
 refine call_meetsIn PySem.F.slot_dict_pop dd.typeIs PySem.F.entry_dict_pop ha (meets_dict_pop_there (ik X.prog X.w) a (W9 ry) more hm hp)
  ⟨vs,w',dd,by rw[<-rel.length];exact z,hw,λh' dd' hs=>h w' _ ?_ rw'⟩
 have he:∃q,h'.get? a=some q:=let ⟨q,_,_,hq,_⟩:=dd';⟨q,hq⟩
 exact WL I (by rw[e];exact True.intro) hs he (aiB (Nat.le_trans (af2 kvs k) z) hd (rel.drop k) dd')
theorem asD{r:Value}{Q:Value->Shared->Prop}(I:Inv X pins σ H s)(e:H a=some (.dK kvs))(ry:RelV (kV k) u)(l:fW kvs k=none)(h:∀s',Inv X pins σ H s'->Q r s') :
 wpAny (model X.prog X.w) A (call (.builtin "dict.pop") [.ref a,u,r]) Q E s:=by
 obtain⟨z,hd,vs,rel,dd⟩:=ajW I.hok e
 have hn:valueAt vs k=none:=Dh.none_of (by rw[<-l];exact rel.val k)
 have hp:(keyPart u).isSome=true:=by
  cases k with
  | inl i=>obtain⟨t,q⟩:=(show ∃t,u=Value.int i t from ry);subst q;rfl
  | inr x=>obtain⟨t,q⟩:=(show ∃t,u=Value.str x t from ry);subst q;rfl
 exact call_meetsIn PySem.F.slot_dict_pop dd.typeIs PySem.F.entry_dict_pop (PySem.F.args_dict_pop_3 _ _ _) (meets_dict_pop_default (ik X.prog X.w) a (W9 ry) hd hp r) ⟨vs,dd,hn,h _ (I.tok _)⟩
end
def asF(i:Expr):Prop:=∀ov iv,subscripted i false ov iv=operate [ov,iv] (getItem ov iv)
theorem ajX{prog:Program}{w:World}{A:Around}{E:Value->Shared->Prop}{s:Shared}{env:Env}{value slice:Expr}{pos:Pos}{T id:String}{Q:Value->Shared->Prop}
 (hl:typeLookup (.type T) "__getitem__"=pure (some (.builtin id))) (hs:asF slice)
 (h:wpAny (model prog w) A (eval value env) (λo s₁=>wpAny (model prog w) A (eval slice env) (λi s₂=>s₂.TypeIs o T/\wpAny (model prog w) A (getItem o i) Q E s₂) E s₁) E s) :
 wpAny (model prog w) A (eval (.Subscript value slice pos) env) Q E s:=by
 refine Subscript_ (wpAny_mono h (λo s₁ h₁=>wpAny_mono h₁ (λi s₂ h₂=>?_) λ_ _ x=>x) λ_ _ x=>x)
 obtain⟨hT,h₂⟩:=h₂
 unfold subscriptTail
 refine wpAny_bind ?_
 rw[getitemInPython_of_ne hT.not_modules]
 refine wpAny_bind (wpAny_specialOf hT hl ?_)
 have fin:wpAny (model prog w) A (subscripted slice false o i) (λr s₃=>wpAny (model prog w) A (letTemporaryGo value o r >>= λ_=>pure r) Q E s₃) E s₂:=by
  rw[hs o i]
  exact wpAny_operating (wpAny_mono h₂ (λr s₃ h₃=>wpAny_bind (wpAny_letTemporaryGo (wpAny_pure h₃))) λ_ _ x=>x)
 first
  | exact wpAny_pure (wpAny_bind fin)
  | exact wpAny_bind (wpAny_pure (wpAny_bind fin))
  | exact wpAny_bind fin
theorem af5{X:Cx}{pins:List (Addr×Obj)}{σ:St}{H:Hp}{s:Shared}{a:Addr}{y:V}{o:Option V}(I:Inv X pins σ H s)(g:Ij H a y o):s.TypeIs (.ref a) "dict":=by
 rcases g with ⟨kvs,k,e,_,_⟩ | ⟨kvs,k,b,e,_,_,_⟩
 ·obtain⟨_,_,vs,_,dd⟩:=af3 I.hok e
  exact dd.typeIs
 ·obtain⟨_,_,xs,_,dd⟩:=af4 I.hok e
  exact dd.typeIs
def Xa(td ty:TE):TE:=λσ H Q=>td σ H λx H1=>ty σ H1 λy H2=>∃a v,x=.ref a/\Ij H2 a y (some v)/\Q v H2
def azA(ty td:TE):TE:=λσ H Q=>ty σ H λy H1=>td σ H1 λx H2=>∃a o,x=.ref a/\Ij H2 a y o/\Q (.bl o.isSome) H2
def awl(td ty tv:TE):TS:=λD σ H=>tv σ H λv H1=>td σ H1 λx H2=>ty σ H2 λy H3=>∃a H4,x=.ref a/\aiA H3 a y v H4/\D.nx σ H4
section
variable{X:Cx}{o i e value:Expr}{pos pos' tpos:Pos}{td ty tv:TE}
theorem bH(hu:X.A.units+1<cLine)(ho:PE X o td)(hi:PE X i ty)(hs:asF i):PE X (.Subscript o i pos) (Xa td ty):=by
 intro pins s σ H Q I h
 refine ajX PySem.F.slot_dict_getitem.lookup hs (gq (ho pins s σ H _ I h) λu s1 hz=>lA hz λx H1 I1 rx q1=>gq (hi pins s1 σ H1 _ I1 q1) λiv s2 hz=>lA hz λy H2 I2 ry ⟨a,v,ex,g,q2⟩=>?_)
 subst ex
 obtain rfl:u=Value.ref a:=rx
 exact⟨af5 I2 g,akY hu I2 g ry λw' s3 I3 rw'=>⟨v,H2,I3,rw',q2⟩⟩
theorem asG(hu:X.A.units+1<cLine)(hi:PE X i ty)(ho:PE X o td):PC X .In i o (azA ty td):=by
 intro pins s σ H Q I h
 refine gq (hi pins s σ H _ I h) λiv s1 hz=>lA hz λy H1 I1 ry q1=>gq (ho pins s1 σ H1 _ I1 q1) λu s2 hz=>lA hz λx H2 I2 rx ⟨a,ov,ex,g,q2⟩=>?_
 subst ex
 obtain rfl:u=Value.ref a:=rx
 exact azz hu I2 g ry λs3 I3=>⟨.bl ov.isSome,H2,I3,rfl,q2⟩
theorem lQ(hu:X.A.units+1<cLine)(ho:PE X o td)(hi:PE X i ty)(hv:PE X value tv)(hs:swapsWith value (some (.Subscript o i pos')) pos.line X.env=pure false) :
 PS X (.Assign [.Subscript o i pos'] value pos) (awl td ty tv):=by
 intro pins s σ H D I h
 refine wpAny_Assign_Subscript (gq (hv pins s σ H _ I h) λr s1 hz=>lA hz λv H1 I1 rv q1=>gq (ho pins s1 σ H1 _ I1 q1) λu s2 hz=>lA hz λx H2 I2 rx q2=>gq (hi pins s2 σ H2 _ I2 q2) λiv s3 hz=>lA hz λy H3 I3 ry ⟨a,H4,ex,g,q3⟩=>?_) hs
 subst ex
 obtain rfl:u=Value.ref a:=rx
 exact akZ hu I3 g ry rv λs4 I4=>⟨σ,H4,I4,q3⟩
end
theorem af6{P:Program}{w:World}{H:Hp}(h:Heap)(hb:sysModules<h.objs.size):fV P w H (h.push {cls:=.type "dict",data:=.dict #[]}) h.objs.size (.dK []) :=
 ⟨Nat.zero_le _,beq_eq_false_iff_ne.mpr (Ne.symm (Nat.ne_of_lt hb)),[],.nil,Heap.DictOf.new h⟩
def asH:TE:=λ_ H Q=>∀p,H p=none->Q (.ref p) (upd H p (.dK []))
section
variable{X:Cx}{pos:Pos}
theorem amo:PE X (.Dict [] [] pos) asH:=λpins s σ H Q I h =>
 wpAny_Dict_empty ⟨.ref s.heap.objs.size,_,I.laid (a:=s.heap.objs.size) (o:=.dK []) (t':=s.toks) (λ_ _ q=>Heap.get?_push_of_some _ q) (Nat.le_refl _) (af6 s.heap I.big),rfl,h _ (I.hok.fresh (Nat.le_refl _))⟩
end
def aiC:List (TE×TE)->St->Hp->(List (V×V)->Hp->Prop)->Prop
 | [],_,H,Q=>Q [] H
 | (tk,tv)::r,σ,H,Q=>tk σ H λx H1=>tv σ H1 λy H2=>aiC r σ H2 λps H3=>Q ((x,y)::ps) H3
abbrev VV:List (V×V)->List (Value×Value)->Prop:=Paired λp q=>RelV p.1 q.1/\RelV p.2 q.2
def PPs(X:Cx)(pos:Pos)(keys:List (Option Expr))(values:List Expr)(trs:List (TE×TE)):Prop :=
 ∀(pins:List (Addr×Obj)) (s:Shared) (σ:St) (H:Hp) (Q:List (V×V)->Hp->Prop),Inv X pins σ H s->aiC trs σ H Q->
  wpAny (model X.prog X.w) X.A (evalPairs (pairTrees keys values X.env pos)) (λvs s'=>∃ps H',Inv X pins σ H' s'/\VV ps vs/\Q ps H') X.xe s
theorem ajY{X:Cx}{pos:Pos}:PPs X pos [] [] []:=λpins s σ H Q I h=>pairTrees_nil_walk ⟨[],H,I,.nil,h⟩
theorem m7{X:Cx}{pos:Pos}{k v:Expr}{ks:List (Option Expr)}{vs:List Expr}{tk tv:TE}{trs:List (TE×TE)}(hk:PE X k tk)(hv:PE X v tv)(hr:PPs X pos ks vs trs) :
 PPs X pos (some k::ks) (v::vs) ((tk,tv)::trs):=λpins s σ H Q I h =>
 pairTrees_cons_walk (gq (hk pins s σ H _ I h) λu s1 hz=>lA hz λx H1 I1 rx q1=>gq (hv pins s1 σ H1 _ I1 q1) λw2 s2 hz=>lA hz λy H2 I2 ry q2 =>
  gq (hr pins s2 σ H2 _ I2 q2) λws s3 hz=>lA hz λps H3 I3 rel q3=>⟨(x,y)::ps,H3,I3,.cons ⟨rx,ry⟩ rel,q3⟩)
def JM(kvs more:List (Key×V)):List (Key×V):=more.foldl (λacc kv=>putK acc kv.1 kv.2) kvs
theorem KV.merge:∀{more:List (Key×V)} {rs:List (Key×Value)} {kvs:List (Key×V)} {vs:List (Key×Value)},KV more rs->KV kvs vs->KV (JM kvs more) (merged vs rs):=by
 intro more rs kvs vs r
 unfold KV at r
 induction r generalizing kvs vs with
 | nil=>intro q;exact q
 | @cons p q ps qs h t ih =>
   intro r0
   have e:KV (putK kvs p.1 p.2) (stored vs q.1 q.2):=by
    have:=r0.put p.1 h.2
    rw[<-h.1];exact this
   exact ih e
theorem Ir:∀(more kvs:List (Key×V)),(JM kvs more).length<=kvs.length+more.length
 | [],kvs=>by show kvs.length<=kvs.length+0;lia
 | p::r,kvs=>by
   have h1:=Ir r (putK kvs p.1 p.2)
   have h2:=vJ kvs p.1 p.2
   show(JM (putK kvs p.1 p.2) r).length<=_
   rw[List.length_cons];lia
theorem Xb{P:Program}{w:World}:∀{kvs:List (Key×V)} {ws:List (Value×Value)},VV (kvs.map λkv=>(kV kv.1,kv.2)) ws->∃rs,Carries (ik P w) ws rs/\KV kvs rs
 | [],_,r=>by rw[List.map_nil]at r;cases r;exact⟨[],True.intro,.nil⟩
 | p::kvs,_,r=>by
   rw[List.map_cons]at r
   cases r with
   | @cons a b as bs h t =>
     obtain⟨rs,c,q⟩:=Xb (P:=P) (w:=w) t
     obtain⟨b1,b2⟩:=b
     exact⟨(p.1,b2)::rs,⟨W9 h.1,rfl,c⟩,.cons ⟨rfl,h.2⟩ q⟩
def awm(trs:List (TE×TE)):TE:=λσ H Q=>∀p,H p=none->aiC trs σ (upd H p (.dK [])) λps H2=>H2 p=some (.dK [])/\∃kvs:List (Key×V),ps=kvs.map (λkv=>(kV kv.1,kv.2))/\kvs.length<=15/\Q (.ref p) (upd H2 p (.dK (JM [] kvs)))
theorem ajZ{X:Cx}{pos:Pos}{keys:List (Option Expr)}{values:List Expr}{trs:List (TE×TE)}(h:PPs X pos keys values trs)(hall:keys.all (·.isSome)=true)(hl:keys.length=values.length)(h0:keys≠[])
 (h15:keys.length<=15):PE X (.Dict keys values pos) (awm trs):=by
 intro pins s σ H Q I q
 have hn:=I.hok.fresh (Nat.le_refl s.heap.objs.size)
 have I1:=I.laid (a:=s.heap.objs.size) (o:=.dK []) (h':=s.heap.push {cls:=.type "dict",data:=.dict #[]}) (t':=s.toks) (λ_ _ q=>Heap.get?_push_of_some _ q) (Nat.le_refl _) (af6 s.heap I.big)
 refine wpAny_Dict_walk (knd:=ik X.prog X.w) hall hl h0 h15 (gq (h pins _ σ _ _ I1 (q _ hn)) λws s2 hz=>lA hz λps H2 I2 rel ⟨e,kvs,ep,lk,q2⟩=>?_)
 subst ep
 obtain⟨rs,c,rk⟩:=Xb (P:=X.prog) (w:=X.w) rel
 obtain⟨z,hd,vs0,r0,dd⟩:=ajW I2.hok e
 cases r0
 refine⟨rs,c,dd,λh' dd' hs=>⟨.ref s.heap.objs.size,_,?_,rfl,q2⟩⟩
 have hz:(JM [] kvs).length<=sizeLine:=by
  have h1:=Ir kvs []
  rw[List.length_nil]at h1
  rw[sizeLine_eq];lia
 have he:∃q,h'.get? s.heap.objs.size=some q:=let ⟨q,_,_,hq,_⟩:=dd';⟨q,hq⟩
 exact WL I2 (by rw[e];exact True.intro) hs he (aiB hz hd (rk.merge .nil) dd')
structure M2(X:Cx)(o:Expr)(m:Str)(apos:Pos)(e f:Expr)(cpos:Pos):Prop where
 base:attributeBase o m X.env (eval o X.env)=eval o X.env
 few:((backTo cpos (starEach [e,f] X.env)).all (λx => !x.1) && (backToKw cpos (keywordEach [] X.env)).all (λx=>x.1.isSome)
  && decide (([e,f]:List Expr).length+([]:List Keyword).length+(if([]:List Keyword).isEmpty then 0 else 1)<30))=true
 line:(apos.endLine == cpos.line)=true
 trees:backTo cpos (starEach [e,f] X.env)=[(false,eval e X.env),(false,eval f X.env)]
def IsD(H:Hp)(a:Addr):Prop:=(∃kvs,Rd H a (.dK kvs))\/∃kvs,Rd H a (.dT kvs)
theorem asI{X:Cx}{pins:List (Addr×Obj)}{σ:St}{H:Hp}{s:Shared}{a:Addr}(I:Inv X pins σ H s)(d:IsD H a) :
 s.TypeIs (.ref a) "dict"/\(∀b,Value.ref a=.ref b->∃ob,s.heap.get? b=some ob/\ob.dict=none)/\(a == sysModules)=false:=by
 rcases d with ⟨kvs,e⟩ | ⟨kvs,e⟩
 ·obtain⟨_,hd,vs,_,dd⟩:=af3 I.hok e
  refine⟨dd.typeIs,λb q=>?_,hd⟩
  cases q
  obtain⟨ob,_,_,h1,h2,_⟩:=dd
  exact⟨ob,h1,h2.2.1⟩
 ·obtain⟨_,hd,xs,_,dd⟩:=af4 I.hok e
  refine⟨dd.typeIs,λb q=>?_,hd⟩
  cases q
  obtain⟨ob,_,_,h1,h2,_⟩:=dd
  exact⟨ob,h1,h2.2.1⟩
section
variable{X:Cx}{pins:List (Addr×Obj)}{σ:St}{H:Hp}{s:Shared}{a:Addr}{y d:V}{u r:Value}{o:Option V}{A:Around}{E:Value->Shared->Prop}
end
def asJ(td ty tx:TE):TE:=λσ H Q=>td σ H λx H1=>∃a,x=.ref a/\IsD H1 a/\ty σ H1 λy H2=>tx σ H2 λz H3=>∃kvs k,H3 a=some (.dK kvs)/\y=kV k/\
 (∀v,fW kvs k=some v->Q v (upd H3 a (.dK (yj kvs k))))/\(fW kvs k=none->Q z H3)
section
variable{X:Cx}{o e f:Expr}{apos cpos:Pos}{td ty tx:TE}
theorem amq(ho:PE X o td)(he:PE X e ty)(hf:PE X f tx)(m:M2 X o "pop" apos e f cpos):PE X (.Call (.Attribute o "pop" apos) [e,f] [] cpos) (asJ td ty tx):=by
 intro pins s σ H Q I h
 refine wpAny_Call_method m.base m.few m.line PySem.F.plainAttrs_dict PySem.F.slot_dict_pop PySem.F.type_dict_pop (gq (ho pins s σ H _ I h) λu s1 hz=>lA hz λx H1 I1 rx ⟨a,ex,d,q1⟩=>?_)
 subst ex
 obtain rfl:u=Value.ref a:=rx
 obtain⟨t1,t2,_⟩:=asI I1 d
 refine⟨t1,t2,?_⟩
 rw[m.trees]
 refine Calls.callWith_builtin rfl (Calls.evalArgs_plain (Calls.spliced_cons (gq (he pins s1 σ H1 _ I1 q1) λiv s2 hz=>lA hz λy H2 I2 ry q2 =>
  Calls.spliced_cons (gq (hf pins s2 σ H2 _ I2 q2) λfv s3 hz=>lA hz λz H3 I3 rz ⟨kvs,k,ea,ey,q3,q4⟩=>Calls.spliced_nil ?_))))
 subst ey
 cases l:fW kvs k with
 | some v=>exact awk I3 ea ry l (.inr ⟨fv,rfl⟩) λw' s4 I4 rw'=>⟨v,_,I4,rw',q3 v l⟩
 | none=>exact asD I3 ea ry l λs4 I4=>⟨z,H3,I4,rz,q4 l⟩
end
section
variable{X:Cx}{pins:List (Addr×Obj)}{σ:St}{H:Hp}{s:Shared}{a:Addr}{kvs:List (Key×V)}{A:Around}{E:Value->Shared->Prop}
end
section
variable{X:Cx}{pins:List (Addr×Obj)}{σ:St}{H:Hp}{s:Shared}{a:Addr}{y:V}{u:Value}{A:Around}{E:Value->Shared->Prop}
end
end L2
namespace Att
open PySem PySem.W PySem.Calls PyProof.Rows
theorem Uc{P:Params}{h:Heap}:∀(ns:List Int) (vs:List Value),WellAll P h vs (ns.map WData.int)->IntsAre vs ns:=by
 intro ns
 induction ns with
 | nil =>
   intro vs w
   rw[List.map_nil]at w
   cases w
   exact .nil
 | cons n ns ih =>
   intro vs w
   rw[List.map_cons]at w
   cases w with
   | cons a b =>
     cases a
     exact .cons _ _ (ih _ b)
theorem ak0{l:OpenLaw}{n:Nat}(hn:l.most=some n){P:Params}{h:Heap}{args:List WData}{vals:List Value}
 (hpre:l.row.toRowW.claim.pre args=true) (hwl:WellAll P h vals args) :
 ∃a vs ns,vals=[Value.ref a]/\args=[WData.list (ns.map WData.int)]/\h.get? a=some {cls:=.type "list",data:=.seq vs.toArray}/\IntsAre vs ns/\ns.length<=n:=by
 have hsh:WShape.hasAll [] args [.list .int]=true:=(pre_splitW hpre).1
 have hc:l.pre.holds [] {args:=args}=true:=(pre_splitW hpre).2
 obtain⟨d,r,rfl,h1,h2⟩:=hasAllW_cons hsh
 obtain rfl:=hasAllW_nil h2
 obtain⟨xs,rfl,h3⟩:=hasW_list h1
 obtain⟨ns,rfl⟩:=items_int h3
 have hlen:ns.length<=n:=by
  unfold OpenLaw.pre at hc
  have h4:(WTm.not (.lt (.lit (.int (n:Int))) (.len (.arg 0)))).holds [] {args:=[.list (ns.map .int)]}=true:=by
   have h4:=(holds_andW hc).1
   rw[hn]at h4
   exact h4
  have h5:=condW_of h4 (w_not (w_lt w_lit (w_len_list (w_arg rfl))))
  rw[List.length_map]at h5
  refine Nat.le_of_not_lt λq=>?_
  have q':(n:Int)<((ns.length:Nat):Int):=by lia
  first
   | (rw[decide_eq_true q']at h5;exact absurd h5 (by decide))
   | (simp at h5;lia)
 cases hwl with
 | cons w1 w2 =>
   cases w2
   cases w1 with
   | list ho hall=>exact⟨_,_,ns,rfl,rfl,ho,Uc ns _ hall,hlen⟩
theorem ak1(l:OpenLaw)(args:List WData):l.row.toRowW.claim.post args (.bool true) args=true :=
 postW_of (r:=l.row.toRowW) (X:=(true == true))
  (show WShape.has [] (.bool true) .bool=true by first | rfl | decide | simp[WShape.has,WShape.arms,WShape.armsAll])
  (show(WTm.eq .res (.lit (.bool true))).value [] {args:=args,res:=some (.bool true),after:=args}=some (.bool (true == true))from w_eq_bool (w_res rfl) w_lit) rfl
theorem af7{l:OpenLaw}{n:Nat}{q:Program}{loose:List Str}{XP:(Str->Option Value)->Heap->Prop}{YP:World->Heap->Prop}{d:DefRec}
 (hn:l.most=some n) (hdf:d.params.defaults=[])
 (call:∀(w:World) (s₀ s₁:Shared) (mg mb:Str->Option Value) (fa:Addr) (o:Obj) (pm cd doc:Value) (a:Addr) (vs:List Value) (ns:List Int),
   Ground q loose [] XP w s₀ mg mb s₁.heap->YP w s₁.heap->
   s₁.heap.get? fa=some o->o.data=.func (docDef d.name d.params d.body d.scope pm cd doc)->s₁.heap.CodeRec cd d.name->mg d.name=some (.ref fa)->
   s₁.heap.get? a=some {cls:=.type "list",data:=.seq vs.toArray}->IntsAre vs ns->ns.length<=n->s₁.gens = #[]->
   codeAny (model l.prog w) callerA (.call (.ref fa) ⟨[.ref a],[]⟩) (λr s'=>r=.ok (.ret (.bool true))/\OldK s₁.heap s'.heap/\s'.os=s₁.os/\AllBare s'.gens) s₁) :
 WalkO q loose XP YP l.row.toRowW d [] (λf vs=>PySem.call f vs):=by
 intro w s₀ s₁ mg mb G Y fa o pm cd doc dV kV ho hd hcd hD hmg hg args vals as hpre hlay hrd hwl hlo
 obtain rfl:dV=.none:=Dflts.none hD hdf
 obtain rfl:kV=.none:=Dflts.noKw hD
 obtain⟨a,vs,ns,rfl,rfl,hobj,hints,hlen⟩:=ak0 hn hpre hwl
 refine enter_call (codeAny_mono (call w s₀ s₁ mg mb fa o pm cd doc a vs ns G Y ho (fd_plain hd) hcd hmg hobj hints hlen hg) λr s' hq=>?_)
 obtain⟨rfl,h2,h3,h4⟩:=hq
 exact⟨.inl ⟨.bool true,.bool true,[],rfl,λ_=>rfl,.bool true,ak1 l _,λ_=>⟨List.Pairwise.nil,λ_ hm=>(nomatch hm)⟩⟩,h2,h3,h4⟩
section
variable{prog:Program}{w:World}{A:Around}{E:Value->Shared->Prop}{s:Shared}{K:Frag}
end
end Att
namespace L2
open PySem PySem.Spec PyProof.Rows
theorem acd:∀{vs:List Value} {ns:List Int},IntsAre vs ns->Vals (ns.map V.int) vs
 | _,_,.nil=>.nil
 | _,_,.cons n t h=>.cons ⟨t,rfl⟩ (acd h)
def Only(H:Hp):Prop:=∀b,H b=none\/∃o xs,H b=some (.frz o (.lst xs))
theorem amr{P:Program}{w:World}{K:PySem.W.Frag}{mg mb:Str->Option Value}{CX:CXT}{k:Nat}{fa a:Addr}{fd:FuncData}{x:Str}{sp:Sp}{s₁:Shared}{vs:List Value}{ns:List Int}
 (KX:K.In s₁.heap) (hns:s₁.heap.Ns mainGlobals mg) (hb:s₁.heap.Ns builtinsNs mb) (hbb:∀x:Str,x≠"__name__"->mb x=bootBuiltins x) (hlim:s₁.heap.NoLimit) (hg:s₁.gens = #[])
 (ha:s₁.heap.get? a=some {cls:=.type "list",data:=.seq vs.toArray}) (hi:IntsAre vs ns) (hl:ns.length<=sizeLine) (hr:bR k callerA)
 (F:∀base:Heap,K.In base->base.Ns mainGlobals mg->cZ P w K mg base CX k fa fd [x] sp) (hbind:∀(s:Shared) (u:Value),BindsTo s fd ⟨[u],[]⟩ [(x,u)])
 (hsp:∀H:Hp,Only H->bZ K H a (ns.map V.int)->sp [.ref a] H (λv _=>v=.bl true) λ_ _ _=>False)
 (hCX:∀H e s',CX [] H s₁ (λ_ _ _=>False) e s'->False) :
 codeAny (model P w) callerA (.call (.ref fa) ⟨[.ref a],[]⟩) (λr s'=>r=.ok (.ret (.bool true))/\OldK s₁.heap s'.heap/\s'.os=s₁.os/\AllBare s'.gens) s₁:=by
 have rv:=acd hi
 have lenV:=hi.length
 have core:∀H:Hp,Only H->bZ K H a (ns.map V.int)->Ih P w H s₁.heap->(∀b,H b≠none->b=a)->(H a≠none->K.lookup a=none)->
  codeAny (model P w) callerA (.call (.ref fa) ⟨[.ref a],[]⟩) (λr s'=>r=.ok (.ret (.bool true))/\OldK s₁.heap s'.heap/\s'.os=s₁.os/\AllBare s'.gens) s₁:=by
  intro H hO hS hok hA hK
  have aj0:∀{b:Addr} {o:Obj},s₁.heap.get? b=some o->H b=none->(acQ s₁.heap H).get? b=some o:=λe n=>al0 e n
  have noA:∀{b:Addr} {o:Obj} {es:Array DictEntry} {ep:Nat},s₁.heap.get? b=some o->o.data=.dict es ep->H b=none:=λ{b o es ep} e d=>by
   cases q:H b with
   | none=>rfl
   | some u =>
     have e':b=a:=hA b (by rw[q];simp)
     subst e'
     rw[ha]at e;cases e
     have d':Data.seq vs.toArray _=Data.dict es ep:=d
     cases d'
  have nsK:∀{b:Addr} {m:Str->Option Value},s₁.heap.Ns b m->(acQ s₁.heap H).Ns b m:=λ{b m} ⟨o,es,ep,e,d,r⟩=>⟨o,es,ep,aj0 e (noA e d),d,r⟩
  have hKb:K.In (acQ s₁.heap H):=λb o e=>aj0 (KX b o e) (by
   cases q:H b with
   | none=>rfl
   | some u =>
     have e':b=a:=hA b (by rw[q];simp)
     subst e'
     rw[hK (by rw[q];simp)]at e;cases e)
  have hM:Mod K mg (acQ s₁.heap H):=⟨hKb,nsK hns,⟨mb,nsK hb,hbb⟩,let ⟨mc,h1,h2⟩:=hlim;⟨mc,nsK h1,h2⟩⟩
  have e0:aiq P w K mg (acQ s₁.heap H) callerA [] s₁ H:=⟨rfl,hM,λb o e=>aoI e,Nat.le_of_eq (akP _ _),trivial,λb hb=>absurd (show b∈([]:List Addr)from hb) (by simp),hok,.of_eq hg⟩
  refine codeAny_mono ((F _ hKb (nsK hns)).run callerA [] s₁ H ⟨[.ref a],[]⟩ [.ref a] [.ref a] _ _ hr e0 (hbind s₁ (.ref a)) (.cons rfl .nil) (hsp H hO hS)) λr s' h=>?_
  cases r with
  | error e=>exact(hCX H e s' h).elim
  | ok fl =>
    cases fl with
    | next=>exact False.elim h
    | brk=>exact False.elim h
    | cont=>exact False.elim h
    | ret u =>
      obtain⟨v,H',os,bare,un,hok',r',q⟩:=h
      have q':v=.bl true:=q
      subst q'
      obtain rfl:u=Value.bool true:=r'
      refine⟨rfl,OldK.of_keep λb o e=>?_,os,bare⟩
      cases q:H b with
      | none=>exact un.keep b o e q (by intro z;exact absurd (show b∈([]:List Addr)from z) (by simp)) (by simp)
      | some u =>
        rcases hO b with z | ⟨ob,xs,z⟩
        ·rw[q]at z;cases z
        ·have z2:=un.JG b ob _ z
         obtain⟨e1,_⟩:=hok b _ z
         obtain⟨e2,_⟩:=hok' b _ z2
         rw[e]at e1;cases e1
         exact e2
 cases hk:K.lookup a with
 | some o =>
   have e:=KX a o hk
   rw[ha]at e
   cases e
   refine core (λ_=>none) (λ_=>.inl rfl) (.inr ⟨_,vs.toArray,_,hk,rfl,rfl,rfl,by rw[List.size_toArray,lenV];exact hl,by simpa using rv⟩) (λb u z=>by have z':(none:Option HO)=some u:=z;cases z') (λb z=>absurd rfl z) λz=>absurd rfl z
 | none =>
   refine core (λb=>if b=a then some (.frz {cls:=.type "list",data:=.seq vs.toArray} (.lst (ns.map V.int)))else none) (λb=>?_) (.inl (.inr ⟨{cls:=.type "list",data:=.seq vs.toArray},if_pos rfl⟩)) (λb u z=>?_) (λb z=>?_) λ_=>hk
   ·by_cases hb:b=a
    ·exact .inr ⟨_,_,if_pos hb⟩
    ·exact .inl (if_neg hb)
   ·by_cases hb:b=a
    ·have z':=(if_pos hb).symm.trans z
     cases z'
     subst hb
     exact⟨ha,by rw[List.length_map];exact hl,vs,_,rv,ha⟩
    ·have z':=(if_neg hb).symm.trans z
     cases z'
   ·by_cases hb:b=a
    ·exact hb
    ·exact absurd (if_neg hb) z
theorem aoW{l:PySem.W.OpenLaw}{n k:Nat}{q:Program}{loose:List Str}{XP:(Str->Option Value)->Heap->Prop}{YP:World->Heap->Prop}{d:DefRec}{K:Params->PySem.W.Frag}{CX:World->CXT}{sp:World->Sp}{x:Str}
 (hn:l.most=some n) (hn2:n<=sizeLine) (hdf:d.params.defaults=[]) (hr:bR k callerA)
 (hY:∀(w:World) (h:Heap),YP w h->(K w.params).In h)
 (F:∀(w:World) (mg:Str->Option Value) (fa:Addr) (h:Heap),(K w.params).In h->h.Ns mainGlobals mg->mg d.name=some (.ref fa)->
   ∃fd:FuncData,(∀(s:Shared) (u:Value),BindsTo s fd ⟨[u],[]⟩ [(x,u)])/\
    ∀base:Heap,(K w.params).In base->base.Ns mainGlobals mg->cZ l.prog w (K w.params) mg base (CX w) k fa fd [x] (sp w))
 (hsp:∀(w:World) (H:Hp) (a:Addr) (ns:List Int),ns.length<=n->Only H->bZ (K w.params) H a (ns.map V.int)->sp w [.ref a] H (λv _=>v=.bl true) λ_ _ _=>False)
 (hCX:∀(w:World) (H:Hp) (s:Shared) (e:Value) (s':Shared),CX w [] H s (λ_ _ _=>False) e s'->False) :
 PySem.W.WalkO q loose XP YP l.row.toRowW d [] (λf vs=>PySem.call f vs):=by
 refine Att.af7 hn hdf λw s₀ s₁ mg mb fa o pm cd doc a vs ns G Y ho hd hcd hmg hobj hints hlen hg=>?_
 have KX:=hY w _ Y
 obtain⟨fd,hb,hF⟩:=F w mg fa _ KX G.T.g hmg
 exact amr KX G.T.g G.T.b G.T.builtins G.T.nolimit hg hobj hints (Nat.le_trans hlen hn2) hr hF hb (λH hO hS=>hsp w H a ns hlen hO hS) λH e s'=>hCX w H s₁ e s'
def inClass(s:Stmt)(j:Nat):Stmt:=match s with
 | .ClassDef _ _ _ body _ _ _ _ _ _ _=>body.getD j (.Pass ⟨0,0,0,0⟩)
 | _=>.Pass ⟨0,0,0,0⟩
def Mg(s:Stmt):Arguments:=match s with
 | .FunctionDef _ a _ _ _ _ _ _ _ _=>a
 | _=>{posonlyargs:=[],args:=[],vararg:=none,kwonlyargs:=[],kw_defaults:=[],kwarg:=none,defaults:=[]}
def zO(s:Stmt):List Stmt:=match s with
 | .FunctionDef _ _ b _ _ _ _ _ _ _=>b
 | _=>[]
def aN(s:Stmt):Scope:=match s with
 | .FunctionDef _ _ _ _ _ _ sc _ _ _=>sc
 | _=>{kind:=.function,names:=[],isGenerator:=false,isCoroutine:=false}
abbrev oY:CXT:=λ_ _ _ _ _ _=>False
abbrev E0:XK:=λ_ _ _=>False
theorem bW{X:Cx}:Passes oY X E0:=λ_ _ _ _ _ _ _ h=>h.elim
structure jP(K:PySem.W.Frag)(x qual:Str)(st:Stmt)(f:Addr)(fd:FuncData):Prop where
 ex:∃(oc:Value) (od:Option Addr) (kV doc pm:Value) (an:Option Addr) (cdv ct:Value) (osl:Array (Option Value)),
  fd=PySem.W.fnOf x qual (Mg st) (zO st) (aN st) .none kV doc pm an cdv ct/\K.lookup f=some ⟨oc,od,.func fd,osl⟩/\PySem.W.codeIn K cdv qual=true
 kp:PySem.W.keepIn K (.ref f)=true
section
variable{P:Program}{w:World}{K:PySem.W.Frag}{mg:Str->Option Value}{base:Heap}
theorem jP.ok{x qual:Str}{st:Stmt}{f:Addr}{fd:FuncData}{N ps:List Str}{k:Nat}{sp:Sp}(F:jP K x qual st f fd)(S:bB N ps (aN st))(len:∀vs H Q E,sp vs H Q E->vs.length=ps.length)
 (hbody:∀(cdv:Value) (A:Around) (outer:List Env) (s:Shared) (H:Hp) (vs:List V) (Q:VK) (E:XK),bR k (A.deeper (envOfC qual (aN st) s.heap.objs.size f cdv))->sp vs H Q E->
   ∃t,PSs (dm oY P w K mg base N qual (aN st) f cdv A outer s H E).lu (zO st) t/\t {nx:=λ_ H'=>Q .non H',rt:=Q} (start N vs) H):cZ P w K mg base oY (k+1) f fd ps sp:=by
 obtain⟨oc,od,kV,doc,pm,an,cdv,ct,osl,rfl,lk,hcd⟩:=F.ex
 refine arz lk hcd S len λA outer s H vs Q E hr hsp=>?_
 obtain⟨t,h,q⟩:=hbody cdv A outer s H vs Q E hr hsp
 exact⟨t,h.lu,q⟩
theorem jP.binds{x qual:Str}{st:Stmt}{f:Addr}{fd:FuncData}{ps:List Str}(F:jP K x qual st f fd)
 (h:∀(kV doc pm:Value) (an:Option Addr) (cdv ct:Value) (us:List Value),us.length=ps.length->bindArgs (PySem.W.fnOf x qual (Mg st) (zO st) (aN st) .none kV doc pm an cdv ct) ⟨us,[]⟩=pure (ps.zip us)):Binds K fd ps []:=by
 obtain⟨oc,od,kV,doc,pm,an,cdv,ct,osl,rfl,lk,hcd⟩:=F.ex
 exact .all (h kV doc pm an cdv ct)
theorem aL{x qual:Str}{st:Stmt}{f:Addr}{oc:Value}{od an:Option Addr}{osl:Array (Option Value)}{kV doc pm cdv ct:Value}(l:K.lookup f=some ⟨oc,od,.func (PySem.W.fnOf x qual (Mg st) (zO st) (aN st) .none kV doc pm an cdv ct),osl⟩)
 (c:PySem.W.codeIn K cdv qual=true) (k:PySem.W.keepIn K (.ref f)=true):jP K x qual st f (PySem.W.fnOf x qual (Mg st) (zO st) (aN st) .none kV doc pm an cdv ct):=⟨⟨oc,od,kV,doc,pm,an,cdv,ct,osl,rfl,l,c⟩,k⟩
end
theorem lG{A:Around}{k:Nat}(hr:bR k A):A.units+1<cLine:=Nat.lt_of_le_of_lt (Nat.add_le_add_left (by decide:1<=64) _) hr.units
section
variable{X:Cx}
theorem pv(i:Nat){x:Str}{pos:Pos}(hN:X.N[i]? = some x:=by rfl)(hv:Vis X.env.scope x:=by first | exact Or.inl rfl | exact Or.inr (Or.inl rfl) | exact Or.inr (Or.inr rfl))(hd:(x == ("__debug__":Str))=false:=by decide)
 (hcd:(x == ("__classdict__":Str))=false:=by decide):PE X (.Name x pos) (jm i):=ash hN hv hd hcd
end
theorem w6{A B:Prop}(h:B):if false=true then A else B:=by
 rw[if_neg Bool.false_ne_true]
 exact h
theorem pQ{A B:Prop}(h:A):if true=true then A else B:=by
 rw[if_pos rfl]
 exact h
def bJ(H H':Hp):Prop:=∀b o,H b=some o->H' b=some o
theorem bJ.refl(H:Hp):bJ H H:=λ_ _ h=>h
theorem bJ.trans{H H1 H2:Hp}(a:bJ H H1)(b:bJ H1 H2):bJ H H2:=λc o h=>b c o (a c o h)
theorem bJ.free{H H':Hp}(e:bJ H H'){l:Addr}(h:H' l=Option.none):H l=Option.none:=by
 cases q:H l with
 | none=>rfl
 | some o =>
   rw[e l o q]at h
   cases h
section
variable{X:Cx}
end
section
variable{κ:Type}[DecidableEq κ]
theorem ak2{p:κ×V}{r:List (κ×V)}{k:κ}(e:p.1=k):yj (p::r) k=yj r k:=by
 unfold yj
 rw[List.filter_cons,if_neg (by simp[e])]
theorem ak3{p:κ×V}{r:List (κ×V)}{k:κ}(e:¬p.1=k):yj (p::r) k=p::yj r k:=by
 unfold yj
 rw[List.filter_cons,if_pos (by simp[e])]
end
inductive D where
 | n | i (k:Int) | s (x:Str) | t (ds:List D) | l (ds:List D)
mutual
def Rep(H:Hp):V->D->Prop
 | v,.n=>v=.non
 | v,.i k=>v=.int k
 | v,.s x=>v=.str x
 | v,.t ds=>∃a xs,v=.ref a/\H a=some (.tup xs)/\aH H xs ds
 | v,.l ds=>∃a xs,v=.ref a/\H a=some (.lst xs)/\aH H xs ds
def aH(H:Hp):List V->List D->Prop
 | xs,[]=>xs=[]
 | xs,d::ds=>∃v r,xs=v::r/\Rep H v d/\aH H r ds
end
mutual
def D.size:D->Nat
 | .n=>1
 | .i _=>1
 | .s _=>1
 | .t ds=>1+D.sizes ds
 | .l ds=>1+D.sizes ds
def D.sizes:List D->Nat
 | []=>0
 | d::ds=>D.size d+D.sizes ds
end
mutual
def D.flat:D->Prop
 | .n=>True
 | .i _=>True
 | .s _=>True
 | .t ds=>D.flats ds
 | .l _=>False
def D.flats:List D->Prop
 | []=>True
 | d::ds=>D.flat d/\D.flats ds
end
def cg(H H':Hp):Prop:=∀b xs,H b=some (.tup xs)->H' b=some (.tup xs)
def vK(H H':Hp):Prop:=(∀b xs,H b=some (.tup xs)->H' b=some (.tup xs))/\∀b xs,H b=some (.lst xs)->H' b=some (.lst xs)
theorem bJ.seqs{H H':Hp}(h:bJ H H'):vK H H':=⟨λb xs e=>h b _ e,λb xs e=>h b _ e⟩
theorem cg.trans{H H1 H2:Hp}(a:cg H H1)(b:cg H1 H2):cg H H2:=λc xs e=>b c xs (a c xs e)
mutual
theorem Rep.mono{H H':Hp}(h:vK H H'):∀{d:D} {v:V},Rep H v d->Rep H' v d
 | .n,_,r=>by simpa only[Rep] using r
 | .i _,_,r=>by simpa only[Rep] using r
 | .s _,_,r=>by simpa only[Rep] using r
 | .t ds,_,r=>by
   simp only[Rep]at r ⊢
   obtain⟨a,xs,e,ha,rl⟩:=r
   exact⟨a,xs,e,h.1 a xs ha,aH.mono h rl⟩
 | .l ds,_,r=>by
   simp only[Rep]at r ⊢
   obtain⟨a,xs,e,ha,rl⟩:=r
   exact⟨a,xs,e,h.2 a xs ha,aH.mono h rl⟩
theorem aH.mono{H H':Hp}(h:vK H H'):∀{ds:List D} {xs:List V},aH H xs ds->aH H' xs ds
 | [],_,r=>by simpa only[aH] using r
 | d::ds,_,r=>by
   simp only[aH]at r ⊢
   obtain⟨v,q,e,rv,rl⟩:=r
   exact⟨v,q,e,Rep.mono h rv,aH.mono h rl⟩
end
mutual
theorem Rep.aZ{H H':Hp}(h:cg H H'):∀{d:D} {v:V},d.flat->Rep H v d->Rep H' v d
 | .n,_,_,r=>by simpa only[Rep] using r
 | .i _,_,_,r=>by simpa only[Rep] using r
 | .s _,_,_,r=>by simpa only[Rep] using r
 | .t ds,_,f,r=>by
   simp only[Rep]at r ⊢
   simp only[D.flat]at f
   obtain⟨a,xs,e,ha,rl⟩:=r
   exact⟨a,xs,e,h a xs ha,aH.aZ h f rl⟩
 | .l ds,_,f,r=>by simp only[D.flat]at f
theorem aH.aZ{H H':Hp}(h:cg H H'):∀{ds:List D} {xs:List V},D.flats ds->aH H xs ds->aH H' xs ds
 | [],_,_,r=>by simpa only[aH] using r
 | d::ds,_,f,r=>by
   simp only[aH]at r ⊢
   simp only[D.flats]at f
   obtain⟨v,q,e,rv,rl⟩:=r
   exact⟨v,q,e,Rep.aZ h f.1 rv,aH.aZ h f.2 rl⟩
end
theorem aH.length{H:Hp}:∀{ds:List D} {xs:List V},aH H xs ds->xs.length=ds.length
 | [],_,r=>by simp only[aH]at r;subst r;rfl
 | d::ds,_,r=>by
   simp only[aH]at r
   obtain⟨v,q,rfl,_,rl⟩:=r
   rw[List.length_cons,List.length_cons,aH.length rl]
theorem aH.append{H:Hp}:∀{ds es:List D} {xs ys:List V},aH H xs ds->aH H ys es->aH H (xs++ys) (ds++es)
 | [],_,_,_,r,q=>by simp only[aH]at r;subst r;exact q
 | d::ds,es,_,ys,r,q=>by
   simp only[aH]at r
   obtain⟨v,x,rfl,rv,rl⟩:=r
   show aH H (v::(x++ys)) (d::(ds++es))
   simp only[aH]
   exact⟨v,_,rfl,rv,aH.append rl q⟩
theorem aH.snoc{H:Hp}{ds:List D}{xs:List V}{v:V}{d:D}(r:aH H xs ds)(q:Rep H v d):aH H (xs++[v]) (ds++[d]) :=
 r.append (by simp only[aH];exact⟨v,[],rfl,q,rfl⟩)
theorem aH.last{H:Hp}:∀{ds:List D} {xs:List V} {d:D},aH H xs (ds++[d])->∃ys v,xs=ys++[v]/\aH H ys ds/\Rep H v d
 | [],_,d,r=>by
   simp only[List.nil_append,aH]at r
   obtain⟨v,q,rfl,rv,rfl⟩:=r
   exact⟨[],v,rfl,by simp only[aH],rv⟩
 | e::ds,_,d,r=>by
   rw[List.cons_append,aH]at r
   obtain⟨v,q,rfl,rv,rl⟩:=r
   obtain⟨ys,w,rfl,r1,r2⟩:=aH.last rl
   exact⟨v::ys,w,rfl,by rw[aH];exact⟨v,ys,rfl,rv,r1⟩,r2⟩
theorem D.kW:∀(a b:List D),D.sizes (a++b)=D.sizes a+D.sizes b
 | [],b=>by simp[D.sizes]
 | d::a,b=>by rw[List.cons_append,D.sizes,D.sizes,D.kW a b];lia
theorem D.size_pos:∀d:D,0<d.size
 | .n=>by simp[D.size]
 | .i _=>by simp[D.size]
 | .s _=>by simp[D.size]
 | .t _=>by rw[D.size];lia
 | .l _=>by rw[D.size];lia
theorem D.d9:∀ds:List D,ds.length<=D.sizes ds
 | []=>Nat.zero_le _
 | d::ds=>by
   rw[D.sizes,List.length_cons]
   have:=D.size_pos d
   have:=D.d9 ds
   lia
theorem fV.here{P:Program}{w:World}{H:Hp}{h:Heap}{a:Addr}{o:HO}(x:fV P w H h a o):∃ob,h.get? a=some ob:=by
 cases o with
 | lst xs=>obtain⟨_,_,_,_,e⟩:=x;exact⟨_,e⟩
 | tup xs=>obtain⟨_,_,_,ob,e,_⟩:=x;exact⟨_,e⟩
 | dK kvs=>obtain⟨_,_,_,_,o,_,_,e,_⟩:=x;exact⟨_,e⟩
 | dT kvs=>obtain⟨_,_,_,_,o,_,_,e,_⟩:=x;exact⟨_,e⟩
 | set S n=>obtain⟨o,_,_,_,e,_⟩:=x;exact⟨_,e⟩
 | ins C dx fs=>obtain⟨_,_,_,e,_⟩:=x;exact⟨_,e⟩
 | own y=>exact x
 | xd fs=>obtain⟨_,⟨_,_,_,e,_⟩,_⟩:=x;exact⟨_,e⟩
 | rng lo hi=>obtain⟨_,_,_,e⟩:=x;exact⟨_,e⟩
 | frz ob u=>obtain⟨e,_⟩:=x;exact⟨_,e⟩
 | tbl ps=>exact⟨_,(show h.get? a=some _ from x)⟩
 | met f y=>exact⟨_,(show h.get? a=some _ from x)⟩
 | ext φ=>obtain⟨_,e,_⟩:=x;exact e
structure Fly(P:Program)(w:World)(B:Heap)(a0:Value)(l:List Env)(H:Hp)(s:Shared)(C:Value)(e:Addr)(H':Hp)(s':Shared):Prop where
 os:s'.os=s.os
 bare:AllBare s'.gens
 fresh:H' e=none
 fly:Heap.FlyingW B l e C a0 s'.heap
 slots:∀b∈frs l,∀o,s.heap.get? b=some o->∃sl,s'.heap.get? b=some {o with slots:=sl}
 kin:∀b o,s.heap.get? b=some o->H b=none->b∉frs l->B.get? b=some o
 trk:∀b u,H' b=some u->∃o,s'.heap.get? b=some o/\B.get? b=some o
 all:∀b o,s.heap.get? b=some o->b∉frs l->∃o',B.get? b=some o'
 free:∀b o,s.heap.get? b=some o->H b=none->H' b=none
 tups:∀b xs,H b=some (.tup xs)->H' b=some (.tup xs)
 JG:∀b o u,H b=some (.frz o u)->H' b=some (.frz o u)
 Lw:∀b ps,H b=some (.tbl ps)->∃more,H' b=some (.tbl (ps++more))
 hok:Ih P w H' s'.heap
section
variable{P:Program}{w:World}{B:Heap}{a0:Value}{l:List Env}{H H':Hp}{s s':Shared}{C:Value}{e:Addr}{h':Heap}
theorem Fly.un(F:Fly P w B a0 l H s C e H' s'):Un (frs l) [] H H' s.heap s'.heap :=
 ⟨λb o q n hb _=>F.fly.1 b o (F.kin b o q n hb),λb o q _ hb _=>F.slots b hb o q,λb o q n _=>F.free b o q n,
  λb o q _=>by
   by_cases hb:b∈frs l
   ·obtain⟨sl,z⟩:=F.slots b hb o q
    exact⟨_,z⟩
   ·obtain⟨o',z⟩:=F.all b o q hb
    exact⟨o',F.fly.1 b o' z⟩,F.tups,F.JG,F.Lw⟩
theorem af8(hok:Ih P w H' s'.heap)(k:∀b u,H' b=some u->∀o,s'.heap.get? b=some o->h'.get? b=some o):Ih P w H' h':=λa u q =>
 (hok a u q).stay (λb v hb z=>by
   rcases hb with rfl | hb
   ·exact k b u q v z
   ·exact k b _ hb v z) (λ_ z=>z) λ_ _ z=>z
theorem Fly.move(F:Fly P w B a0 l H s C e H' s')(fl:Heap.FlyingW B l e C a0 h')(up:s'.heap.UpToSlots h'):Fly P w B a0 l H s C e H' {s' with heap:=h'}:=by
 refine⟨F.os,F.bare,F.fresh,fl,λb hb o q=>?_,F.kin,λb u q=>?_,F.all,F.free,F.tups,F.JG,F.Lw,af8 F.hok λb u q o z=>?_⟩
 ·obtain⟨sl,z⟩:=F.slots b hb o q
  obtain⟨_,o2,z2,nf⟩:=F.fly.2.2.1.mem hb
  rw[z]at z2
  cases z2
  obtain⟨sl2,z3⟩:=up b _ z nf
  exact⟨sl2,z3⟩
 ·obtain⟨o,z1,z2⟩:=F.trk b u q
  exact⟨o,fl.1 b o z2,z2⟩
 ·obtain⟨o',z1,z2⟩:=F.trk b u q
  rw[z]at z1
  cases z1
  exact fl.1 b o z2
end
section
variable{X:Cx}{pins:List (Addr×Obj)}{σ:St}{H H':Hp}{s s':Shared}{B:Heap}{a0 C:Value}{e:Addr}{h' h1:Heap}
theorem Inv.fly(I:Inv X pins σ H s)(F:Fly X.prog X.w B a0 X.stack H s C e H' s'):Inv X pins σ H' s' :=
 I.call' (ch:=[]) F.os F.un F.hok F.bare (λb z=>absurd z (by simp))
structure BV(X:Cx):Prop where
 st:X.stack=X.env::X.outer
 fr:X.env.frame=some X.env.locals
 ex:X.ex=[]
theorem BV.frs(O:BV X):L2.frs X.stack=X.env.locals::X.fs:=by
 rw[O.st]
 show List.filterMap _ (_::_)=_
 rw[List.filterMap_cons,O.fr]
 rfl
theorem BV.out(O:BV X)(I:Inv X pins σ H s){b:Addr}{o:Obj}(q:X.s₀.heap.get? b=some o)(hb:b∉L2.frs X.outer):b∉L2.frs X.stack:=λz=>by
 rw[O.frs]at z
 rcases List.mem_cons.mp z with z | z
 ·exact absurd (Nat.lt_of_lt_of_le (Heap.lt_size q) I.ok.above) (by rw[z];exact Nat.lt_irrefl _)
 ·exact hb z
theorem BV.nex(O:BV X)(b:Addr):b∉X.ex:=by rw[O.ex];simp
theorem Fly.out(O:BV X)(I:Inv X pins σ H s)(F:Fly X.prog X.w B a0 X.stack H s C e H' s')(fl:Heap.FlyingW B X.outer e C a0 h')(up:s'.heap.UpToSlots h') :
 Fly X.prog X.w B a0 X.outer X.H₀ X.s₀ C e H' {s' with heap:=h'}:=by
 have sub:∀b∈L2.frs X.outer,b∈L2.frs X.stack:=λb hb=>by rw[O.frs];exact List.mem_cons_of_mem _ hb
 refine⟨F.os.trans I.os,F.bare,F.fresh,fl,λb hb o q=>?_,λb o q n hb=>?_,λb u q=>?_,λb o q hb=>?_,λb o q n=>?_,λb xs q=>F.tups b xs (I.base.tups b xs q),λb o u q=>F.JG b o u (I.base.JG b o u q),λb ps q=>?_,
  af8 F.hok λb u q o z=>?_⟩
 ·obtain⟨sl,z⟩:=I.base.slot b o q (I.ok.frf b hb) hb (O.nex b)
  obtain⟨sl1,z1⟩:=F.slots b (sub b hb) _ z
  obtain⟨_,o2,z2,nf⟩:=F.fly.2.2.1.mem (sub b hb)
  rw[z1]at z2
  cases z2
  obtain⟨sl2,z3⟩:=up b _ z1 nf
  exact⟨sl2,z3⟩
 ·exact F.kin b o (I.base.keep b o q n hb (O.nex b)) (I.base.free b o q n (O.nex b)) (O.out I q hb)
 ·obtain⟨o,z1,z2⟩:=F.trk b u q
  exact⟨o,fl.1 b o z2,z2⟩
 ·obtain⟨o',z⟩:=I.base.there b o q (O.nex b)
  exact F.all b o' z (O.out I q hb)
 ·obtain⟨o',z⟩:=I.base.there b o q (O.nex b)
  exact F.free b o' z (I.base.free b o q n (O.nex b))
 ·obtain⟨m1,z1⟩:=I.base.Lw b ps q
  obtain⟨m2,z2⟩:=F.Lw b _ z1
  exact⟨m1++m2,by rw[z2,Array.append_assoc]⟩
 ·obtain⟨o',z1,z2⟩:=F.trk b u q
  rw[z]at z1
  cases z1
  exact fl.1 b o z2
theorem Inv.raised{vs:List Value}{A:Around}{E':Value->Shared->Prop}{M:Model}(I:Inv X pins σ H s)(O:BV X)(hx:Heap.MadeExcOf s.heap h1 e C vs)(hfr:A.frames=some (X.env::X.outer)) :
 wpAny M A (leaving X.env (.ref e)) (λ_ s''=>∃B a0,Fly X.prog X.w B a0 X.outer X.H₀ X.s₀ C e H s'') E' {s with heap:=h1}:=by
 have frs':s.heap.FunFrames (PySem.W.hideAll s.heap (L2.frs X.stack)) (X.env::X.outer):=by
  have q:=PySem.W.funFrames_hide (as:=L2.frs X.stack) I.stack λenv he b hb=>List.mem_filterMap.mpr ⟨env,he,hb⟩
  rw[O.st]at q ⊢
  exact q
 have sub:∀b∈L2.frs X.outer,b∈L2.frs X.stack:=λb hb=>by rw[O.frs];exact List.mem_cons_of_mem _ hb
 refine wpAny_leaves_madeW (s:={s with heap:=h1}) (base:=PySem.W.hideAll s.heap (L2.frs X.stack)) (h:=s.heap) hfr O.fr (λb o q=>PySem.W.of_hideAll _ q) frs' hx λh' t fl _ _ up=>⟨PySem.W.hideAll s.heap (L2.frs X.stack),.ref t,?_⟩
 have inB:∀b u,H b=some u->∃o,s.heap.get? b=some o/\(PySem.W.hideAll s.heap (L2.frs X.stack)).get? b=some o:=λb u q=>by
  obtain⟨o,z⟩:=(I.hok b u q).here
  exact⟨o,z,PySem.W.hideAll_get _ z λhb=>by rw[I.acR b hb]at q;cases q⟩
 refine⟨I.os,I.bare,?_,fl,λb hb o q=>?_,λb o q n hb=>?_,λb u q=>?_,λb o q hb=>?_,λb o q n=>?_,λb xs q=>I.base.tups b xs q,λb o u q=>I.base.JG b o u q,λb ps q=>I.base.Lw b ps q,?_⟩
 ·cases q:H e with
  | none=>rfl
  | some u =>
    obtain⟨o,z⟩:=(I.hok e u q).here
    rw[hx.new]at z
    cases z
 ·obtain⟨sl,z⟩:=I.base.slot b o q (I.ok.frf b hb) hb (O.nex b)
  obtain⟨_,o2,z2,nf⟩:=I.stack.mem (sub b hb)
  rw[z]at z2
  cases z2
  obtain⟨sl2,z3⟩:=up b _ (hx.keeps b _ z) nf
  exact⟨sl2,z3⟩
 ·exact PySem.W.hideAll_get _ (I.base.keep b o q n hb (O.nex b)) (O.out I q hb)
 ·obtain⟨o,z1,z2⟩:=inB b u q
  exact⟨o,fl.1 b o z2,z2⟩
 ·obtain⟨o',z⟩:=I.base.there b o q (O.nex b)
  exact⟨o',PySem.W.hideAll_get _ z (O.out I q hb)⟩
 ·obtain⟨o',z⟩:=I.base.there b o q (O.nex b)
  exact I.base.free b o q n (O.nex b)
 ·exact λa u q=>(I.hok a u q).stay (λb v hb z=>by
   have k:∀u',H b=some u'->h'.get? b=some v:=λu' q'=>by
    obtain⟨o,z1,z2⟩:=inB b u' q'
    rw[z]at z1
    cases z1
    exact fl.1 b v z2
   rcases hb with rfl | hb
   ·exact k u q
   ·exact k _ hb) (λ_ z=>z) λ_ _ z=>z
end
def CX1(P:Program)(w:World):CXT:=λl H s E e s'=>∃B a0 C ea H',e=Value.ref ea/\Fly P w B a0 l H s C ea H' s'/\E C none H'
section
variable{P:Program}{w:World}{K:PySem.W.Frag}{mg:Str->Option Value}{base:Heap}{N:List Str}{qual:Str}{scope:Scope}{f:Addr}{cd:Value}{A:Around}{outer:List Env}{s:Shared}{H:Hp}{E:XK}
theorem arC:BV (dm (CX1 P w) P w K mg base N qual scope f cd A outer s H E):=⟨rfl,rfl,rfl⟩
theorem BW:Passes (CX1 P w) (dm (CX1 P w) P w K mg base N qual scope f cd A outer s H E) E:=by
 intro pins σ H1 s1 e s' I h
 obtain⟨B,a0,C,ea,H',rfl,F,hE⟩:=h
 have fl:Heap.FlyingW B (envOfC qual scope s.heap.objs.size f cd::outer) ea C a0 s'.heap:=F.fly
 refine wpAny_leaves_onW (L:=s.heap.objs.size) I.ok.frames rfl fl λh' fl' up=>?_
 exact⟨B,a0,C,ea,H',rfl,Fly.out arC I F fl' up,hE⟩
def Raises(X:Cx)(E:XK):Prop:=∀(pins:List (Addr×Obj)) (σ:St) (H:Hp) (s:Shared) (h':Heap) (e C:Addr) (vs:List Value),Inv X pins σ H s->Heap.MadeExcOf s.heap h' e (.ref C) vs->E (.ref C) none H->X.xe (.ref e) {s with heap:=h'}
theorem Mh:Raises (dm (CX1 P w) P w K mg base N qual scope f cd A outer s H E) E:=by
 intro pins σ H1 s1 h' e C vs I hx hE
 refine gq (I.raised arC hx I.ok.frames) λ_ s2 h2=>?_
 obtain⟨B,a0,F⟩:=h2
 exact⟨B,a0,_,e,_,rfl,F,hE⟩
end
structure Exc(K:PySem.W.Frag)(C:Addr)(bm:List Value):Prop where
 obj:∀h:Heap,K.In h->∃N nm q bs hdct sn sub ab col dd k0 k1 k2 k3 k5 mN,h.get? C=some (excClassObj nm q C N bs bm hdct sn sub ab col dd k0 k1 k2 k3 k5 "ValueError.__new__")/\h.Ns N mN/\mN "__init__"=none/\
  OwnTail h [.type "ValueError",.type "Exception",.type "BaseException",.type "object"] bm
def mroIn(K:PySem.W.Frag)(C:Addr):Option (List Value):=match K.lookup C with
 | some ⟨_,_,.cls cd,_⟩=>some cd.mro
 | _=>none
theorem Qw{K:PySem.W.Frag}{C:Addr}{bm:List Value}(q:PySem.W.excIn K C [.type "ValueError",.type "Exception",.type "BaseException",.type "object"] "ValueError.__new__"=true) (m:mroIn K C=some (.ref C::bm)):Exc K C bm:=by
 refine⟨λh X=>?_⟩
 unfold PySem.W.excIn at q
 unfold mroIn at m
 split at q
 ·rename_i dd cd sl ho
  rw[ho]at m
  split at q
  ·rename_i C' bm' k0 k1 k2 k3 n k5 hm hs
   simp only[Bool.and_eq_true,beq_iff_eq,Bool.not_eq_true']at q
   obtain⟨⟨⟨⟨⟨rfl,rfl⟩,hdel⟩,ht⟩,hok⟩,hni⟩:=q
   obtain⟨nm,bs,mro,ns,qn,hd,sn,sub,ab,col,del⟩:=cd
   dsimp only at hm hdel hok hni m
   subst hm hdel
   have e:bm'=bm:=by
    injection m with m
    injection m with m1 m2
   subst e
   have hsl:sl = #[k0,k1,k2,k3,some (.builtin "ValueError.__new__"),k5]:=by
    obtain⟨l⟩:=sl
    simp only at hs
    rw[hs]
   subst hsl
   exact⟨ns,nm,qn,bs,hd,sn,sub,ab,col,dd,k0,k1,k2,k3,k5,_,X _ _ ho,.of_isNs (PySem.W.isNs_of_in X hok),PySem.W.nsMap_none_of_in X hok hni,PySem.W.tail_of_in X ht⟩
  ·cases q
 ·cases q
theorem Exc.base{K:PySem.W.Frag}{C:Addr}{bm:List Value}(O:Exc K C bm){h:Heap}(X:K.In h):bm.contains (.type "BaseException")=true:=by
 obtain⟨_,_,_,_,_,_,_,_,_,_,_,_,_,_,_,_,_,_,_,T⟩:=O.obj h X
 exact T.hasType (by decide +kernel)
def asK(C:Value)(E:XK)(t:TA):TS:=λ_ σ H=>t σ H λvs H1=>vs.length<=sizeLine/\E C none H1
section
variable{X:Cx}{C:Addr}{bm:List Value}{x:Str}{np cpos pos:Pos}{e₀:Expr}{rest:List Expr}{t:TA}{E:XK}
theorem Ez(O:Exc X.K C bm)(hg:Gl X x)(hm:X.mg x=some (.ref C))(hc:X.calm=true)(hr:Raises X E)(ha:PA X (e₀::rest) t)
 (he:starEach (e₀::rest) X.env=(false,eval e₀ X.env)::starEach rest X.env:=by rfl) (hpl:(backTo cpos (starEach rest X.env)).any (·.1)=false:=by rfl) (hdb:(x == ("__debug__":Str))=false:=by decide) :
 PS X (.Raise (some (.Call (.Name x np) (e₀::rest) [] cpos)) none pos) (asK (.ref C) E t):=by
 intro pins s σ H D I h
 obtain⟨N,nm,q,bs,hdct,sn,sub,ab,col,dd,k0,k1,k2,k3,k5,mN,hC,hN,hni,T⟩:=O.obj _ I.ok.mod.kin
 have FB:=PySem.F.excBase_ValueError
 refine wpAny_Raise_call_subU (C:=C) (nm:=nm) (q:=q) (N:=N) (bs:=bs) (bm:=bm) (hdct:=hdct) (sn:=sn) (sub:=sub) (ab:=ab) (col:=col) (dd:=dd) (k0:=k0) (k1:=k1) (k2:=k2) (k3:=k3) (k5:=k5)
  FB (by decide +kernel) FB (mN:=mN) (T.hasType FB.hasBase) (I.ok.hd hc) (by rw[he];show(false || (backTo cpos (starEach rest X.env)).any (·.1))=false;rw[hpl];rfl) hni (zG I hg hm ⟨rfl,?_⟩ hdb)
 have q1:=ha cpos pins s σ H _ I h
 rw[he]at q1 ⊢
 refine Calls.evalArgs_plain (gq q1 λus s2 h2=>?_)
 obtain⟨vs,H2,I2,rv,hz,hE⟩:=h2
 exact⟨rfl,by rw[<-rv.length];exact hz,I2.bk _ _ hC,hN.keeps I2.bk,T.keeps I2.bk,λh' e hx=>hr pins σ H2 s2 h' e C us I2 hx hE⟩
end
section
variable{M:Model}{A:Around}{E:Value->Shared->Prop}
theorem Xc{s:Shared}{C C':Addr}{bm bm':List Value}{K:PySem.W.Frag}(X:K.In s.heap)(O:Exc K C bm)(O':Exc K C' bm'){e:Addr}{oe:Obj}{Q:Bool->Shared->Prop}(he:s.heap.get? e=some oe)(hcls:oe.cls=.ref C)
 (hq:Q ((Value.ref C::bm).contains (.ref C')) s):wpAny M A (excMatches (.ref e) (.ref C')) Q E s:=by
 have hb:=O'.base X
 obtain⟨N,nm,q,bs,hdct,sn,sub,ab,col,dd,k0,k1,k2,k3,k5,mN,hC,_⟩:=O.obj _ X
 obtain⟨N',nm',q',bs',aBl,sn',aCJ,ab',aCK,dd',k0',k1',k2',k3',k5',mN',hC',_⟩:=O'.obj _ X
 obtain⟨h,g,d,t,os⟩:=s
 dsimp only at he hC hC'
 have hcB:(Value.ref C'::bm').contains (.type "BaseException")=true:=by rw[List.contains_cons,hb,Bool.or_true]
 have f:=tc_notTuple
 generalize hcc:(Value.ref C::bm).contains (.ref C')=b at hq
 unfold excMatches
 repeat (first | (with_reducible refine wpAny_loadPart_at he ?_;rw[hcls]) | with_reducible refine wpAny_loadPart_at hC' ?_ | (with_reducible refine wpAny_isSubtype_exc hC' ?_;rw[hcB]) | (with_reducible refine wpAny_isSubtype_exc hC ?_;rw[hcc]) | wp_step)
 cases b<;>(wp_walk;exact hq)
end
def aaL(X:Cx)(pl:List (Addr×Obj))(R:St->Value->Hp->Prop):Cx :=
 ({X with pn:=X.pn++pl}:Cx).wish λe s'=>∃pins σ H s,Inv ({X with pn:=X.pn++pl}:Cx) pins σ H s/\CX1 X.prog X.w X.stack H s (λC _ H'=>R σ C H') e s'
def af9(X:Cx)(e:Addr):Cx:={X with A:=X.A.mark (some (.ref e)),calm:=false,xe:=λ_ _=>False}
section
variable{X:Cx}{pins pl:List (Addr×Obj)}{σ:St}{H H':Hp}{s s':Shared}{R:St->Value->Hp->Prop}{e:Addr}{D:Ends}{f:Flow}
theorem Inv.azC(I:Inv X pl σ H s):Inv ({X with pn:=X.pn++pl}:Cx) [] σ H s :=
 ⟨⟨I.ok.mod,I.ok.kind,I.ok.glob,I.ok.blt,I.ok.above,I.ok.inj,I.ok.has,I.ok.cab,I.ok.hd,I.ok.frames,I.ok.stk,I.ok.exf,I.ok.bs,I.ok.bsz,I.ok.afO,I.ok.aih,I.ok.JH,I.ok.frf⟩,I.os,I.bare,I.base,I.loc,I.cell,I.free,I.vD,
  λp hp=>I.pin p (by rw[List.append_nil]at hp;exact hp),I.hok,I.len⟩
theorem Inv.awn(I:Inv ({X with pn:=X.pn++pl}:Cx) pins σ H s):Inv X pl σ H s :=
 ⟨⟨I.ok.mod,I.ok.kind,I.ok.glob,I.ok.blt,I.ok.above,I.ok.inj,I.ok.has,I.ok.cab,I.ok.hd,I.ok.frames,I.ok.stk,I.ok.exf,I.ok.bs,I.ok.bsz,I.ok.afO,I.ok.aih,I.ok.JH,I.ok.frf⟩,I.os,I.bare,I.base,I.loc,I.cell,I.free,I.vD,
  λp hp=>I.pin p (List.mem_append_left _ hp),I.hok,I.len⟩
theorem Inv.awo(I:Inv X pl σ H s):Inv (aaL X pl R) [] σ H s:=I.azC.wish _
theorem Inv.Mi(I:Inv (aaL X pl R) pins σ H s):Inv X pl σ H s:=(Inv.wZ I).awn
theorem SP.Mi(h:SP (aaL X pl R) pins D f s'):SP X pl D f s':=by
 cases f with
 | next=>obtain⟨σ',H',I,q⟩:=h;exact⟨σ',H',I.Mi,q⟩
 | brk=>obtain⟨σ',H',I,q⟩:=h;exact⟨σ',H',I.Mi,q⟩
 | cont=>obtain⟨σ',H',I,q⟩:=h;exact⟨σ',H',I.Mi,q⟩
 | ret u=>obtain⟨v,σ',H',I,r,q⟩:=h;exact⟨v,σ',H',I.Mi,r,q⟩
theorem Inv.af9(I:Inv X pins σ H s)(e:Addr):Inv (L2.af9 X e) pins σ H s :=
 ⟨⟨I.ok.mod,I.ok.kind,I.ok.glob,I.ok.blt,I.ok.above,I.ok.inj,I.ok.has,I.ok.cab,λz=>(nomatch (show false=true from z)),I.ok.frames,I.ok.stk,I.ok.exf,I.ok.bs,I.ok.bsz,I.ok.afO,I.ok.aih,I.ok.JH,I.ok.frf⟩,I.os,I.bare,I.base,I.loc,I.cell,I.free,I.vD,
  I.pin,I.hok,I.len⟩
theorem Inv.Qx{X:Cx}(ok:X.Ok)(I:Inv (L2.af9 X e) pins σ H s):Inv X pins σ H s :=
 ⟨ok,I.os,I.bare,I.base,I.loc,I.cell,I.free,I.vD,I.pin,I.hok,I.len⟩
theorem SP.Qx(ok:X.Ok)(h:SP (af9 X e) pins D f s'):SP X pins D f s':=by
 cases f with
 | next=>obtain⟨σ',H',I,q⟩:=h;exact⟨σ',H',I.Qx ok,q⟩
 | brk=>obtain⟨σ',H',I,q⟩:=h;exact⟨σ',H',I.Qx ok,q⟩
 | cont=>obtain⟨σ',H',I,q⟩:=h;exact⟨σ',H',I.Qx ok,q⟩
 | ret u=>obtain⟨v,σ',H',I,r,q⟩:=h;exact⟨v,σ',H',I.Qx ok,r,q⟩
end
def PH(X:Cx)(hs:List ExceptHandler)(th:Value->TS):Prop :=
 ∀(pins:List (Addr×Obj)) (σ:St) (H:Hp) (s:Shared) (B:Heap) (a0 C:Value) (e:Addr) (H':Hp) (s':Shared) (D:Ends),Inv X pins σ H s->Fly X.prog X.w B a0 X.stack H s C e H' s'->th C D σ H'->
  wpAny (model X.prog X.w) X.A (handleBy (.ref e) X.env hs) (SP X pins D) X.xe s'
def azD(tb:(St->Value->Hp->Prop)->TS)(th:Value->TS):TS:=λD σ H=>tb (λσ' C H'=>th C D σ' H') D σ H
def awp(K:PySem.W.Frag)(C':Addr)(ts:TS)(tr:Value->TS):Value->TS:=λC D σ H=>∃c bm,C=Value.ref c/\Exc K c bm/\if(Value.ref c::bm).contains (.ref C')=true then ts D σ H else tr C D σ H
section
variable{X:Cx}{body suite:List Stmt}{b₀:Stmt}{h₀:ExceptHandler}{hs rest:List ExceptHandler}{tb:(St->Value->Hp->Prop)->TS}{th tr:Value->TS}{ts:TS}{pos np:Pos}{x n:Str}{C':Addr}{bm':List Value}
theorem asL:PH X [] (λ_=>asl):=λ_ _ _ _ _ _ _ _ _ _ _ _ _ h=>h.elim
theorem asM(O:BV X)(hb:∀pl R,PSs (aaL X pl R) body (tb R))(hh:PH X (h₀::hs) th):PS X (.Try body (h₀::hs) [] [] pos) (azD tb th):=by
 intro pins s σ H D I h
 refine wpAny_Try_except (wpAny_mono (hb pins _ [] s σ H D I.awo h) (λf s1 h1=>?_) λe s1 h1=>?_)
 ·cases f with
  | next=>exact wpAny_execs_nil (SP.Mi h1)
  | brk=>exact SP.Mi h1
  | cont=>exact SP.Mi h1
  | ret u=>exact SP.Mi h1
 ·obtain⟨al4,σ',H1,s2,I2,B,a0,C,ea,H',rfl,F,q⟩:=h1
  have I2':Inv X pins σ' H1 s2:=I2.awn
  have fr:X.A.frames=some (X.env::X.outer):=by rw[<-O.st];exact I2'.ok.frames
  have fl:Heap.FlyingW B (X.env::X.outer) ea C a0 s1.heap:=by rw[<-O.st];exact F.fly
  refine wpAny_looks_onW (L:=X.env.locals) fr O.fr fl λh2 held up2=>?_
  refine wpAny_landsW held λh3 fl3 up3=>?_
  have F3:Fly X.prog X.w B a0 X.stack H1 s2 C ea H' {s1 with heap:=h3}:=F.move (by rw[O.st];exact fl3) (up2.trans up3)
  exact hh pins σ' H1 s2 B a0 C ea H' _ D I2' F3 q
theorem Xd(O:BV X)(hg:Gl X x)(hm:X.mg x=some (.ref C'))(O':Exc X.K C' bm')(hsu:∀e,PSs (af9 X e) (b₀::suite) ts)(hr:PH X rest tr)(hdb:(x == ("__debug__":Str))=false:=by decide) :
 PH X (.ExceptHandler (some (.Name x np)) none (b₀::suite) pos::rest) (awp X.K C' ts tr):=by
 intro pins σ H s B a0 C e H' s' D I F h
 obtain⟨c,bm,rfl,Oc,q⟩:=h
 have I':=I.fly F
 obtain⟨ob,hob,hcls⟩:=F.fly.there
 refine wpAny_handleBy_cons (codeAny_handlers_test (zG (X:=af9 X e) (I'.af9 e) hg hm ?_ hdb)) (by intro z;cases z)
 refine Xc I'.yh Oc O' hob hcls ?_
 cases hb:(Value.ref c::bm).contains (.ref C')with
 | false =>
   rw[hb,if_neg Bool.false_ne_true]at q
   exact hr pins σ H s B a0 _ e H' s' D I F q
 | true =>
   rw[hb,if_pos rfl]at q
   refine codeAny_handlers_suite ?_
   refine lands_againW F.fly λh3 fl3 up3=>?_
   have I3:=I.fly (F.move fl3 up3)
   refine wpAny_mono (hsu e pins _ σ H' D (I3.af9 e) q) (λf s4 h4=>?_) λ_ _ z=>z.elim
   exact SP.Qx I.ok h4
end
def asN(C:Addr)(m:Str)(sp:Sp)(R:St->Value->Hp->Prop)(ta:TE)(t:TA):TE:=λσ H Q=>ta σ H λx H1=>∃a dx fs,x=.ref a/\H1 a=some (.ins C dx fs)/\fs.lookup m=none/\
 t σ H1 λvs H2=>sp (x::vs) H2 Q λC _ H'=>R σ C H'
section
variable{X:Cx}{pl:List (Addr×Obj)}{R:St->Value->Hp->Prop}{k:Nat}{f C:Addr}{fd:FuncData}{ps:List Str}{sp:Sp}{x m:Str}{p pos apos:Pos}{e o:Expr}{es:List Expr}{ta:TE}{t:TA}
theorem aoX{pins:List (Addr×Obj)}{σ:St}{H:Hp}{s:Shared}{Q:VK}{us:List Value}{vs:List V}(F:cZ X.prog X.w X.K X.mg X.base (CX1 X.prog X.w) k f fd ps sp)(hr:bR k X.A)(hb:Binds X.K fd ps [])
 (I:Inv (aaL X pl R) pins σ H s) (r:Vals vs us) (h:sp vs H Q λC _ H'=>R σ C H'):wpAny (model X.prog X.w) X.A (call (.ref f) us) (EP (aaL X pl R) pins σ Q) (aaL X pl R).xe s:=by
 have hl:us.length=ps.length:=by rw[<-r.length];exact F.len _ _ _ _ h
 have hb':=hb s us I.yh (by rw[List.append_nil];exact hl)
 rw[List.append_nil]at hb'
 refine wpAny_call (codeAny_mono (F.run X.A X.stack s H ⟨us,[]⟩ us vs Q _ hr I.env0 hb' r h) λr s' hq=>?_)
 cases r with
 | error e=>exact⟨pins,σ,H,s,I.wZ,hq⟩
 | ok fl =>
   cases fl with
   | ret u=>exact I.after hq
   | next=>exact False.elim hq
   | brk=>exact False.elim hq
   | cont=>exact False.elim hq
theorem amu{pl':Sem Bool}(he:PE (aaL X pl R) o ta)(c:Cls X.K C)(hm:Meth X.K C m f)(F:cZ X.prog X.w X.K X.mg X.base (CX1 X.prog X.w) k f fd ps sp)(hr:bR k X.A)(hb:Binds X.K fd ps [])(ha:PA (aaL X pl R) (e::es) t)
 (hst:starEach (e::es) X.env=(false,eval e X.env)::starEach es X.env:=by rfl) (hpl:(backTo pos (starEach es X.env)).any (·.1)=false:=by rfl)
 (ht:eval (.Call (.Attribute o m apos) (e::es) [] pos) X.env=(do
   let ov <-eval o X.env
   standAt apos.atName
   let (f,first) <-holding [ov] (getMethod ov m pl')
   callWith pos f first (backTo pos (starEach (e::es) X.env)) (backToKw pos (keywordEach [] X.env))):=by rfl) :
 PE (aaL X pl R) (.Call (.Attribute o m apos) (e::es) [] pos) (asN C m sp R ta t):=by
 intro pins s σ H Q I h
 refine PySem.W.methodCall_KW (pl:=pl') (gq (he pins s σ H _ I h) λu s1 hz=>lA hz λx H1 I1 rx ⟨a,dx,fs,ex,ea,l,q⟩=>?_) ht
 subst ex
 obtain rfl:u=Value.ref a:=rx
 refine JL I1 ea c hm l ?_
 refine PySem.W.callWith_K (first:=[.ref a]) (h₀:=X.base) I.ok.mod.kin hm.kp (gq (ha pos pins s1 σ H1 _ I1 q) λus s2 hz=>lA hz λvs H2 I2 r q2=>⟨I2.yh,?_⟩) hst hpl
 exact aoX (us:=.ref a::us) (vs:=.ref a::vs) F hr hb I2 (.cons rfl r) q2
end
section
variable{P:Program}{w:World}{K:PySem.W.Frag}{mg:Str->Option Value}{base:Heap}
theorem jP.okX{x qual:Str}{st:Stmt}{f:Addr}{fd:FuncData}{N ps:List Str}{k:Nat}{sp:Sp}(F:jP K x qual st f fd)(S:bB N ps (aN st))(len:∀vs H Q E,sp vs H Q E->vs.length=ps.length)
 (hbody:∀(cdv:Value) (A:Around) (outer:List Env) (s:Shared) (H:Hp) (vs:List V) (Q:VK) (E:XK),bR k (A.deeper (envOfC qual (aN st) s.heap.objs.size f cdv))->sp vs H Q E->
   ∃t,PSs (dm (CX1 P w) P w K mg base N qual (aN st) f cdv A outer s H E) (zO st) t/\t {nx:=λ_ H'=>Q .non H',rt:=Q} (start N vs) H):cZ P w K mg base (CX1 P w) (k+1) f fd ps sp:=by
 obtain⟨oc,od,kV,doc,pm,an,cdv,ct,osl,rfl,lk,hcd⟩:=F.ex
 exact arz lk hcd S len λA outer s H vs Q E hr hsp=>hbody cdv A outer s H vs Q E hr hsp
theorem Qy{CX:CXT}{N:List Str}{qual:Str}{scope:Scope}{f:Addr}{cd:Value}{A:Around}{outer:List Env}{s:Shared}{H:Hp}{E:XK}:BV (dm CX P w K mg base N qual scope f cd A outer s H E).lu:=⟨rfl,rfl,rfl⟩
end
theorem aga{prog:Program}{w:World}{A:Around}{R:Result->Shared->Prop}{s:Shared}{elt target iter:Expr}{ifs:List Expr}{scope:Scope}{pos:Pos}{it acc:Value}{env:Env}(I:Nat->Shared->Prop)
 (turn:∀n s,I n s->wpAny (model prog w) A (pyNext it) (λr s₁=>match r with
   | none=>R (.ok .next) s₁
   | some v=>wpAny (model prog w) A (letOwnedTupleGo target it v) (λ_ s₁'=>wpAny (model prog w) A (assign target env v) (λ_ s₂ =>
      wpAny (model prog w) A (forIn ifs true λc r=>if r=true then do let ok <-isTrue c env (eval c env);pure (ForInStep.yield ok)else pure (ForInStep.yield r)) (λok s₃ =>
       if ok=true then wpAny (model prog w) A (eval elt env) (λx s₄ =>
        wpAny (model prog w) A (call (.builtin "list.append") [acc,x]) (λ_ s₅=>∃m,m<n/\I m s₅) (λ_ _=>False) s₄) (λ_ _=>False) s₃
       else ∃m,m<n/\I m s₃) (λ_ _=>False) s₂) (λ_ _=>False) s₁') (λ_ _=>False) s₁) (λ_ _=>False) s)
 (n:Nat) (h:I n s):codeAny (model prog w) A (.compLoop (.ListComp elt [⟨target,iter,ifs,0⟩] scope pos) 0 it acc env) R s:=by
 refine codeAny_loop rfl I (λn s hI=>?_) n h
 show wpAny _ A ((compTurn (.ListComp elt [⟨target,iter,ifs,0⟩] scope pos) 0 it acc env).onRaise (λx=>do noteFrame x env;theTreesLotGoes x)) _ _ s
 refine wpAny_noted ?_
 rw[compTurn_list]
 refine wpAny_bind (wpAny_standAt (wpAny_bind (wpAny_mono (turn n s hI) (λr s₁ h₁=>?_) λ_ _ h'=>h'.elim)))
 cases r with
 | none=>exact wpAny_pure h₁
 | some v =>
   refine wpAny_bind (wpAny_mono h₁ (λ_ s₁' h₁'=>?_) λ_ _ h'=>h'.elim)
   refine wpAny_bind (wpAny_mono h₁' (λ_ s₂ h₂=>wpAny_bind (wpAny_mono h₂ (λok s₃ h₃=>?_) λ_ _ h'=>h'.elim)) λ_ _ h'=>h'.elim)
   cases ok with
   | false=>exact wpAny_pure ⟨rfl,h₃⟩
   | true =>
     exact wpAny_bind (wpAny_bind (wpAny_mono h₃ (λx s₄ h₄=>wpAny_bind (wpAny_mono h₄ (λ_ s₅ h₅=>wpAny_pure (wpAny_pure ⟨rfl,h₅⟩)) λ_ _ h'=>h'.elim)) λ_ _ h'=>h'.elim))
def Ud(env:Env)(ys:List Str):List (Str×Addr):=ys.filterMap λy=>(env.cells.lookup y).map λc=>(y,c)
theorem iB{env:Env}:∀{ys:List Str} {x:Str} {c:Addr},(Ud env ys).lookup x=some c->x∈ys/\env.cells.lookup x=some c
 | [],_,_,h=>by simp[Ud]at h
 | y::ys,x,c,h=>by
   unfold Ud at h
   rw[List.filterMap_cons]at h
   cases e:env.cells.lookup y with
   | none =>
     rw[e]at h
     obtain⟨h1,h2⟩:=iB (ys:=ys) (x:=x) (c:=c) h
     exact⟨List.mem_cons_of_mem _ h1,h2⟩
   | some d =>
     rw[e]at h
     change List.lookup x ((y,d)::Ud env ys)=some c at h
     rw[List.lookup_cons]at h
     cases hx:x == y with
     | true =>
       rw[hx]at h
       cases h
       have q:x=y:=by simpa using hx
       subst q
       exact⟨List.mem_cons_self,e⟩
     | false =>
       rw[hx]at h
       obtain⟨h1,h2⟩:=iB (ys:=ys) (x:=x) (c:=c) h
       exact⟨List.mem_cons_of_mem _ h1,h2⟩
theorem Xe{env:Env}:∀{ys:List Str} {x:Str} {c:Addr},x∈ys->env.cells.lookup x=some c->(Ud env ys).lookup x=some c
 | [],_,_,h,_=>by simp at h
 | y::ys,x,c,h,e=>by
   unfold Ud
   rw[List.filterMap_cons]
   by_cases q:x=y
   ·subst q
    rw[e]
    show List.lookup x ((x,c)::_)=some c
    rw[List.lookup_cons]
    simp
   ·have h':x∈ys:=(List.mem_cons.mp h).resolve_left q
    have ih:=Xe (env:=env) h' e
    cases e':env.cells.lookup y with
    | none=>exact ih
    | some d =>
      show List.lookup x ((y,d)::Ud env ys)=some c
      rw[List.lookup_cons]
      have:(x == y)=false:=by simpa using q
      rw[this]
      exact ih
def zP(X:Cx):List Str->List Nat->Prop
 | [],[]=>True
 | y::ys,j::js=>(X.N[j]? = some y/\(X.env.kindOf y=some .cell\/X.env.kindOf y=some .free))/\zP X ys js
 | _,_=>False
def pick(σ:St)(js:List Nat):St:=js.map λj=>(σ[j]?).getD none
structure ym(X:Cx)(scope:Scope)(xs ys:List Str)(js:List Nat):Prop where
 kind:scope.kind=.function
 names:∀p∈scope.names,(p.2=.local/\scope.names.lookup p.1=some .local)\/(p.2=.free/\p.1∈ys/\scope.names.lookup p.1=some .free)\/(p.2=.globalImplicit/\scope.names.lookup p.1=some .globalImplicit)
 own:∀x∈xs,scope.names.lookup x=some .local
 frees:∀y∈ys,scope.names.lookup y=some .free
 clos:closureFor scope X.env=pure (Ud X.env ys)
 fr:zP X ys js
def blk(X:Cx)(scope:Scope)(xs ys:List Str)(C:Addr)(s₀:Shared)(H₀:Hp)(fp:List Addr)(pl:List (Addr×Obj)):Cx :=
 {X with N:=xs++ys,s₀:=s₀,H₀:=H₀,env:=compEnvC scope (Ud X.env ys) C X.env,outer:=X.stack,ex:=fp,fn:=λy=>xs.contains y,pn:=X.pn++pl,xe:=λ_ _=>False}
def awq(X:Cx)(pins:List (Addr×Obj))(H:Hp)(C:Addr):Prop :=
 H C=none/\C≠X.env.locals/\X.s₀.heap.objs.size<=C/\(∀x c,X.env.cells.lookup x=some c->c≠C)/\∀p∈X.pn++pins,p.1≠C
theorem Inv.let_go{X:Cx}{pins:List (Addr×Obj)}{σ:St}{H:Hp}{s:Shared}{C:Addr}{h':Heap}(I:Inv X pins σ H s)(j:awq X pins H C)(hs:Heap.SameBut C s.heap h'):Inv X pins σ H {s with heap:=h'} :=
 I.turned (t':=s.toks) (λb _ hb e=>(hs.2 b hb).trans e) j.1 j.2.1 (.inr j.2.2.1) j.2.2.2.1 j.2.2.2.2
def EY(J:It)(g:TG)(tc:TT)(te:TE)(σ:St)(acc:Addr)(H1:Hp)(Q:VK):Prop :=
 ∃W:Nat->Nat->List V->St->Hp->Prop,(∃m,W 0 m [] σ (upd H1 acc (.lst [])))/\∀i m zs σ H2,W i m zs σ H2->H2 acc=some (.lst zs)/\
  ((J.stop i H2/\Q (.ref acc) H2)\/(J.go i H2/\∀y H3,J.yld i H2 y H3->g y σ H3 λσ4 H4=>tc σ4 H4 λb H5=>if b=true then te σ4 H5 λz H6=>H6 acc=some (.lst zs)/\zs.length<sizeLine/\∃m',m'<m/\W (i+1) m' (zs++[z]) σ4 (upd H6 acc (.lst (zs++[z])))
    else ∃m',m'<m/\W (i+1) m' zs σ4 H5))
def arD(wi:TI)(n:Nat)(js:List Nat)(g:TG)(tc:TT)(te:TE):TE:=λσ H Q=>wi σ H λJ H1=>∀acc,H1 acc=none->EY J g tc te (List.replicate n none++pick σ js) acc H1 Q
def amw(X:Cx)(ifs:List Expr)(tc:TT):Prop :=
 ∀(pins:List (Addr×Obj)) (s:Shared) (σ:St) (H:Hp) (Q:Bool->Hp->Prop),Inv X pins σ H s->tc σ H Q->
  wpAny (model X.prog X.w) X.A (forIn ifs true λc r=>if r=true then do let ok <-isTrue c X.env (eval c X.env);pure (ForInStep.yield ok)else pure (ForInStep.yield r)) (TP X pins σ Q) X.xe s
def ak4:TT:=λ_ H Q=>Q true H
theorem kY{X:Cx}:amw X [] ak4:=λ_ _ _ H _ I h=>wpAny_tests_nil ⟨H,I,h⟩
theorem aj2{X:Cx}{c:Expr}{tc:TT}(h:PT X c tc):amw X [c] tc:=λpins s σ H Q I q=>wpAny_tests_one (h pins s σ H Q I q)
section
variable{X:Cx}{scope:Scope}{xs ys:List Str}{js:List Nat}{elt target iter:Expr}{ifs:List Expr}{pos px:Pos}{wi:TI}{g:TG}{tc:TT}{te:TE}
theorem zP.get:∀{ys:List Str} {js:List Nat} {i:Nat} {y:Str},zP X ys js->ys[i]? = some y->∃j,js[i]? = some j/\X.N[j]? = some y/\(X.env.kindOf y=some .cell\/X.env.kindOf y=some .free)
 | [],_,_,_,_,h=>by simp at h
 | _::_,[],_,_,f,_=>f.elim
 | y'::ys,j::js,0,y,f,h=>by
   have e:y'=y:=by simpa using h
   subst e
   exact⟨j,rfl,f.1⟩
 | y'::ys,j::js,i+1,y,f,h=>by
   obtain⟨j',h1,h2⟩:=zP.get (i:=i) (y:=y) f.2 (by simpa using h)
   exact⟨j',by simpa using h1,h2⟩
theorem zP.len:∀{ys:List Str} {js:List Nat},zP X ys js->ys.length=js.length
 | [],[],_=>rfl
 | [],_::_,f=>f.elim
 | _::_,[],f=>f.elim
 | _::ys,_::js,f=>by simp[zP.len f.2]
theorem rT{env:Env}:∀{names:List (Str×NameKind)} {x:Str},names.lookup x=some .free->
 (names.map λ(n,k)=>if(k == NameKind.free && env.scope.kind == .function && env.kindOf n == some .cell)then(n,NameKind.cell)else(n,k)).lookup x=some .cell\/
 (names.map λ(n,k)=>if(k == NameKind.free && env.scope.kind == .function && env.kindOf n == some .cell)then(n,NameKind.cell)else(n,k)).lookup x=some .free
 | [],_,h=>by simp at h
 | (n,k)::r,x,h=>by
   have ih := @rT env r x
   show List.lookup x ((if(k == NameKind.free && env.scope.kind == .function && env.kindOf n == some .cell)=true then(n,NameKind.cell)else(n,k))::_)=_\/List.lookup x ((if(k == NameKind.free && env.scope.kind == .function && env.kindOf n == some .cell)=true then(n,NameKind.cell)else(n,k))::_)=_
   cases hx:x == n with
   | true =>
     simp only[List.lookup_cons,hx]at h
     cases h
     by_cases hc:(NameKind.free == NameKind.free && env.scope.kind == .function && env.kindOf n == some .cell)=true
     ·rw[if_pos hc];left;simp[List.lookup_cons,hx]
     ·rw[if_neg hc];right;simp[List.lookup_cons,hx]
   | false =>
     simp only[List.lookup_cons,hx]at h
     by_cases hc:(k == NameKind.free && env.scope.kind == .function && env.kindOf n == some .cell)=true
     ·rw[if_pos hc];simp only[List.lookup_cons,hx];exact ih h
     ·rw[if_neg hc];simp only[List.lookup_cons,hx];exact ih h
theorem Fb{env:Env}:∀{names:List (Str×NameKind)} {x:Str} {k:NameKind},(names.map λ(n,k)=>if(k == NameKind.free && env.scope.kind == .function && env.kindOf n == some .cell)then(n,NameKind.cell)else(n,k)).lookup x=some k->
 ∃p∈names,p.1=x/\(p.2=k\/(p.2=.free/\k=.cell))
 | [],_,_,h=>by simp at h
 | (n,k')::r,x,k,h=>by
   have h:List.lookup x ((if(k' == NameKind.free && env.scope.kind == .function && env.kindOf n == some .cell)=true then(n,NameKind.cell)else(n,k'))::_)=some k:=h
   have ih := @Fb env r x k
   by_cases hc:(k' == NameKind.free && env.scope.kind == .function && env.kindOf n == some .cell)=true
   ·rw[if_pos hc,List.lookup_cons]at h
    cases hx:x == n with
    | true =>
      rw[hx]at h
      cases h
      refine⟨(n,k'),List.mem_cons_self,(by simpa using hx:x=n).symm,Or.inr ⟨?_,rfl⟩⟩
      rw[Bool.and_eq_true,Bool.and_eq_true]at hc
      simpa using hc.1.1
    | false =>
      rw[hx]at h
      obtain⟨p,h1,h2⟩:=ih h
      exact⟨p,List.mem_cons_of_mem _ h1,h2⟩
   ·rw[if_neg hc,List.lookup_cons]at h
    cases hx:x == n with
    | true =>
      rw[hx]at h
      cases h
      exact⟨(n,k'),List.mem_cons_self,(by simpa using hx:x=n).symm,Or.inl rfl⟩
    | false =>
      rw[hx]at h
      obtain⟨p,h1,h2⟩:=ih h
      exact⟨p,List.mem_cons_of_mem _ h1,h2⟩
theorem ak5{pins:List (Addr×Obj)}{σ:St}{H:Hp}{s:Shared}{h':Heap}{fp:List Addr}{tk:Nat}(S:ym X scope xs ys js)(I:Inv X pins σ H s)(hf:∀b∈fp,Ly X pins H b)(hfl:∀b∈fp,b<s.heap.objs.size)
 (hn:h'.Ns s.heap.objs.size λ_=>none) (k:∀b o,s.heap.get? b=some o->h'.get? b=some o) :
 Inv (blk X scope xs ys s.heap.objs.size s H fp pins) [] (List.replicate xs.length none++pick σ js) H {s with heap:=h',toks:=tk}:=by
 have hfr:∀a,s.heap.objs.size<=a->H a=none:=λa ha=>I.hok.fresh ha
 have fpS:∀b∈fp,b∉L2.frs X.stack:=λb hb z=>by
  rcases List.mem_cons.mp (I.WT b z)with e | e
  ·exact(hf b hb).2.1 e
  ·exact(hf b hb).2.2.1 e
 have azG:∀x,((relabel scope X.env).names.lookup x=some .cell\/(relabel scope X.env).names.lookup x=some .free)->x∈ys:=λx hx=>by
  rcases hx with z | z
  ·obtain⟨p,hp,e,z⟩:=Fb z
   rcases S.names p hp with ⟨h1,_⟩ | ⟨_,h2,_⟩ | ⟨h1,_⟩
   ·rcases z with z | z
    ·rw[h1]at z;cases z
    ·rw[h1]at z;cases z.1
   ·rw[<-e];exact h2
   ·rcases z with z | z
    ·rw[h1]at z;cases z
    ·rw[h1]at z;cases z.1
  ·obtain⟨p,hp,e,z⟩:=Fb z
   rcases S.names p hp with ⟨h1,_⟩ | ⟨_,h2,_⟩ | ⟨h1,_⟩
   ·rcases z with z | z
    ·rw[h1]at z;cases z
    ·cases z.2
   ·rw[<-e];exact h2
   ·rcases z with z | z
    ·rw[h1]at z;cases z
    ·cases z.2
 refine⟨⟨I.ok.mod,S.kind,I.ok.glob,I.ok.blt,Nat.le_refl _,λx y c h1 h2=>I.ok.inj x y c (iB h1).2 (iB h2).2,λx hx=>?_,λx c h1 h2=>?_,I.ok.hd,I.ok.frames,.inl rfl,λb hb=>⟨?_,λx c e=>(hf b hb).2.2.2.2.1 x c (iB e).2⟩,
  I.bs,Nat.le_trans I.ok.bsz I.sz,λb o e z=>?_,fpS,I.stack,I.acR⟩,rfl,I.bare,Un.kept k,⟨_,hn,λi y v e1 e2 e3=>?_⟩,λx c e=>?_,hfr _ (Nat.le_refl _),λx c e=>?_,λp hp=>?_,I.hok.kept k,?_⟩
 ·have q:x∈ys:=azG x hx
  obtain⟨i,hi⟩:=List.getElem?_of_mem q
  obtain⟨j,_,_,hk⟩:=S.fr.get hi
  obtain⟨c,hc⟩:=I.ok.has x hk
  exact⟨c,Xe q hc⟩
 ·have q:=(iB h2).1
  have h1':x∈xs:=by
   have:xs.contains x=true:=h1
   simpa using this
  have a:=S.own x h1'
  have b:=S.frees x q
  rw[a]at b
  cases b
 ·intro z
  have z':b=s.heap.objs.size:=z
  have:=hfl b hb
  rw[z']at this
  exact Nat.lt_irrefl _ this
 ·rcases (hf b z).2.2.2.1 with q | q
  ·exact I.ok.afO b o e q
  ·exact absurd (Nat.lt_of_lt_of_le (Heap.lt_size (I.ok.bs b o e).1) q) (Nat.lt_irrefl _)
 ·have e1':(xs++ys)[i]? = some y:=e1
  by_cases hi:i<xs.length
  ·rw[List.getElem?_append_left (by rw[List.length_replicate];exact hi),List.getElem?_replicate]at e2
   split at e2<;>cases e2
  ·rw[List.getElem?_append_right (by lia)]at e1'
   rw[List.getElem?_append_right (by rw[List.length_replicate];lia),List.length_replicate]at e2
   obtain⟨j,hj,hN,hk⟩:=S.fr.get e1'
   unfold pick at e2
   rw[List.getElem?_map,hj]at e2
   have e4:σ[j]? = some (some v):=by
    have e5:(σ[j]?).getD none=some v:=by simpa using e2
    cases q:σ[j]? with
    | none=>rw[q]at e5;cases e5
    | some o=>rw[q]at e5;simpa using e5
   have azH:Vis X.env.scope y:=by
    rcases hk with z | z
    ·exact .inr (.inl z)
    ·exact .inr (.inr z)
   obtain⟨m0,_,hl⟩:=I.loc
   obtain⟨u,ru,lk⟩:=hl j y v hN e4 azH
   refine⟨u,ru,.inr ⟨?_,?_⟩⟩
   ·exact rT (S.frees y (List.mem_of_getElem? e1'))
   ·rcases lk with ⟨z,_⟩ | ⟨_,c,hc,hcell⟩
    ·rcases hk with q | q
     ·rw[q]at z;cases z
     ·rw[q]at z;cases z
    ·exact⟨c,Xe (List.mem_of_getElem? e1') hc,hcell.keeps k⟩
 ·obtain⟨v,z⟩:=I.cell x c (iB e).2
  exact⟨v,z.keeps k⟩
 ·exact I.vD x c (iB e).2
 ·have hp':p∈X.pn++pins:=by
   have:p∈(X.pn++pins)++[]:=hp
   rwa[List.append_nil]at this
  obtain⟨e,n,ne,nf,d⟩:=I.pin p hp'
  refine⟨k _ _ e,n,λz=>?_,λz=>?_,d⟩
  ·have z':p.1=s.heap.objs.size:=z
   exact absurd (Heap.lt_size e) (by rw[z'];exact Nat.lt_irrefl _)
  ·have z':p.1∈L2.frs X.stack:=z
   rcases List.mem_cons.mp (I.WT _ z')with q | q
   ·exact ne q
   ·exact nf q
 ·show(List.replicate xs.length none++pick σ js).length=(xs++ys).length
  rw[List.length_append,List.length_append,List.length_replicate]
  unfold pick
  rw[List.length_map,S.fr.len]
theorem agb{pins:List (Addr×Obj)}{σ:St}{H2:Hp}{s2:Shared}{J:It}{fp:List Addr}{it:Addr}{tn:Nat->Heap->Prop}{Q:VK}(S:ym X scope xs ys js)(hc:X.calm=true)(I2:Inv X pins σ H2 s2)(T:Turn X.prog X.w X.K target J fp it tn)(st2:tn 0 s2.heap)
 (f2:∀b∈fp,Ly X pins H2 b) (hg:∀C s₀ H₀ fp pl,PG (blk X scope xs ys C s₀ H₀ fp pl) target g) (hi:∀C s₀ H₀ fp pl,amw (blk X scope xs ys C s₀ H₀ fp pl) ifs tc) (he:∀C s₀ H₀ fp pl,PE (blk X scope xs ys C s₀ H₀ fp pl) elt te)
 (rd:∀acc,H2 acc=none->EY J g tc te (List.replicate xs.length none++pick σ js) acc H2 Q) {RR:Value->Addr->Result->Shared->Prop}
 (hRR:∀acc C H' s' m,s'.heap.Ns C m->Inv X pins σ H' s'->awq X pins H' C->Q (.ref acc) H'->RR (.ref acc) C (.ok .next) s') :
 wpAny (model X.prog X.w) X.A (newList []) (λacc s₃=>wpAny (model X.prog X.w) X.A (newFunctionEnv scope X.env.globals (Ud X.env ys) [] X.env.qual none .none (some X.env)) (λcenv s₄ =>
  codeAny (model X.prog X.w) X.A (.compStart (.ListComp elt [⟨target,iter,ifs,0⟩] scope pos) 0 (.ref it) acc {cenv with scope:=relabel scope X.env}) (RR acc cenv.locals) s₄) X.xe s₃) X.xe s2:=by
 have asO:H2 s2.heap.objs.size=none:=I2.hok.fresh (Nat.le_refl _)
 obtain⟨W,⟨m0,w0⟩,turn⟩:=rd _ asO
 have hcell:∀y∈scope.names,y.2≠.cell:=λy hy z=>by
  rcases S.names y hy with ⟨q,_⟩ | ⟨q,_⟩ | ⟨q,_⟩<;>rw[q]at z<;>cases z
 refine wpAny_newObj_type (wpAny_newFunctionEnv hcell (by intro y hy;simp at hy) (λh₁ hns₁ hsb₁=>?_) S.kind)
 dsimp only at hns₁ hsb₁ ⊢
 have I3:Inv X pins σ (upd H2 s2.heap.objs.size (.lst [])) {s2 with heap:=s2.heap.push {cls:=.type "list",dict:=none,data:=.seq ([]:List Value).toArray},toks:=s2.toks}:=I2.asA (its:=[]) .nil (Nat.zero_le _)
 generalize hs3:({s2 with heap:=s2.heap.push {cls:=.type "list",dict:=none,data:=.seq ([]:List Value).toArray},toks:=s2.toks}:Shared)=s3 at I3
 have hh3:s2.heap.push {cls:=.type "list",dict:=none,data:=.seq ([]:List Value).toArray}=s3.heap:=by rw[<-hs3]
 rw[hh3]at hns₁ hsb₁ ⊢
 have ne2:∀b∈fp,b<s2.heap.objs.size:=λb hb=>by
  obtain⟨o,e,_⟩:=T.obj 0 _ st2 b hb
  exact Heap.lt_size e
 have sz3:s3.heap.objs.size=s2.heap.objs.size+1:=by rw[<-hh3,Heap.size_push]
 have f3:∀b∈fp,Ly X pins (upd H2 s2.heap.objs.size (.lst [])) b:=λb hb=>by
  obtain⟨a1,a2⟩:=f2 b hb
  exact⟨by rw[aq (Nat.ne_of_lt (ne2 b hb))];exact a1,a2⟩
 have k3:∀b o,s3.heap.get? b=some o->h₁.get? b=some o:=λb o e=>hsb₁.extBut b o (Nat.ne_of_lt (Heap.lt_size e)) (Heap.get?_push_of_some _ e)
 have IB:=ak5 (tk:=s3.toks) S I3 f3 (λb hb=>by rw[sz3];exact Nat.lt_succ_of_lt (ne2 b hb)) (by simpa using hns₁) k3
 have st3:tn 0 h₁:=T.keep 0 _ _ st2 λb hb o e=>k3 b o (by rw[<-hh3];exact Heap.get?_push_of_some _ e)
 have stat:∀{H':Hp},(∀b∈fp,H' b=none)->∀b∈fp,Ly (blk X scope xs ys s3.heap.objs.size s3 (upd H2 s2.heap.objs.size (.lst [])) fp pins) [] H' b:=λ{H'} hn b hb=>by
  obtain⟨a1,a2,a3,a4,a5,a6⟩:=f3 b hb
  refine⟨hn b hb,λz=>?_,λz=>?_,.inl hb,λx c e=>a5 x c (iB e).2,λp hp=>a6 p ?_⟩
  ·have z':b=s3.heap.objs.size:=z
   have:=ne2 b hb
   rw[z',sz3]at this
   exact absurd this (Nat.not_lt.mpr (Nat.le_succ _))
  ·have z':b∈L2.frs X.stack:=z
   rcases List.mem_cons.mp (I3.WT _ z')with q | q
   ·exact a2 q
   ·exact a3 q
  ·have:p∈(X.pn++pins)++[]:=hp
   rwa[List.append_nil]at this
 have loop:∀s₄:Shared,s₄={s3 with heap:=h₁,toks:=s3.toks}->
  codeAny (model X.prog X.w) X.A (.compLoop (.ListComp elt [⟨target,iter,ifs,0⟩] scope pos) 0 (.ref it) (.ref s2.heap.objs.size) (compEnvC scope (Ud X.env ys) s3.heap.objs.size X.env)) (RR (.ref s2.heap.objs.size) s3.heap.objs.size) s₄:=by
  rintro s₄ rfl
  refine aga (λn s'=>∃i zs σ' H',Inv (blk X scope xs ys s3.heap.objs.size s3 (upd H2 s2.heap.objs.size (.lst [])) fp pins) [] σ' H' s'/\tn i s'.heap/\(∀b∈fp,H' b=none)/\W i n zs σ' H') ?_ m0 ⟨0,[],_,_,IB,st3,λb hb=>(f3 b hb).1,w0⟩
  rintro n s5 ⟨i,zs,σ5,H5,I5,st5,fr5,w5⟩
  obtain⟨hacc,tt⟩:=turn i n zs σ5 H5 w5
  rcases tt with ⟨stop,qn⟩ | ⟨go,step⟩
  ·refine gq (T.done (blk X scope xs ys s3.heap.objs.size s3 (upd H2 s2.heap.objs.size (.lst [])) fp pins) rfl rfl rfl hc i [] s5 σ5 H5 _ I5 (stat fr5) st5 stop) λr s6 ⟨hr,I6⟩=>?_
   subst hr
   obtain⟨m,hm,_⟩:=I6.loc
   have I6':Inv X pins σ H5 s6:=I3.call' (ch:=fp) I6.os I6.base I6.hok I6.bare λb hb=>⟨(f3 b hb).2.2.2.1,(f3 b hb).2.1,(f3 b hb).2.2.2.2.1,(f3 b hb).2.2.2.2.2⟩
   refine hRR _ _ H5 s6 m hm I6' ⟨I6.free,Nat.ne_of_gt I3.lt,I3.sz,λx c e z=>?_,λp hp z=>?_⟩ qn
   ·obtain⟨v,q⟩:=I3.cell x c e
    have:=q.lt
    rw[z]at this
    exact Nat.lt_irrefl _ this
   ·have:=Heap.lt_size (I3.pin p hp).1
    rw[z]at this
    exact Nat.lt_irrefl _ this
  ·refine gq (T.item (blk X scope xs ys s3.heap.objs.size s3 (upd H2 s2.heap.objs.size (.lst [])) fp pins) rfl rfl rfl hc i [] s5 σ5 H5 _ I5 (stat fr5) st5 go) λr s6 ⟨u,hr,h6⟩=>?_
   subst hr
   refine gq h6 λ_ s7 hz=>lA hz λx H7 I7 r7 ⟨y7,st7,fr7⟩=>?_
   have I7':=I7.pinned (stat fr7) (T.obj _ _ st7)
   refine gq (hg _ _ _ _ _ _ s7 σ5 H7 x u _ I7' r7 (step x H7 y7)) λ_ s8 hz=>ex4 hz λσ8 H8 I8 q8=>?_
   have again:∀{zs':List V} {σ9:St} {H9:Hp} {s9:Shared},Inv (blk X scope xs ys s3.heap.objs.size s3 (upd H2 s2.heap.objs.size (.lst [])) fp pins) ([]++WY fp s7.heap) σ9 H9 s9->(∃m',m'<n/\W (i+1) m' zs' σ9 H9)->
    ∃m,m<n/\∃i zs σ' H',Inv (blk X scope xs ys s3.heap.objs.size s3 (upd H2 s2.heap.objs.size (.lst [])) fp pins) [] σ' H' s9/\tn i s9.heap/\(∀b∈fp,H' b=none)/\W i m zs σ' H':=λ{zs' σ9 H9 s9} I9 ⟨m',hm,w9⟩=>by
    refine⟨m',hm,i+1,zs',σ9,H9,I9.Lz,T.keep _ _ _ st7 λb hb o e=>(I9.pin (b,o) (List.mem_append_right _ (List.mem_append_right _ (zJ hb e)))).1,λb hb=>?_,w9⟩
    obtain⟨o,e,d⟩:=T.obj _ _ st7 b hb
    exact(I9.pin (b,o) (List.mem_append_right _ (List.mem_append_right _ (zJ hb e)))).2.1
   refine gq (hi _ _ _ _ _ _ s8 σ8 H8 _ I8 q8) λok s9 hz=>ex3 hz λH9 I9 q9=>?_
   cases ok with
   | false =>
     rw[if_neg Bool.false_ne_true]at q9 ⊢
     exact again I9 q9
   | true =>
     rw[if_pos rfl]at q9 ⊢
     refine gq (he _ _ _ _ _ _ s9 σ8 H9 _ I9 q9) λz s10 hz=>lA hz λzv H10 I10 rz ⟨azJ,azK,q10⟩=>?_
     refine gq (cD _ s10 σ8 H10 (.ref s2.heap.objs.size) [zv] (.ref s2.heap.objs.size) [z] (λ_ H11=>H11=upd H10 s2.heap.objs.size (.lst (zs++[zv]))) I10 rfl (.cons rz .nil) ⟨_,zs,zv,rfl,rfl,azJ,azK,rfl⟩) λ_ s11 hz=>lA hz λ_ H11 I11 _ e11=>?_
     subst e11
     exact again I11 q10
 have e4:({s2 with heap:=h₁,toks:=s2.toks+([]:List (Str×Value)).length}:Shared)={s3 with heap:=h₁,toks:=s3.toks}:=by
  rw[<-hs3]
  rfl
 exact codeAny_compStart_list (loop _ e4) (T.self X.A 0 _ _ _ st3 (loop _ e4))
theorem jJ(S:ym X scope xs ys js)(hc:X.calm=true)(hw:PI X target iter wi)(hg:∀C s₀ H₀ fp pl,PG (blk X scope xs ys C s₀ H₀ fp pl) target g)(hi:∀C s₀ H₀ fp pl,amw (blk X scope xs ys C s₀ H₀ fp pl) ifs tc)(he:∀C s₀ H₀ fp pl,PE (blk X scope xs ys C s₀ H₀ fp pl) elt te)
 (hs:∀x,foldedSetIterable iter X.env x=pure x:=by intro _;rfl):PE X (.ListComp elt [⟨target,iter,ifs,0⟩] scope pos) (arD wi xs.length js g tc te):=by
 intro pins s σ H Q I h
 rw[eval_ListComp]
 refine wpAny_comprehension_free (use:=none) rfl hs S.clos S.kind (λx hx hl=>?_) (gq (hw pins s σ H _ I h) λv s1 h1=>gq h1 λitv s2 h2=>?_)
 ·rcases S.names x hx with ⟨_,q⟩ | ⟨q,_⟩ | ⟨q,_⟩
  ·exact q
  ·rw[q]at hl;cases hl
  ·rw[q]at hl;cases hl
 obtain⟨it,fp,tn,J,H2,e,I2,T,st2,f2,rd⟩:=h2
 subst e
 refine agb (RR:=λacc C=>compPost (model X.prog X.w) X.A X.xe none (EP X pins σ Q) acc C) S hc I2 T st2 f2 hg hi he rd λacc C H' s' m hm I' jk q=>?_
 exact⟨m,hm,λh' hsb=>⟨.ref acc,H',I'.let_go jk hsb,rfl,q⟩⟩
def awt(i:Nat)(t:TE):TS:=λD σ H=>t σ H λv H1=>D.nx (σ.set i (some v)) H1
theorem aiD{i:Nat}{x:Str}{py:Pos}{spos:Pos}(hN:X.N.Nodup)(hix:X.N[i]? = some x)(hlo:X.env.scope.names.lookup x=some .local)(S:ym X scope xs ys js)(hc:X.calm=true)(hw:PI X target iter wi)(hg:∀C s₀ H₀ fp pl,PG (blk X scope xs ys C s₀ H₀ fp pl) target g)(hi:∀C s₀ H₀ fp pl,amw (blk X scope xs ys C s₀ H₀ fp pl) ifs tc)(he:∀C s₀ H₀ fp pl,PE (blk X scope xs ys C s₀ H₀ fp pl) elt te)
 (hsw:swapsWith (.ListComp elt [⟨target,iter,ifs,0⟩] scope pos) (some (.Name x py)) spos.line X.env=pure true:=by rfl) (hs:∀x,foldedSetIterable iter X.env x=pure x:=by intro _;rfl) :
 PS X (.Assign [.Name x py] (.ListComp elt [⟨target,iter,ifs,0⟩] scope pos) spos) (awt i (arD wi xs.length js g tc te)):=by
 intro pins s σ H D I h
 rw[exec_Assign_Name_used _ _ _ _ hsw]
 refine wpAny_bind (wpAny_standAt (wpAny_bind ?_))
 show wpAny _ X.A (do let _ <-comprehension (.ListComp elt [⟨target,iter,ifs,0⟩] scope pos) scope X.env _ (newList []) false (eval iter X.env) (some (assign (.Name x py) X.env))) _ _ s
 refine wpAny_bind (wpAny_mono (wpAny_comprehension_free (Q:=λ_ s'=>SP X pins D .next s') rfl hs S.clos S.kind (λx hx hl=>?_) (gq (hw pins s σ H _ I h) λv s1 h1=>gq h1 λitv s2 h2=>?_)) (λ_ s' hq=>wpAny_pure (wpAny_pure hq)) λ_ _ e=>e)
 ·rcases S.names x hx with ⟨_,q⟩ | ⟨q,_⟩ | ⟨q,_⟩
  ·exact q
  ·rw[q]at hl;cases hl
  ·rw[q]at hl;cases hl
 obtain⟨it,fp,tn,J,H2,e,I2,T,st2,f2,rd⟩:=h2
 subst e
 refine agb (RR:=λacc C=>compPost (model X.prog X.w) X.A X.xe (some (assign (.Name x py) X.env)) (λ_ s'=>SP X pins D .next s') acc C) S hc I2 T st2 f2 hg hi he rd λacc C H' s' m hm I' jk q=>?_
 refine wpAny_assign_Name (ab1 I' hN hix (Or.inl hlo) (v:=.ref acc) rfl (λs'' I'' hsb=>?_) (Or.inr hlo))
 obtain⟨a,hsb,ha⟩:=hsb
 have hCa:C≠a:=by
  rcases ha with e | e
  ·rw[e];exact jk.2.1
  ·exact(jk.2.2.2.1 _ _ e).symm
 exact⟨m,hm.sameBut hsb hCa,λh' hs'=>⟨_,_,I''.let_go jk hs',q⟩⟩
end
theorem fM{X:Cx}{scope:Scope}{xs ys:List Str}{js:List Nat}(kind:scope.kind=.function)
 (names:∀p∈scope.names,(p.2=.local/\scope.names.lookup p.1=some .local)\/(p.2=.free/\p.1∈ys/\scope.names.lookup p.1=some .free)\/(p.2=.globalImplicit/\scope.names.lookup p.1=some .globalImplicit)) (own:∀x∈xs,scope.names.lookup x=some .local) (frees:∀y∈ys,scope.names.lookup y=some .free)
 (clos:closureFor scope X.env=pure (Ud X.env ys)) (fr:zP X ys js):ym X scope xs ys js:=⟨kind,names,own,frees,clos,fr⟩
def t8(n:Nat)(acc:Addr)(Pv:Nat->List V->St->Hp->Prop)(i:Nat)(zs:List V)(σ4:St):VK:=λz H6 =>
 H6 acc=some (.lst zs)/\zs.length<sizeLine/\∃m',m'<n - i/\(m'=n - (i+1)/\i+1<=n/\Pv (i+1) (zs++[z]) σ4 (upd H6 acc (.lst (zs++[z]))))
def Xf(n:Nat)(Pv:Nat->List V->St->Hp->Prop)(i:Nat)(zs:List V)(σ4:St)(H5:Hp):Prop:=∃m',m'<n - i/\(m'=n - (i+1)/\i+1<=n/\Pv (i+1) zs σ4 H5)
theorem t8.mk{n i:Nat}{acc:Addr}{Pv:Nat->List V->St->Hp->Prop}{zs:List V}{σ4:St}{z:V}{H6:Hp}(hi:i<n)(h1:H6 acc=some (.lst zs))(h2:zs.length<sizeLine)(p:Pv (i+1) (zs++[z]) σ4 (upd H6 acc (.lst (zs++[z])))):t8 n acc Pv i zs σ4 z H6 :=
 ⟨h1,h2,_,by lia,rfl,hi,p⟩
theorem Xf.mk{n i:Nat}{Pv:Nat->List V->St->Hp->Prop}{zs:List V}{σ4:St}{H5:Hp}(hi:i<n)(p:Pv (i+1) zs σ4 H5):Xf n Pv i zs σ4 H5:=⟨_,by lia,rfl,hi,p⟩
theorem yo{K:PySem.W.Frag}{a acc:Addr}{xs:List V}{g:TG}{tc:TT}{te:TE}{σ:St}{H1:Hp}{Q:VK}(Pv:Nat->List V->St->Hp->Prop)(h0:Pv 0 [] σ (upd H1 acc (.lst [])))
 (hl:∀i zs σ H,i<=xs.length->Pv i zs σ H->bZ K H a xs/\H acc=some (.lst zs))
 (hs:∀i x zs σ H,xs[i]? = some x->i<xs.length->Pv i zs σ H->g x σ H λσ4 H4=>tc σ4 H4 λb H5=>if b=true then te σ4 H5 (t8 xs.length acc Pv i zs σ4)else Xf xs.length Pv i zs σ4 H5)
 (hd:∀zs σ H,Pv xs.length zs σ H->Q (.ref acc) H):EY (Itl K a) g tc te σ acc H1 Q:=by
 refine⟨λi m zs σ H=>m=xs.length - i/\i<=xs.length/\Pv i zs σ H,⟨_,rfl,Nat.zero_le _,h0⟩,?_⟩
 rintro i m zs σ H2 ⟨rfl,hi,p⟩
 obtain⟨q,ha⟩:=hl i zs σ H2 hi p
 refine⟨ha,?_⟩
 by_cases hlt:i<xs.length
 ·refine .inr ⟨⟨xs,xs[i],q,by simp[hlt]⟩,λy H3 yl=>?_⟩
  obtain⟨e,yl⟩:=yl
  subst e
  exact hs i y zs σ _ (yl xs q) hlt p
 ·have e:i=xs.length:=by lia
  subst e
  exact .inl ⟨⟨xs,q,Nat.le_refl _⟩,hd zs σ H2 p⟩
theorem zQ{lo:Int}{n:Nat}{acc:Addr}{g:TG}{tc:TT}{te:TE}{σ:St}{H1:Hp}{Q:VK}(Pv:Nat->List V->St->Hp->Prop)(h0:Pv 0 [] σ (upd H1 acc (.lst [])))
 (hl:∀i zs σ H,i<=n->Pv i zs σ H->H acc=some (.lst zs))
 (hs:∀i zs σ H,i<n->Pv i zs σ H->g (.int (lo+i)) σ H λσ4 H4=>tc σ4 H4 λb H5=>if b=true then te σ4 H5 (t8 n acc Pv i zs σ4)else Xf n Pv i zs σ4 H5)
 (hd:∀zs σ H,Pv n zs σ H->Q (.ref acc) H):EY (Itr lo n) g tc te σ acc H1 Q:=by
 refine⟨λi m zs σ H=>m=n - i/\i<=n/\Pv i zs σ H,⟨_,rfl,Nat.zero_le _,h0⟩,?_⟩
 rintro i m zs σ H2 ⟨rfl,hi,p⟩
 have ha:=hl i zs σ H2 hi p
 refine⟨ha,?_⟩
 by_cases hlt:i<n
 ·refine .inr ⟨hlt,λy H3 yl=>?_⟩
  obtain⟨e,yl⟩:=yl
  subst e yl
  exact hs i zs σ _ hlt p
 ·have e:i=n:=by lia
  subst e
  exact .inl ⟨Nat.le_refl _,hd zs σ H2 p⟩
theorem aj3{σ:St}{H:Hp}{A B:Hp->Prop}(h:A H):ak4 σ H (λb H5=>if b=true then A H5 else B H5):=by
 show if true=true then A H else B H
 rw[if_pos rfl]
 exact h
theorem zR{i:Nat}{v:V}{σ:St}{H:Hp}{A B:St->Hp->Prop}(h:A (σ.set i (some v)) H):ab2 i v σ H λσ4 H4=>ak4 σ4 H4 λb H5=>if b=true then A σ4 H5 else B σ4 H5:=aj3 (σ:=σ.set i (some v)) (A:=A (σ.set i (some v))) (B:=B (σ.set i (some v))) h
section
variable{X:Cx}{x y:Str}{pos:Pos}{a:Addr}{T:String}
theorem iC(hg:Gl X x)(h:∃t,X.mg x=some (.str y t))(hd:(x == ("__debug__":Str))=false:=by decide):PE X (.Name x pos) (tC (.str y)):=by
 obtain⟨t,h⟩:=h
 exact aoJ hg h ⟨t,rfl⟩ hd
theorem uc(hg:Gl X x)(hm:X.mg x=none)(hv:bootBuiltins x=some (.type T))(hn:x≠"__name__":=by decide) (hd:(x == ("__debug__":Str))=false:=by decide):PE X (.Name x pos) (tC (.ty T)):=aoK hg hm hv rfl hn hd
end
theorem Ue(l:Addr)(items:Array Value)(n:Nat)(b:Addr)(items2:Array Value)(n2:Nat)(dd:Option Addr)(sl:Array (Option Value))(hs0:¬(!items.isEmpty && Builtin.List.listTooLong (items.size+items2.size))=true)(hs1:items.size<=sizeLine)(hs2:items.size+items2.size<=sizeLine+1) :
 Meets (Builtin.«list.extend» ⟨[.ref l,.ref b],[]⟩) (λ_ R s=>s.heap.get? l=some {cls:=.type "list",dict:=none,data:=.seq items n,slots := #[]}/\s.heap.get? b=some {cls:=.type "tuple",dict:=dd,data:=.seq items2 n2,slots:=sl}/\R (.ok (.ret Value.none)) {s with heap:=s.heap.update l (Obj.mapSeq λx=>x++items2),toks:=s.toks}) :=
 .of_wp λprog w A R s h=>by
  obtain⟨hp,g,d,tk,os⟩:=s;obtain⟨hl,hb,h⟩:=h;have f1:=PySem.AutoSeq1.idx_int;have f2:=PySem.AutoSeq1.sub_tuple_tuple;have f3:=PySem.AutoSeq1.sub_list_list;have f4:=PySem.AutoSeq1.sub_tuple_list;have f5:=PySem.AutoSeq1.sub_list_tuple;
  have hz':(items++items2).size<=sizeLine+1:=by rw[Array.size_append];exact hs2
  wp_walk using (wpAny_updateSeq hl rfl (hz:=hs1) (_hz':=hz')),PySem.AutoSeq1.wpAny_loadPart' hl,PySem.AutoSeq1.wpAny_loadPart' hb;exact⟨_,rfl,h⟩
theorem Ug(l:Addr)(items:Array Value)(n:Nat)(b:Addr)(items2:Array Value)(n2:Nat)(dd:Option Addr)(sl:Array (Option Value))(hs0:¬(!items.isEmpty && Builtin.List.listTooLong (items.size+items2.size))=true)(hs1:items.size<=sizeLine)(hs2:items.size+items2.size<=sizeLine+1) :
 Meets (Builtin.«list.extend» ⟨[.ref l,.ref b],[]⟩) (λ_ R s=>s.heap.get? l=some {cls:=.type "list",dict:=none,data:=.seq items n,slots := #[]}/\s.heap.get? b=some {cls:=.type "list",dict:=dd,data:=.seq items2 n2,slots:=sl}/\R (.ok (.ret Value.none)) {s with heap:=s.heap.update l (Obj.mapSeq λx=>x++items2),toks:=s.toks}) :=
 .of_wp λprog w A R s h=>by
  obtain⟨hp,g,d,tk,os⟩:=s;obtain⟨hl,hb,h⟩:=h;have f1:=PySem.AutoSeq1.idx_int;have f2:=PySem.AutoSeq1.sub_tuple_tuple;have f3:=PySem.AutoSeq1.sub_list_list;have f4:=PySem.AutoSeq1.sub_tuple_list;have f5:=PySem.AutoSeq1.sub_list_tuple;
  have hz':(items++items2).size<=sizeLine+1:=by rw[Array.size_append];exact hs2
  wp_walk using (wpAny_updateSeq hl rfl (hz:=hs1) (_hz':=hz')),PySem.AutoSeq1.wpAny_loadPart' hl,PySem.AutoSeq1.wpAny_loadPart' hb;exact⟨_,rfl,h⟩
def amx(K:PySem.W.Frag):V->List V->Hp->VK->Prop:=λx vs H Q=>∃l b xs zs,x=.ref l/\vs=[.ref b]/\H l=some (.lst xs)/\(bZ K H b zs\/dF K H b zs)/\xs.length+zs.length<=sizeLine/\Q .non (upd H l (.lst (xs++zs)))
section
variable{X:Cx}
theorem lX:MtM X "list.extend" (amx X.K):=by
 intro pins s σ H x vs v us Q I rx rv h
 obtain⟨l,b,xs,zs,rfl,rfl,hH,hB,hz,q⟩:=h
 cases rx
 obtain⟨u,rfl,ru⟩:=rv.one
 cases ru
 obtain⟨z,its,n,r,hl,e⟩:=I.afZ hH
 have nl:∀{m k:Nat},m+k<=sizeLine->¬(!its.toArray.isEmpty && Builtin.List.listTooLong (m+k))=true:=λhsz=>by
  rw[af0 hsz,Bool.and_false]
  exact Bool.false_ne_true
 rcases hB with hB | hB
 ·obtain⟨its2,r2,⟨ob,n2,hob,hc,_,hd⟩,z2⟩:=I.list hB
  have l2:=r2.length
  obtain⟨oc,odd,odt,osl⟩:=ob
  dsimp only at hc hd
  subst hc hd
  refine call_meets F.slot_list_extend ⟨_,e,rfl⟩ F.entry_list_extend (F.args_list_extend_2 _ _)
   (Ug l its.toArray n b its2.toArray n2 odd osl (nl (by rw[List.size_toArray,List.size_toArray];lia)) (by rw[List.size_toArray];lia) (by rw[List.size_toArray,List.size_toArray];lia)) ⟨e,hob,?_⟩
  refine⟨.non,_,I.amj (its':=its++its2) hH e (by simp) (r.append r2) ?_,rfl,q⟩
  rw[List.length_append]
  lia
 ·obtain⟨its2,r2,⟨ob,hob,hc,n2,hd⟩,z2⟩:=I.tuple hB
  have l2:=r2.length
  obtain⟨oc,odd,odt,osl⟩:=ob
  dsimp only at hc hd
  subst hc hd
  refine call_meets F.slot_list_extend ⟨_,e,rfl⟩ F.entry_list_extend (F.args_list_extend_2 _ _)
   (Ue l its.toArray n b its2.toArray n2 odd osl (nl (by rw[List.size_toArray,List.size_toArray];lia)) (by rw[List.size_toArray];lia) (by rw[List.size_toArray,List.size_toArray];lia)) ⟨e,hob,?_⟩
  refine⟨.non,_,I.amj (its':=its++its2) hH e (by simp) (r.append r2) ?_,rfl,q⟩
  rw[List.length_append]
  lia
def amy(K:PySem.W.Frag)(neg:Bool):R2:=λx y H Q=>∃a b xs,x=.ref a/\y=.ref b/\bZ K H a xs/\bZ K H b []/\Q (.bl (if neg then !xs.isEmpty else xs.isEmpty)) H
theorem amz(hu:X.A.units<cLine):WK X (compareOp .Eq) (amy X.K false):=by
 intro pins s σ H x y v u Q I rx ry h
 obtain⟨a,b,xs,rfl,rfl,ha,hb,q⟩:=h
 cases rx
 cases ry
 obtain⟨its,r,pl,z⟩:=I.list ha
 obtain⟨its2,r2,pl2,z2⟩:=I.list hb
 have l1:=r.length
 have l2:=r2.length
 have e2:its2=[]:=List.length_eq_zero_iff.mp (by rw[<-l2];rfl)
 subst e2
 cases xs with
 | nil =>
   have e1:its=[]:=List.length_eq_zero_iff.mp (by rw[<-l1];rfl)
   subst e1
   exact PySem.SeqAt.eq_listAt (e:=λ_=>true) pl.isList pl2.isList rfl hu (λj h1 _=>absurd h1 (by simp)) ⟨.bl true,H,I,rfl,q⟩
 | cons y ys =>
   refine PySem.SeqAt.eq_list_lengthsAt pl.isList pl2.isList ?_ hu ⟨.bl false,H,I,rfl,q⟩
   rw[List.size_toArray,<-l1]
   rfl
theorem agc(hu:X.A.units<cLine):WK X (compareOp .NotEq) (amy X.K true):=by
 intro pins s σ H x y v u Q I rx ry h
 obtain⟨a,b,xs,rfl,rfl,ha,hb,q⟩:=h
 cases rx
 cases ry
 obtain⟨its,r,pl,z⟩:=I.list ha
 obtain⟨its2,r2,pl2,z2⟩:=I.list hb
 have l1:=r.length
 have l2:=r2.length
 have e2:its2=[]:=List.length_eq_zero_iff.mp (by rw[<-l2];rfl)
 subst e2
 cases xs with
 | nil =>
   have e1:its=[]:=List.length_eq_zero_iff.mp (by rw[<-l1];rfl)
   subst e1
   exact PySem.SeqAt.RcNeAt.lists (e:=λ_=>true) pl.isList pl2.isList rfl hu (λj h1 _=>absurd h1 (by simp)) X.prog X.w X.xe _ ⟨.bl false,H,I,rfl,q⟩
 | cons y ys =>
   refine PySem.SeqAt.RcNeAt.lists_lengths pl.isList pl2.isList ?_ hu X.prog X.w X.xe _ ⟨.bl true,H,I,rfl,q⟩
   rw[List.size_toArray,<-l1]
   rfl
structure KDict(K:PySem.W.Frag)(w:World)(a:Addr)(tab:List (Str×V)):Prop where
 ex:∃es n,K.lookup a=some ⟨.type "dict",none,.dict es n,#[]⟩/\PySem.W.KeysLit w.params es.toList
 at_:∀x v,tab.lookup x=some v->∃u,PySem.W.nsIn K a x=some (some u)/\RelV v u
def awv(tab:List (Str×V))(ty:TE):TE:=λσ H Q=>ty σ H λy H1=>∃k v,y=.str k/\tab.lookup k=some v/\Q v H1
theorem aj4{x:Str}{a:Addr}{tab:List (Str×V)}{i:Expr}{ty:TE}{p pos:Pos}(hg:Gl X x)(hm:X.mg x=some (.ref a))(D:KDict X.K X.w a tab)(hi:PE X i ty)(hs:asF i)(hd:(x == ("__debug__":Str))=false:=by decide) :
 PE X (.Subscript (.Name x p) i pos) (awv tab ty):=by
 intro pins s σ H Q I h
 obtain⟨es,n,hl,hk⟩:=D.ex
 refine ajX slot_dict_getitem.lookup hs (zG I hg hm (gq (hi pins s σ H _ I h) λu s1 h1=>?_) hd)
 obtain⟨y,H1,I1,ry,k,v,rfl,hv,q⟩:=h1
 obtain⟨t,rfl⟩:=ry
 obtain⟨u',e,ru⟩:=D.at_ k v hv
 have hmap:=PySem.W.mapOf_K (prog:=X.prog) (w:=X.w) I1.yh hl hk
 exact⟨hmap.typeIs,wpAny_getItem_of (strKind_is X.prog X.w k t) hmap (PySem.W.find_K hl e) ⟨v,H1,I1.tok _,ru,q⟩⟩
end
def aiE:V->Option Value
 | .ty n=>some (.type n)
 | .ref a=>some (.ref a)
 | _=>none
def azL(K:PySem.W.Frag):List V->Hp->VK->Prop:=λxs H Q=>∃x c t b,xs=[x,c]/\LK K H x t/\((∃cv,aiE c=some cv/\PySem.W.kitOne K t cv=some b)\/(∃a cs cvs,c=.ref a/\H a=some (.tup cs)/\cs.map aiE=cvs.map some/\PySem.W.kitAny K t cvs=some b))/\Q (.bl b) H
theorem agd:∀{cs:List V} {us:List Value} {cvs:List Value},Vals cs us->cs.map aiE=cvs.map some->us=cvs
 | [],_,[],.nil,_=>rfl
 | [],_,_::_,.nil,h=>by simp at h
 | c::cs,_,[],.cons _ _,h=>by simp at h
 | c::cs,_,cv::cvs,.cons r t,h=>by
   simp only[List.map_cons,List.cons.injEq]at h
   rw[agd t h.2]
   cases c with
   | ty n=>cases (show _=Value.type n from r);simp only[aiE,Option.some.injEq]at h;rw[h.1]
   | ref a=>cases (show _=Value.ref a from r);simp only[aiE,Option.some.injEq]at h;rw[h.1]
   | _=>simp[aiE]at h
section
variable{X:Cx}
theorem aiF{pins:List (Addr×Obj)}{σ:St}{H:Hp}{s:Shared}{A:Around}{E:Value->Shared->Prop}{Q:Value->Shared->Prop}{b:Bool}{x:V}{u t:Value}{a:Addr}{cs:List V}{cvs:List Value}(I:Inv X pins σ H s)(rx:RelV x u)(ty:LK X.K H x t)
 (ha:H a=some (.tup cs)) (hcs:cs.map aiE=cvs.map some) (e:PySem.W.kitAny X.K t cvs=some b) (h:∀tk,Q (.bool b) {s with toks:=tk}):wpAny (model X.prog X.w) A (call (.builtin "isinstance") [u,.ref a]) Q E s:=by
 obtain⟨_,its,rv,p⟩:=(show fV X.prog X.w H s.heap a (.tup cs)from I.hok a _ ha)
 obtain⟨⟨oc,odd,odt,osl⟩,h1,h2,n,h3⟩:=p
 dsimp only at h2 h3
 subst h2 h3
 have ei:its=cvs:=agd rv hcs
 subst ei
 cases ty with
 | non=>cases (show u=Value.none from rx);exact PySem.W.kia_tup PySem.W.kitx_none I.yh True.intro h1 e (λz=>nomatch z) h
 | bl y=>cases (show u=Value.bool y from rx);exact PySem.W.kia_tup PySem.W.kitx_bool I.yh True.intro h1 e (λz=>nomatch z) h
 | int i=>obtain⟨t,q⟩:=(show ∃t,u=Value.int i t from rx);cases q;exact PySem.W.kia_tup PySem.W.kitx_int I.yh True.intro h1 e (λz=>nomatch z) h
 | str y=>obtain⟨t,q⟩:=(show ∃t,u=Value.str y t from rx);cases q;exact PySem.W.kia_tup PySem.W.kitx_str I.yh True.intro h1 e (λz=>nomatch z) h
 | flt y=>obtain⟨t,q⟩:=(show ∃t,u=Value.float y t from rx);cases q;exact PySem.W.kia_tup PySem.W.kitx_float I.yh True.intro h1 e (λz=>nomatch z) h
 | @lst a xs ea =>
   cases (show u=Value.ref a from rx)
   obtain⟨_,_,n,_,h1'⟩:=(show fV X.prog X.w H s.heap a (.lst xs)from I.hok a _ ea)
   exact PySem.W.kia_tup PySem.W.kitx_list I.yh ⟨_,h1',rfl⟩ h1 e (λz=>nomatch z) h
 | @frz a ob xs ea =>
   cases (show u=Value.ref a from rx)
   obtain⟨_,_,_,n,_,h1'⟩:=(show fV X.prog X.w H s.heap a (.frz ob (.lst xs))from I.hok a _ ea)
   exact PySem.W.kia_tup PySem.W.kitx_list I.yh ⟨_,h1',rfl⟩ h1 e (λz=>nomatch z) h
 | @tup a xs ea =>
   cases (show u=Value.ref a from rx)
   obtain⟨_,_,_,p⟩:=(show fV X.prog X.w H s.heap a (.tup xs)from I.hok a _ ea)
   obtain⟨o,h1',h2,_⟩:=p
   exact PySem.W.kia_tup PySem.W.kitx_tuple I.yh ⟨o,h1',h2⟩ h1 e (λz=>nomatch z) h
 | @dK a kvs ea =>
   cases (show u=Value.ref a from rx)
   obtain⟨_,_,vs,_,p⟩:=(show fV X.prog X.w H s.heap a (.dK kvs)from I.hok a _ ea)
   obtain⟨o,es,ep,h1',h2,_⟩:=p
   exact PySem.W.kia_tup PySem.W.kitx_dict I.yh ⟨o,h1',h2.1⟩ h1 e (λz=>nomatch z) h
 | @dT a kvs ea =>
   cases (show u=Value.ref a from rx)
   obtain⟨_,_,xs,_,o,es,ep,h1',h2,_⟩:=(show fV X.prog X.w H s.heap a (.dT kvs)from I.hok a _ ea)
   exact PySem.W.kia_tup PySem.W.kitx_dict I.yh ⟨o,h1',h2.1⟩ h1 e (λz=>nomatch z) h
 | @ins a C dx fs ea cl ha hn htk hm =>
   cases (show u=Value.ref a from rx)
   obtain⟨mA,O,_⟩:=LC I.hok ea
   obtain⟨od,J,_⟩:=O.look
   exact PySem.W.kia_tup (PySem.W.kitx_own (cl.get _) cl.hd ha hn htk hm) I.yh J h1 e (λz=>nomatch z) h
theorem lH:R5 X (.builtin "isinstance") (azL X.K):=by
 intro pins s σ H xs us Q I r h
 obtain⟨x,c,t,b,rfl,ty,hc,q⟩:=h
 obtain⟨u,v,rfl,ru,rv⟩:=r.two
 have fin:∀tk,EP X pins σ Q (.bool b) {s with toks:=tk}:=λtk=>⟨.bl b,H,I.tok _,rfl,q⟩
 rcases hc with ⟨cv,e1,e2⟩ | ⟨a,cs,cvs,rfl,e1,e2,e3⟩
 ·have ev:v=cv:=by
   cases c with
   | ty n=>cases (show v=Value.type n from rv);exact Option.some.inj e1
   | ref a=>cases (show v=Value.ref a from rv);exact Option.some.inj e1
   | _=>cases e1
  subst ev
  exact akV I ru ty e2 fin
 ·cases (show v=Value.ref a from rv)
  exact aiF I ru ty e1 e2 e3 fin
end
section
variable{X:Cx}
theorem asR{K:PySem.W.Frag}{w:World}{a:Addr}{es:Array DictEntry}{n:Nat}{x0 x1 x2:Str}{i0 i1 i2:Int}{t0 t1 t2:Tok}(hl:K.lookup a=some ⟨.type "dict",none,.dict es n,#[]⟩) (hk:PySem.W.KeysLit w.params es.toList)
 (h0:PySem.W.nsIn K a x0=some (some (.int i0 t0))) (h1:PySem.W.nsIn K a x1=some (some (.int i1 t1))) (h2:PySem.W.nsIn K a x2=some (some (.int i2 t2))):KDict K w a [(x0,.int i0),(x1,.int i1),(x2,.int i2)]:=by
 refine⟨⟨es,n,hl,hk⟩,λx v e=>?_⟩
 rw[List.lookup_cons]at e
 split at e
 ·rename_i q
  cases e
  rw[beq_iff_eq]at q
  subst q
  exact⟨_,h0,t0,rfl⟩
 ·rw[List.lookup_cons]at e
  split at e
  ·rename_i q
   cases e
   rw[beq_iff_eq]at q
   subst q
   exact⟨_,h1,t1,rfl⟩
  ·rw[List.lookup_cons]at e
   split at e
   ·rename_i q
    cases e
    rw[beq_iff_eq]at q
    subst q
    exact⟨_,h2,t2,rfl⟩
   ·cases e
end
theorem asS{K:PySem.W.Frag}:PySem.W.kitOne K (.type "int") (.type "int")=some true:=by rfl
theorem asT{K:PySem.W.Frag}:PySem.W.kitOne K (.type "int") (.type "bool")=some false:=by kernel_rfl
theorem amB{K:PySem.W.Frag}:PySem.W.kitOne K (.type "str") (.type "str")=some true:=by rfl
theorem kit_is{K:PySem.W.Frag}:PySem.W.kitOne K (.type "int") (.type "str")=some false:=by kernel_rfl
theorem aiG{K:PySem.W.Frag}:PySem.W.kitOne K (.type "list") (.type "list")=some true:=by rfl
theorem amC{K:PySem.W.Frag}:PySem.W.kitOne K (.type "tuple") (.type "list")=some false:=by kernel_rfl
theorem amD{K:PySem.W.Frag}:PySem.W.kitOne K (.type "list") (.type "tuple")=some false:=by kernel_rfl
theorem amE{K:PySem.W.Frag}:PySem.W.kitOne K (.type "tuple") (.type "tuple")=some true:=by rfl
theorem asU{K:PySem.W.Frag}:PySem.W.kitAny K (.type "list") [.type "list",.type "tuple"]=some true:=by kernel_rfl
theorem kit_at{K:PySem.W.Frag}:PySem.W.kitAny K (.type "tuple") [.type "list",.type "tuple"]=some true:=by kernel_rfl
theorem asV{K:PySem.W.Frag}:PySem.W.kitAny K (.type "int") [.type "list",.type "tuple"]=some false:=by kernel_rfl
theorem asW{K:PySem.W.Frag}:PySem.W.kitAny K (.type "str") [.type "list",.type "tuple"]=some false:=by kernel_rfl
theorem asY{K:PySem.W.Frag}:PySem.W.kitAny K (.type "NoneType") [.type "list",.type "tuple"]=some false:=by kernel_rfl
section
variable{prog:Program}{w:World}{A:Around}{E:Value->Shared->Prop}{h:Heap}{g:Array GenState}{d:Drawn}{t:Nat}{os:OsState}{a:Addr}{o:Obj}
 {nm q:Str} {C N:Addr} {bs bm bmB:List Value} {hdct:Bool} {sn:List Str} {sub:List Value} {ab:Bool} {col:Option Bool} {dd:Option Addr} {k0 k1 k2 k3 k5:Option Value} {B newId:String} {mN:Str->Option Value}
end
structure Mj(K:PySem.W.Frag)(C:Addr):Prop where
 cl:PySem.W.findIn K (.ref C) "__class__"=some (some (.builtin "object.__class__"))
 ga:PySem.W.findIn K (.ref C) "__getattribute__"=some (some (.builtin "BaseException.__getattribute__"))
 gt:PySem.W.findIn K (.ref C) "__getattr__"=some none
section
variable{X:Cx}{pins:List (Addr×Obj)}{σ:List (Option V)}{H:Hp}{s:Shared}{h':Heap}
theorem Inv.ak6{t':Nat}{e it p:Addr}{vs:List V}(I:Inv X pins σ H s)(k:∀b o,b≠e->b≠it->s.heap.get? b=some o->h'.get? b=some o)(fe:Ly X pins H e)(fi:Ly X pins H it)(hp:s.heap.objs.size<=p)
 (new:fV X.prog X.w (upd H p (.tup vs)) h' p (.tup vs)):Inv X pins σ (upd H p (.tup vs)) {s with heap:=h',toks:=t'}:=by
 have ne:∀b u,H b=some u->b≠e:=λb u q z=>by rw[z,fe.1]at q;cases q
 have ni:∀b u,H b=some u->b≠it:=λb u q z=>by rw[z,fi.1]at q;cases q
 have hn:H p=none:=I.hok.fresh hp
 have kc:∀b o,b∉[e,it]->s.heap.get? b=some o->h'.get? b=some o:=λb o hc q=>k b o (λz=>hc (by simp[z])) (λz=>hc (by simp[z])) q
 have old:∀b u,H b=some u->upd H p (.tup vs) b=some u:=λb u q=>by rw[aq (aF q hn)];exact q
 refine I.step (g':=s.gens) (d':=s.drawn) (ch:=[e,it]) (λb hb=>?_) (λb o _ _ hc q _=>kc b o hc q) (λb o _ _ hc q _=>⟨o.slots,kc b o hc q⟩) (λb o _ q n=>?_)
  (λb o hc q=>⟨o,kc b o hc q⟩) (λb xs q=>old b _ q) (λb o u q=>old b _ q) (λb ps q=>⟨#[],by rw[old b _ q];simp⟩) (λm hm=>?_) (λb u q=>?_) I.bare
 ·rcases List.mem_cons.mp hb with z | z
  ·subst z;exact⟨fe.2.2.2.1,fe.2.1,fe.2.2.2.2.1,fe.2.2.2.2.2⟩
  ·have z':b=it:=by simpa using z
   subst z';exact⟨fi.2.2.2.1,fi.2.1,fi.2.2.2.2.1,fi.2.2.2.2.2⟩
 ·rw[aq (Nat.ne_of_lt (Nat.lt_of_lt_of_le (Heap.lt_size q) hp))];exact n
 ·obtain⟨o,es,ep,ho,r⟩:=hm
  exact⟨o,es,ep,k _ o (Ne.symm fe.2.1) (Ne.symm fi.2.1) ho,r⟩
 ·by_cases hb:b=p
  ·subst hb;rw[aj]at q;cases q;exact new
  ·rw[aq hb]at q
   refine(I.hok b u q).stay (λc v hc r=>?_) (λc r=>old c _ r) λc xs r=>old c _ r
   rcases hc with z | z
   ·rw[z]at r ⊢;exact k b v (ne b u q) (ni b u q) r
   ·exact k c v (ne c _ z) (ni c _ z) r
theorem Inv.aoZ{t':Nat}{e it:Addr}(I:Inv X pins σ H s)(k:∀b o,b≠e->b≠it->s.heap.get? b=some o->h'.get? b=some o)(fe:Ly X pins H e)(fi:Ly X pins H it):Inv X pins σ H {s with heap:=h',toks:=t'}:=by
 have ne:∀b u,H b=some u->b≠e:=λb u q z=>by rw[z,fe.1]at q;cases q
 have ni:∀b u,H b=some u->b≠it:=λb u q z=>by rw[z,fi.1]at q;cases q
 have kc:∀b o,b∉[e,it]->s.heap.get? b=some o->h'.get? b=some o:=λb o hc q=>k b o (λz=>hc (by simp[z])) (λz=>hc (by simp[z])) q
 refine I.step (g':=s.gens) (d':=s.drawn) (ch:=[e,it]) (λb hb=>?_) (λb o _ _ hc q _=>kc b o hc q) (λb o _ _ hc q _=>⟨o.slots,kc b o hc q⟩) (λ_ _ _ _ n=>n)
  (λb o hc q=>⟨o,kc b o hc q⟩) (λ_ _ q=>q) (λ_ _ _ q=>q) (λb ps q=>⟨#[],by rw[q];simp⟩) (λm hm=>?_) (λb u q=>?_) I.bare
 ·rcases List.mem_cons.mp hb with z | z
  ·subst z;exact⟨fe.2.2.2.1,fe.2.1,fe.2.2.2.2.1,fe.2.2.2.2.2⟩
  ·have z':b=it:=by simpa using z
   subst z';exact⟨fi.2.2.2.1,fi.2.1,fi.2.2.2.2.1,fi.2.2.2.2.2⟩
 ·obtain⟨o,es,ep,ho,r⟩:=hm
  exact⟨o,es,ep,k _ o (Ne.symm fe.2.1) (Ne.symm fi.2.1) ho,r⟩
 ·refine(I.hok b u q).stay (λc v hc r=>?_) (λ_ q=>q) λ_ _ q=>q
  rcases hc with z | z
  ·rw[z]at r ⊢;exact k b v (ne b u q) (ni b u q) r
  ·exact k c v (ne c _ z) (ni c _ z) r
end
def Ite(K:PySem.W.Frag)(a:Addr):It :=
 ⟨λi H=>∃xs x,bZ K H a xs/\xs[i]? = some x,λi H x H'=>∃p,H p=none/\x=.ref p/\∃y,(∀xs,bZ K H a xs->xs[i]? = some y)/\H'=upd H p (.tup [.int i,y]),λi H=>∃xs,bZ K H a xs/\xs.length<=i⟩
theorem ak7{P:Program}{w:World}{K:PySem.W.Frag}{elts:List Expr}{x1}{pos:Pos}(a e it:Addr)(hne:e≠it):Turn P w K (.Tuple elts x1 pos) (Ite K a) [e,it] e (λi h=>(∃old,IsEnum h e it (i:Nat) old)/\h.IsListIter it a i) where
 mem:=by simp
 obj:=λi h st b hb=>by
  obtain⟨⟨old,he⟩,o,ho,c,d⟩:=st
  rcases List.mem_cons.mp hb with z | z
  ·subst z;exact⟨_,he,λv z=>by cases z⟩
  ·have z':b=it:=by simpa using z
   subst z';exact⟨o,ho,λv z=>by rw[d]at z;cases z⟩
 keep:=λi h h' st k=>⟨st.1.elim λold he=>⟨old,k e (by simp) _ he⟩,st.2.at λo q=>k it (by simp) o q⟩
 item:=by
  intro X hP hw hK hc i pins s σ H E I hf st hg
  subst hP hw hK
  obtain⟨xs,x,hq,hx⟩:=hg
  obtain⟨⟨old,he⟩,hit⟩:=st
  obtain⟨its,rv,p,hz⟩:=I.list hq
  obtain⟨u,hu,ru⟩:=rv.get hx
  have fe:=hf e (by simp)
  have fi:=hf it (by simp)
  have hes:e<s.heap.objs.size:=Heap.lt_size he
  have his:it<s.heap.objs.size:=by obtain⟨o,ho,_⟩:=hit;exact Heap.lt_size ho
  refine wpAny_pyNext_enum_item he hit p.isList (x:=u) (by simpa using hu) hne λh1 heo hit1 ht1 hz1 hk1=>?_
  refine⟨_,rfl,wpAny_letOwnedTupleGo_enum heo λh2 he2 hs2=>?_⟩
  have asZ:Heap.SameBut e h1 h2:=hs2
  have ht2:h2.get? s.heap.objs.size=some {cls:=.type "tuple",data:=.seq #[.int i s.toks,u]}:=(asZ.2 _ (Nat.ne_of_gt hes)).trans ht1
  have I2:Inv X pins σ (upd H s.heap.objs.size (.tup [.int i,x])) {s with heap:=h2,toks:=s.toks+1}:=by
   refine I.ak6 (λb o h3 h4 q=>(asZ.2 b h3).trans (hk1 b o h3 h4 q)) fe fi (Nat.le_refl _) ?_
   exact⟨vC,[.int i s.toks,u],.cons ⟨_,rfl⟩ (.cons ru .nil),⟨_,ht2,rfl,_,rfl⟩⟩
  have hn:=I.fresh
  refine⟨.ref s.heap.objs.size,_,I2,rfl,⟨s.heap.objs.size,hn,rfl,x,λys hy=>by rw[I.afT hy hq];exact hx,rfl⟩,⟨⟨u,?_⟩,?_⟩,λb hb=>?_⟩
  ·have z:((i+1:Nat):Int)=(i:Int)+1:=by push_cast;rfl
   rw[z];exact he2
  ·exact hit1.extBut asZ.extBut (Ne.symm hne)
  ·rw[aq]
   ·exact(hf b hb).1
   ·rcases List.mem_cons.mp hb with z | z
    ·subst z;exact Nat.ne_of_lt hes
    ·have z':b=it:=by simpa using z
     subst z';exact Nat.ne_of_lt his
 done:=by
  intro X hP hw hK hc i pins s σ H E I hf st hg
  subst hP hw hK
  obtain⟨xs,hq,hx⟩:=hg
  obtain⟨⟨old,he⟩,hit⟩:=st
  obtain⟨its,rv,p,hz⟩:=I.list hq
  have hl:=rv.length
  exact wpAny_pyNext_enum_end (I.ok.hd hc) he hit p.isList (by simp;lia) λh' eb=>⟨rfl,I.aoZ (t':=s.toks) (λb o _ h2 q=>eb b o h2 q) (hf e (by simp)) (hf it (by simp))⟩
 self:=λ_ _ _ _ _ st h=>st.1.elim λ_ he=>wpAny_pyIter_enum he h
section
variable{X:Cx}
def aww(K:PySem.W.Frag)(tl:TA):TI:=λσ H R=>tl σ H λvs H1=>∃a,vs=[.ref a]/\(∃xs,bZ K H1 a xs)/\R (Ite K a) H1
theorem ao0{elts:List Expr}{x1}{tpos:Pos}{a:Expr}{ta:TA}{p pos:Pos}(hg:Gl X "enumerate") (hm:X.mg "enumerate"=none) (ha:PA X [a] ta) (hs:starEach [a] X.env=[(false,eval a X.env)]:=by rfl) :
 PI X (.Tuple elts x1 tpos) (.Call (.Name "enumerate" p) [a] [] pos) (aww X.K ta):=by
 intro pins s σ H R I h
 refine Call_ (WW I hg hm PyProof.Rows.Boot.«enumerate» (PyProof.Rows.callWith_type1 (gq (ha pos pins s σ H _ I h) λus s1 hz=>lA hz λvs H1 I1 r1 q1=>?_) hs rfl))
 obtain⟨l,e,⟨xs,hq⟩,q⟩:=q1
 subst e
 cases r1 with
 | cons r rr =>
   cases rr
   cases r
   obtain⟨its,rv,pl,hz⟩:=I1.list hq
   refine call_enumerate_list pl.isList λh2 he hit hsz hk=>?_
   refine wpAny_pyIter_enum he ?_
   have hne:s1.heap.objs.size+1≠s1.heap.objs.size:=Nat.succ_ne_self _
   refine⟨s1.heap.objs.size+1,[s1.heap.objs.size+1,s1.heap.objs.size],_,_,H1,rfl,I1.kept (t':=s1.toks) hk,ak7 l _ _ hne,⟨⟨_,he⟩,hit⟩,λb hb=>?_,q⟩
   rcases List.mem_cons.mp hb with z | z
   ·subst z;exact I1.aoL (Nat.le_succ _) (I1.hok.fresh (Nat.le_succ _))
   ·have z':b=s1.heap.objs.size:=by simpa using z
    subst z';exact I1.aoL (Nat.le_refl _) (I1.hok.fresh (Nat.le_refl _))
end
theorem ak8{K:PySem.W.Frag}{a acc:Addr}{xs:List V}{g:TG}{tc:TT}{te:TE}{σ:St}{H1:Hp}{Q:VK}(Pv:Nat->List V->St->Hp->Prop)(h0:Pv 0 [] σ (upd H1 acc (.lst [])))
 (hl:∀i zs σ H,i<=xs.length->Pv i zs σ H->bZ K H a xs/\H acc=some (.lst zs))
 (hs:∀i x zs σ H p,xs[i]? = some x->i<xs.length->Pv i zs σ H->H p=none->g (.ref p) σ (upd H p (.tup [.int i,x])) λσ4 H4=>tc σ4 H4 λb H5=>if b=true then te σ4 H5 (t8 xs.length acc Pv i zs σ4)else Xf xs.length Pv i zs σ4 H5)
 (hd:∀zs σ H,Pv xs.length zs σ H->Q (.ref acc) H):EY (Ite K a) g tc te σ acc H1 Q:=by
 refine⟨λi m zs σ H=>m=xs.length - i/\i<=xs.length/\Pv i zs σ H,⟨_,rfl,Nat.zero_le _,h0⟩,?_⟩
 rintro i m zs σ H2 ⟨rfl,hi,p⟩
 obtain⟨q,ha⟩:=hl i zs σ H2 hi p
 refine⟨ha,?_⟩
 by_cases hlt:i<xs.length
 ·refine .inr ⟨⟨xs,xs[i],q,by simp[hlt]⟩,λy H3 yl=>?_⟩
  obtain⟨b,hb,e,x,hx,e3⟩:=yl
  subst e e3
  exact hs i x zs σ _ b (hx xs q) hlt p hb
 ·have e:i=xs.length:=by lia
  subst e
  exact .inl ⟨⟨xs,q,Nat.le_refl _⟩,hd zs σ H2 p⟩
end L2
namespace gB
open PySem L2
inductive Rt where
 | no | rd | wr
 deriving DecidableEq
def Rt.s:Rt->Str
 | .no=>"none"
 | .rd=>"read"
 | .wr=>"write"
def Rt.k:Rt->Int
 | .no=>0
 | .rd=>1
 | .wr=>2
theorem Rt.arE:∀{a b:Rt},a.s=b.s->a=b
 | .no,.no,_=>rfl
 | .no,.rd,h=>absurd h (by decide +kernel)
 | .no,.wr,h=>absurd h (by decide +kernel)
 | .rd,.no,h=>absurd h (by decide +kernel)
 | .rd,.rd,_=>rfl
 | .rd,.wr,h=>absurd h (by decide +kernel)
 | .wr,.no,h=>absurd h (by decide +kernel)
 | .wr,.rd,h=>absurd h (by decide +kernel)
 | .wr,.wr,_=>rfl
theorem oZ{r q:Rt}{x:Str}(e:x=q.s)(h:r≠q):decide (V.str r.s=V.str x)=false:=decide_eq_false λz=>h (Rt.arE ((V.str.inj z).trans e))
theorem aP{c:Bool}{A B:Prop}(h:c=false)(hb:B):if c=true then A else B:=by rw[h];exact w6 hb
theorem bI{c:Bool}{A B:Prop}(h:c=true)(ha:A):if c=true then A else B:=by rw[h];exact pQ ha
inductive W where
 | look (p:Int) | put (p n:Int)
def W.pg:W->Int
 | .look p=>p
 | .put p _=>p
def W.need:W->Rt
 | .look _=>.rd
 | .put _ _=>.wr
def W.tag:W->Str
 | .look _=>"look"
 | .put _ _=>"put"
def W.vs:W->List V
 | .look p=>[.str "look",.int p]
 | .put p n=>[.str "put",.int p,.int n]
structure DS where
 rt:Int->Rt
 nm:Int->Int
 ws:Option W
def DS.hold(S:DS)(p:Int)(r:Rt)(n:Int):DS:={S with rt:=λq=>if q=p then r else S.rt q,nm:=λq=>if q=p then n else S.nm q}
theorem DS.qC(S:DS)(p:Int)(r:Rt)(n:Int):(S.hold p r n).rt p=r:=by unfold DS.hold;dsimp only;rw[if_pos rfl]
theorem DS.vL(S:DS)(p:Int)(r:Rt)(n:Int):(S.hold p r n).nm p=n:=by unfold DS.hold;dsimp only;rw[if_pos rfl]
theorem DS.qG(S:DS){p q:Int}(r:Rt)(n:Int)(h:q≠p):(S.hold p r n).rt q=S.rt q:=by unfold DS.hold;dsimp only;rw[if_neg h]
theorem DS.qH(S:DS){p q:Int}(r:Rt)(n:Int)(h:q≠p):(S.hold p r n).nm q=S.nm q:=by unfold DS.hold;dsimp only;rw[if_neg h]
def DS.ok(S:DS)(w:W):Prop:=w.need.k<=(S.rt w.pg).k
instance (S:DS) (w:W):Decidable (S.ok w):=inferInstanceAs (Decidable (_<=_))
def DS.done(S:DS):W->DS
 | .look _=>S
 | .put p n=>S.hold p (S.rt p) n
def DS.num(S:DS):W->Int
 | .look p=>S.nm p
 | .put _ n=>n
def DS.tell(S:DS)(p:Int):V:=if S.rt p=.wr then .int (S.nm p)else .non
def ud(H:Hp)(v:V):Option W->Prop
 | none=>v=.non
 | some w=>∃a,v=.ref a/\H a=some (.tup w.vs)
def ue(H:Hp)(o:Option V)(r:Rt)(n:Int):Prop:=if r=.no then o=none else ∃t,o=some (.ref t)/\H t=some (.tup [.str r.s,.int n])
theorem cw:¬(("copies":Str)="wish"):=by decide +kernel
def Di(d:Addr)(v:V):List (Str×V):=gk "wish" v (gk "copies" (.ref d) [])
theorem ac1(d:Addr)(v:V):Di d v=([("copies",V.ref d),("wish",v)]:List (Str×V)):=by
 show(if("copies":Str)="wish" then [(("copies":Str),v)]else(("copies":Str),V.ref d)::gk "wish" v [])=([("copies",V.ref d),("wish",v)]:List (Str×V))
 rw[if_neg cw]
 all_goals rfl
theorem jV(d:Addr)(v:V):(Di d v).lookup ("copies":Str)=some (.ref d):=by
 unfold Di
 rw[jR,if_neg cw,jR,if_pos rfl]
theorem acf(d:Addr)(v:V):(Di d v).lookup ("wish":Str)=some v:=by
 unfold Di
 rw[jR,if_pos rfl]
theorem eX(d:Addr)(v:V){m:Str}(h1:¬m="wish") (h2:¬m="copies"):(Di d v).lookup m=none:=by
 unfold Di
 rw[jR,if_neg h1,jR,if_neg h2]
 all_goals rfl
theorem age(d:Addr)(v u:V):gk "wish" u (Di d v)=Di d u:=by
 rw[ac1,ac1]
 show(if("copies":Str)="wish" then _ else(("copies":Str),V.ref d)::(if("wish":Str)="wish" then [(("wish":Str),u)]else _))=([("copies",V.ref d),("wish",u)]:List (Str×V))
 rw[if_neg cw,if_pos rfl]
theorem agf(d:Addr)(v:V):(Di d v).length=2:=by rw[ac1];rfl
structure cz(C:Addr)(H:Hp)(p d:Addr)(S:DS)(c:Nat):Prop where
 ob:∃dx v,H p=some (.ins C dx (Di d v))/\ud H v S.ws
 dc:∃kvs,H d=some (.dK kvs)/\kvs.length<=c/\∀n:Int,ue H (fW kvs (Sum.inl n:Key)) (S.rt n) (S.nm n)
def DF(H H':Hp)(p d:Addr):Prop:=∀b o,H b=some o->b≠p->b≠d->H' b=some o
theorem DF.refl(H:Hp)(p d:Addr):DF H H p d:=λ_ _ h _ _=>h
theorem DF.trans{H H1 H2:Hp}{p d:Addr}(a:DF H H1 p d)(b:DF H1 H2 p d):DF H H2 p d:=λc o h h1 h2=>b c o (a c o h h1 h2) h1 h2
theorem cz.npd{C:Addr}{H:Hp}{p d:Addr}{S:DS}{c:Nat}(D:cz C H p d S c):p≠d:=by
 obtain⟨⟨dx,v,h1,_⟩,⟨kvs,h2,_⟩⟩:=D
 exact ju h1 h2 (by intro z;cases z)
theorem cz.mono{C:Addr}{H:Hp}{p d:Addr}{S:DS}{c c':Nat}(D:cz C H p d S c)(h:c<=c'):cz C H p d S c':=by
 obtain⟨o,⟨kvs,h2,h3,h4⟩⟩:=D
 exact⟨o,⟨kvs,h2,Nat.le_trans h3 h,h4⟩⟩
theorem ud.aZ{H H':Hp}(h:cg H H'){v:V}{o:Option W}(w:ud H v o):ud H' v o:=by
 cases o with
 | none=>exact w
 | some w' =>
   obtain⟨a,e,ha⟩:=w
   exact⟨a,e,h a _ ha⟩
theorem ue.aZ{H H':Hp}(h:cg H H'){o:Option V}{r:Rt}{n:Int}(w:ue H o r n):ue H' o r n:=by
 unfold ue at w ⊢
 split
 ·rename_i e;rw[if_pos e]at w;exact w
 ·rename_i e
  rw[if_neg e]at w
  obtain⟨t,e,ha⟩:=w
  exact⟨t,e,h t _ ha⟩
theorem cz.keep{C:Addr}{H H':Hp}{p d:Addr}{S:DS}{c:Nat}(D:cz C H p d S c)(h:cg H H')(hp:∀o,H p=some o->H' p=some o)(hd:∀o,H d=some o->H' d=some o):cz C H' p d S c:=by
 obtain⟨⟨dx,v,h1,h2⟩,⟨kvs,h3,h4,h5⟩⟩:=D
 exact⟨⟨dx,v,hp _ h1,h2.aZ h⟩,⟨kvs,hd _ h3,h4,λn=>(h5 n).aZ h⟩⟩
theorem cz.same{C:Addr}{H H':Hp}{p d:Addr}{S:DS}{c:Nat}(D:cz C H p d S c)(h:bJ H H'):cz C H' p d S c:=D.keep (λb xs e=>h b _ e) (λo e=>h p o e) λo e=>h d o e
theorem DF.tups{C:Addr}{H H':Hp}{p d:Addr}{S:DS}{c:Nat}(D:cz C H p d S c)(h:DF H H' p d):cg H H':=λb xs e=>by
 obtain⟨⟨dx,v,h1,_⟩,⟨kvs,h2,_⟩⟩:=D
 exact h b _ e (ju e h1 (by intro z;cases z)) (ju e h2 (by intro z;cases z))
theorem DF.seqs{C:Addr}{H H':Hp}{p d:Addr}{S:DS}{c:Nat}(D:cz C H p d S c)(h:DF H H' p d):vK H H':=⟨h.tups D,λb xs e=>by
 obtain⟨⟨dx,v,h1,_⟩,⟨kvs,h2,_⟩⟩:=D
 exact h b _ e (ju e h1 (by intro z;cases z)) (ju e h2 (by intro z;cases z))⟩
theorem ac2{H:Hp}{a:Addr}{o:HO}(h:H a=none):cg H (upd H a o):=λb xs e=>by rw[aq (aF e h)];exact e
theorem vM{H:Hp}{a:Addr}{o:HO}(h:H a=none):vK H (upd H a o):=⟨ac2 h,λb xs e=>by rw[aq (aF e h)];exact e⟩
theorem az{H:Hp}{a:Addr}{o:HO}(h:H a=none):bJ H (upd H a o):=λb u e=>by rw[aq (aF e h)];exact e
theorem DF.new{H:Hp}{p d a:Addr}{o:HO}(h:H a=none):DF H (upd H a o) p d:=λb u e _ _=>az h b u e
theorem ao1{H:Hp}{a:Addr}{xs:List V}{ds:List D}(h:H a=none)(r:aH H xs ds):Rep (upd H a (.tup xs)) (.ref a) (.t ds):=by
 simp only[Rep]
 exact⟨a,xs,rfl,aj,r.mono (vM h)⟩
def nw(H H':Hp):Hp:=λb=>match H b with
 | none=>H' b
 | some (.tup _)=>H' b
 | some _=>none
theorem m8{H H':Hp}{b:Addr}{o:HO}(h:nw H H' b=some o):H' b=some o/\(H b=none\/∃xs,H b=some (.tup xs)):=by
 unfold nw at h
 split at h
 ·rename_i e;exact⟨h,.inl e⟩
 ·rename_i xs e;exact⟨h,.inr ⟨xs,e⟩⟩
 ·cases h
theorem Xg{H H':Hp}{b:Addr}{o:HO}(h:H' b=some o)(q:H b=none\/∃xs,H b=some (.tup xs)):nw H H' b=some o:=by
 unfold nw
 rcases q with e | ⟨xs,e⟩<;>rw[e]<;>exact h
theorem aiH{H H':Hp}:vK (nw H H') H':=⟨λ_ _ h=>(m8 h).1,λ_ _ h=>(m8 h).1⟩
theorem vN{H H1 H2:Hp}(h:vK H1 H2):vK (nw H H1) (nw H H2):=⟨λb xs e=>Xg (h.1 b xs (m8 e).1) (m8 e).2,λb xs e=>Xg (h.2 b xs (m8 e).1) (m8 e).2⟩
theorem yp{H H1:Hp}{a:Addr}{xs:List V}{ds:List D}(hH:H a=none)(h:H1 a=none)(r:aH (nw H H1) xs ds):Rep (nw H (upd H1 a (.tup xs))) (.ref a) (.t ds):=by
 simp only[Rep]
 exact⟨a,xs,rfl,Xg aj (.inl hH),r.mono (vN (vM h))⟩
theorem jW{H H1:Hp}{a:Addr}{xs:List V}{ds:List D}(hH:H a=none)(h:H1 a=none)(r:aH (nw H H1) xs ds):Rep (nw H (upd H1 a (.lst xs))) (.ref a) (.l ds):=by
 simp only[Rep]
 exact⟨a,xs,rfl,Xg aj (.inl hH),r.mono (vN (vM h))⟩
def Kept(H H1:Hp):Prop:=∀b o,H b=some o->∃o',H1 b=some o'/\((∀xs,o≠.tup xs)->∀xs,o'≠.tup xs)
theorem Kept.free{H H1:Hp}(h:Kept H H1){a:Addr}(e:H1 a=none):H a=none:=by
 cases q:H a with
 | none=>rfl
 | some o=>obtain⟨o',z,_⟩:=h a o q;rw[e]at z;cases z
theorem Kept.tup{H H1:Hp}(h:Kept H H1){b:Addr}{xs:List V}(e:H1 b=some (.tup xs)):H b=none\/∃ys,H b=some (.tup ys):=by
 cases q:H b with
 | none=>exact .inl rfl
 | some o =>
   obtain⟨o',z,y⟩:=h b o q
   by_cases ht:∃xs,o=.tup xs
   ·obtain⟨ys,rfl⟩:=ht;exact .inr ⟨ys,rfl⟩
   ·rw[e]at z;cases z
    exact absurd rfl (y (λys z=>ht ⟨ys,z⟩) xs)
theorem Kept.refl(H:Hp):Kept H H:=λb o e=>⟨o,e,λh=>h⟩
theorem Kept.new{H H1:Hp}(h:Kept H H1){a:Addr}{o:HO}(e:H1 a=none):Kept H (upd H1 a o):=λb u q=>by
 obtain⟨o',z,y⟩:=h b u q
 exact⟨o',by rw[aq (aF z e)];exact z,y⟩
theorem DF.kept{C:Addr}{H H':Hp}{p d:Addr}{S S':DS}{c c':Nat}(D:cz C H p d S c)(D':cz C H' p d S' c')(h:DF H H' p d):Kept H H':=λb o e=>by
 by_cases hp:b=p
 ·subst hp
  obtain⟨⟨dx,v,h1,_⟩,_⟩:=D'
  exact⟨_,h1,λ_ xs z=>by cases z⟩
 ·by_cases hd:b=d
  ·subst hd
   obtain⟨_,⟨kvs,h2,_⟩⟩:=D'
   exact⟨_,h2,λ_ xs z=>by cases z⟩
  ·exact⟨o,h b o e hp hd,λz=>z⟩
inductive Let where
 | lend (p:Int) (r:Rt) (n:Int) | back (p:Int) (r:Rt)
def Let.vs:Let->List V
 | .lend p r n=>[.str "lend",.int p,.str r.s,.int n]
 | .back p r=>[.str "back",.int p,.str r.s]
def Let.d:Let->D
 | .lend p r n=>.t [.s "lend",.i p,.s r.s,.i n]
 | .back p r=>.t [.s "back",.i p,.s r.s]
def Xh:V->D
 | .int k=>.i k
 | _=>.n
def DS.gC(S:DS)(p:Int)(r:Rt)(n:Int):DS×List D :=
 let S1:=S.hold p r n
 match S.ws with
 | none=>(S1,[])
 | some w=>if w.pg=p/\S1.ok w then(({S1 with ws:=none}:DS).done w,[.t [.s w.tag,.i w.pg,.i (S1.num w)]])else(S1,[])
def DS.down(S:DS)(p:Int)(r:Rt):DS:=if(S.rt p).k<=r.k then S else S.hold p r (S.nm p)
def DS.take(S:DS):Let->DS×D
 | .lend p r n=>((S.gC p r n).1,.t [.l (S.gC p r n).2,.l []])
 | .back p r=>(S.down p r,.t [.l [],.l [.t [.s "answer",.i p,Xh (S.tell p)]]])
def DS.want(S:DS)(w:W):DS×D:=if S.ok w then(S.done w,.t [.l [.t [.s w.tag,.i w.pg,.i (S.num w)]],.l []])else({S with ws:=some w},.t [.l [],.l [.t [.s "ask",.i w.pg,.s w.need.s]]])
def DS.rest(S:DS)(p:Int):DS×D:=(S.hold p .no (S.nm p),.l (if S.rt p=.wr then [.t [.s "gave",.i p,.i (S.nm p)]]else []))
def agg(tag:Str):Sp:=λvs H Q _=>∃x y,vs=[x,y]/\∀a,H a=none->Q (.ref a) (upd H a (.tup [.str tag,x,y]))
def amF:Sp:=λvs H Q _=>∃r n:Rt,vs=[.str r.s,.str n.s]/\Q (.bl (decide (n.k<=r.k))) H
def as3(K:PySem.W.Frag):Sp:=λvs H Q _=>∃a w,vs=[.ref a]/\H a=some (.tup (W.vs w))/\Q (.str w.need.s) H
def as4(C:Addr):Sp:=λvs H Q _=>∃p dx,vs=[.ref p]/\H p=some (.ins C dx [])/\∀d H',H d=none->cz C H' p d ⟨λ_=>.no,λ_=>0,none⟩ 0->(∀b o,H b=some o->b≠p->H' b=some o)->Q .non H'
def ao2(C:Addr):Sp:=λvs H Q _=>∃p d S c n,vs=[.ref p,.int n]/\cz C H p d S c/\Q (.str (S.rt n).s) H
def ao3(C:Addr):Sp:=λvs H Q _=>∃p d S c,vs=[.ref p]/\cz C H p d S c/\Q (.bl S.ws.isSome) H
def awx(C:Addr):Sp:=λvs H Q _=>∃p d S c a w,vs=[.ref p,.ref a]/\cz C H p d S c/\H a=some (.tup (W.vs w))/\Q (.bl (decide (S.ok w))) H
def as5(C:Addr):Sp:=λvs H Q _=>∃p d S c n,vs=[.ref p,.int n]/\cz C H p d S c/\Q (S.tell n) H
def as6(C:Addr):Sp:=λvs H Q _=>∃p d S c n r k v,vs=[.ref p,.int n,.str (Rt.s r),v]/\cz C H p d S c/\c<=1000000/\(r=.no\/v=.int k)/\∀H',cz C H' p d (S.hold n r k) (c+1)->DF H H' p d->Q .non H'
def azO(C:Addr):Sp:=λvs H Q _=>∃p d S c a w,vs=[.ref p,.ref a]/\cz C H p d S c/\c<=1000000/\H a=some (.tup (W.vs w))/\S.ok w/\
 ∀t H',cz C H' p d (S.done w) (c+1)->DF H H' p d->H' t=some (.tup [.str w.tag,.int w.pg,.int (S.num w)])->Q (.ref t) H'
def as7(C:Addr):Sp:=λvs H Q _=>∃p d S c n r k,vs=[.ref p,.int n,.str (Rt.s r),.int k]/\cz C H p d S c/\c<=900000/\
 ∀v H',cz C H' p d (S.gC n r k).1 (c+2)->DF H H' p d->Rep (nw H H') v (.l (S.gC n r k).2)->Q v H'
def as8(C:Addr):Sp:=λvs H Q _=>∃p d S c n r,vs=[.ref p,.int n,.str (Rt.s r)]/\cz C H p d S c/\c<=900000/\
 ∀v H',cz C H' p d (S.down n r) (c+2)->DF H H' p d->Rep H' v (.t [.s "answer",.i n,Xh (S.tell n)])->Q v H'
def as9(C:Addr):Sp:=λvs H Q _=>∃p d S c a l,vs=[.ref p,.ref a]/\cz C H p d S c/\c<=900000/\H a=some (.tup (Let.vs l))/\
 ∀v H',cz C H' p d (S.take l).1 (c+2)->DF H H' p d->Rep (nw H H') v (S.take l).2->Q v H'
def aG{α:Type}(f:Nat->α)(i:Nat)(v:α):Nat->α:=λj=>if j=i then v else f j
theorem aK{α:Type}(f:Nat->α)(i:Nat)(v:α):aG f i v i=v:=by simp[aG]
theorem aW{α:Type}(f:Nat->α){i j:Nat}(v:α)(h:j≠i):aG f i v j=f j:=by simp[aG,h]
theorem eE{α:Type}(f:Nat->α)(i:Nat):aG f i (f i)=f:=by funext j;unfold aG;split<;>simp_all
theorem mQ{α:Type}(f:Nat->α)(i:Nat)(v w:α):aG (aG f i v) i w=aG f i w:=by funext j;unfold aG;split<;>rfl
inductive UL where
 | ask (p:Nat) (r:Rt) | ans (p:Nat) (o:Option Int) | gave (p:Nat) (n:Int)
def oV:Option Int->V
 | none=>.non
 | some k=>.int k
def oD:Option Int->D
 | none=>.n
 | some k=>.i k
def UL.vs:UL->List V
 | .ask p r=>[.str "ask",.int p,.str r.s]
 | .ans p o=>[.str "answer",.int p,oV o]
 | .gave p n=>[.str "gave",.int p,.int n]
def UL.d:UL->D
 | .ask p r=>.t [.s "ask",.i p,.s r.s]
 | .ans p o=>.t [.s "answer",.i p,oD o]
 | .gave p n=>.t [.s "gave",.i p,.i n]
def UL.pg:UL->Nat
 | .ask p _=>p
 | .ans p _=>p
 | .gave p _=>p
structure PG where
 num:Int
 wr:Option Nat
 rd:List Nat
 ask:List (Nat×Rt)
 miss:Int
def low(r:Rt):Rt:=if r=.rd then .rd else .no
def ph(g:PG)(p a:Nat)(r:Rt):List (Nat×Let):=match g.wr with
 | some w=>if w=a then []else [(w,.back p (low r))]
 | none=>[]
def pq(g:PG)(p a:Nat)(r:Rt):List (Nat×Let):=if r=.wr then(g.rd.filter λd=>decide (d≠a)).map λd=>(d,.back p .no)else []
def PG.cO(g:PG)(p:Nat):List (Nat×Let):=match g.ask with
 | []=>[]
 | (a,r)::_=>ph g p a r++pq g p a r
def kZ(g:PG)(a:Nat):PG:={g with wr:=none,rd:=if a∈g.rd++g.wr.toList then g.rd++g.wr.toList else g.rd++g.wr.toList++[a]}
def lJ(g:PG)(a:Nat):PG:={g with wr:=some a,rd:=[]}
def PG.lent(g:PG):PG:=match g.ask with
 | []=>g
 | (a,r)::q=>if r=.wr then lJ {g with ask:=q} a else kZ {g with ask:=q} a
def PG.dW(g:PG)(p:Nat):List (Nat×Let):=match g.ask with
 | []=>[]
 | (a,r)::_=>[(a,.lend p r g.num)]
theorem PG.yq(g:PG):g.lent.ask.length=g.ask.length - 1:=by
 unfold PG.lent
 cases h:g.ask with
 | nil=>simp[h]
 | cons x q=>obtain⟨a,r⟩:=x;dsimp only;split<;>simp[lJ,kZ]
def pR:Nat->PG->Nat->PG×List (Nat×Let)
 | 0,g,_=>(g,[])
 | k+1,g,p=>if(g.cO p).isEmpty then((pR k g.lent p).1,g.dW p++(pR k g.lent p).2)else({g with miss:=(g.cO p).length},g.cO p)
def PG.serve(g:PG)(p:Nat):PG×List (Nat×Let):=pR g.ask.length g p
theorem yr{g:PG}{p:Nat}(h:g.ask=[]):g.serve p=(g,[]):=by unfold PG.serve;rw[h];rfl
theorem uf{g:PG}{p:Nat}(h:g.ask≠[])(hb:g.cO p=[]):g.serve p=((g.lent.serve p).1,g.dW p++(g.lent.serve p).2):=by
 unfold PG.serve
 rw[PG.yq]
 cases h':g.ask with
 | nil=>exact absurd h' h
 | cons x q=>rw[List.length_cons,pR,hb,if_pos (by rfl)];rfl
theorem yt{g:PG}{p:Nat}(h:g.ask≠[])(hb:g.cO p≠[]):g.serve p=({g with miss:=(g.cO p).length},g.cO p):=by
 unfold PG.serve
 cases h':g.ask with
 | nil=>exact absurd h' h
 | cons x q=>rw[List.length_cons,pR,if_neg (by simpa using hb),h']
def PG.take(g:PG)(p d:Nat):UL->PG×List (Nat×Let)
 | .ask _ r=>if g.ask=[]then PG.serve {g with ask:=[(d,r)]} p else({g with ask:=g.ask++[(d,r)]},[])
 | .ans _ o=>if g.miss - 1=0 then
    ((PG.serve (PG.lent {g with num:=o.getD g.num,miss:=g.miss - 1}) p).1,PG.dW {g with num:=o.getD g.num,miss:=g.miss - 1} p++(PG.serve (PG.lent {g with num:=o.getD g.num,miss:=g.miss - 1}) p).2)
   else({g with num:=o.getD g.num,miss:=g.miss - 1},[])
 | .gave _ n=>({g with num:=n,wr:=if g.wr=some d then none else g.wr},[])
def post(dn:Nat->List Let)(ls:List (Nat×Let)):Nat->List Let:=ls.foldl (λf q=>aG f q.1 (f q.1++[q.2])) dn
theorem jX(dn:Nat->List Let)(a b:List (Nat×Let)):post dn (a++b)=post (post dn a) b:=by unfold post;rw[List.foldl_append]
theorem tQ(dn:Nat->List Let)(x:Nat×Let)(b:List (Nat×Let)):post dn (x::b)=post (aG dn x.1 (dn x.1++[x.2])) b:=rfl
theorem acg(dn:Nat->List Let)(a:List (Nat×Let))(x:Nat×Let):post dn (a++[x])=aG (post dn a) x.1 (post dn a x.1++[x.2]):=by rw[jX];rfl
theorem Ml(dn:Nat->List Let)(ls:List (Nat×Let))(x:Nat):(post dn ls x).length<=(dn x).length+ls.length:=by
 induction ls generalizing dn with
 | nil=>exact Nat.le_refl _
 | cons q r ih =>
   rw[tQ]
   refine Nat.le_trans (ih _) ?_
   rw[List.length_cons]
   by_cases e:x=q.1
   ·rw[e,aK,List.length_append];simp;lia
   ·rw[aW _ _ e];lia
abbrev Ev:=Bool×Int×Int
def agh(b:Bool):Str:=if b then "put" else "look"
def evD(e:Ev):D:=.t [.s (agh e.1),.i e.2.1,.i e.2.2]
def W.m9:W->Bool
 | .look _=>false
 | .put _ _=>true
theorem W.aiI(w:W):w.tag=agh w.m9:=by cases w<;>rfl
structure RE where
 put:Bool
 dk:Nat
 pg:Int
 num:Int
def RE.d(e:RE):D:=.t [.s (agh e.put),.i e.dk,.i e.pg,.i e.num]
structure TS where
 ds:Nat->DS
 pg:Nat->PG
 up:Nat->List UL
 dn:Nat->List Let
 row:List RE
def DS.il(S:DS)(w:W)(p:Nat):DS×List Ev×List UL:=if S.ok w then(S.done w,[(w.m9,w.pg,S.num w)],[])else({S with ws:=some w},[],[.ask p w.need])
def DS.mR(S:DS)(p:Int)(r:Rt)(n:Int):DS×List Ev :=
 match S.ws with
 | none=>(S.hold p r n,[])
 | some w=>if w.pg=p/\(S.hold p r n).ok w then(({S.hold p r n with ws:=none}:DS).done w,[(w.m9,w.pg,(S.hold p r n).num w)])else(S.hold p r n,[])
def DS.lz(S:DS)(p:Int):Option Int:=if S.rt p=.wr then some (S.nm p)else none
def Let.pg:Let->Int
 | .lend p _ _=>p
 | .back p _=>p
def DS.ug(S:DS):Let->DS×List Ev×List UL
 | .lend p r n=>((S.mR p r n).1,(S.mR p r n).2,[])
 | .back p r=>(S.down p r,[],[.ans p.toNat (S.lz p)])
theorem DS.aj6(S:DS)(w:W){p:Nat}(hp:w.pg=p):S.want w=((S.il w p).1,.t [.l ((S.il w p).2.1.map evD),.l ((S.il w p).2.2.map UL.d)]):=by
 unfold DS.want DS.il
 split
 ·simp[evD,W.aiI]
 ·simp[UL.d,hp]
theorem DS.ao4(S:DS)(p:Int)(r:Rt)(n:Int):S.gC p r n=((S.mR p r n).1,(S.mR p r n).2.map evD):=by
 unfold DS.gC DS.mR
 cases h:S.ws with
 | none=>rfl
 | some w=>dsimp only;split<;>simp[evD,W.aiI]
theorem DS.ao5(S:DS)(p:Int):S.tell p=oV (S.lz p):=by unfold DS.tell DS.lz;split<;>rfl
theorem amG(o:Option Int):Xh (oV o)=oD o:=by cases o<;>rfl
theorem DS.ao6(S:DS)(l:Let){p:Nat}(hp:l.pg=p):S.take l=((S.ug l).1,.t [.l ((S.ug l).2.1.map evD),.l ((S.ug l).2.2.map UL.d)]):=by
 cases l with
 | lend q r n=>simp only[DS.take,DS.ug,DS.ao4];rfl
 | back q r =>
   have hq:q=(p:Int):=hp
   subst hq
   simp only[DS.take,DS.ug,DS.ao5,amG]
   simp[UL.d]
def c7(row:List RE)(d:Nat)(es:List Ev):List RE:=row++es.map λe=>⟨e.1,d,e.2.1,e.2.2⟩
def TS.jY(S:TS)(d:Nat)(z:DS×List Ev×List UL):TS:={S with ds:=aG S.ds d z.1,up:=aG S.up d (S.up d++z.2.2),row:=c7 S.row d z.2.1}
def TS.Xi(S:TS)(d:Nat)(l:UL)(r:List UL):TS:={S with up:=aG S.up d r,pg:=aG S.pg l.pg ((S.pg l.pg).take l.pg d l).1,dn:=post S.dn ((S.pg l.pg).take l.pg d l).2}
def TS.Ik(S:TS)(d:Nat)(l:Let)(r:List Let):TS:=TS.jY {S with dn:=aG S.dn d r} d ((S.ds d).ug l)
def TS.lB(S:TS)(d:Nat)(p:Nat):TS:=TS.jY S d ((S.ds d).hold p .no ((S.ds d).nm p),[],if(S.ds d).rt p=.wr then [.gave p ((S.ds d).nm p)]else [])
inductive cB where
 | look (d p:Int) | put (d p n:Int) | rest (d p:Int) | up (d:Int) | down (d:Int)
def cB.vs:cB->List V
 | .look d p=>[.str "look",.int d,.int p]
 | .put d p n=>[.str "put",.int d,.int p,.int n]
 | .rest d p=>[.str "rest",.int d,.int p]
 | .up d=>[.str "up",.int d]
 | .down d=>[.str "down",.int d]
def cB.d:cB->D
 | .look d p=>.t [.s "look",.i d,.i p]
 | .put d p n=>.t [.s "put",.i d,.i p,.i n]
 | .rest d p=>.t [.s "rest",.i d,.i p]
 | .up d=>.t [.s "up",.i d]
 | .down d=>.t [.s "down",.i d]
def TS.wish(S:TS)(d p:Nat)(w:W)(told:D):TS×D:=match (S.ds d).ws with
 | some _=>(S,.s "waiting")
 | none=>(S.jY d ((S.ds d).il w p),if(S.ds d).ok w then told else .s "waits")
def TS.upD(S:TS)(d:Nat):TS×D:=match S.up d with
 | []=>(S,.s "no letter")
 | l::r=>(S.Xi d l r,l.d)
def TS.Xj(S:TS)(d:Nat):TS×D:=match S.dn d with
 | []=>(S,.s "no letter")
 | l::r=>(S.Ik d l r,l.d)
def inR(d:Int)(n:Nat):Prop:=0<=d/\d<n
instance (d:Int) (n:Nat):Decidable (inR d n):=inferInstanceAs (Decidable (_/\_))
def TS.step(n m:Nat)(S:TS):cB->TS×D
 | .up d=>if inR d n then S.upD d.toNat else(S,.s "no desk")
 | .down d=>if inR d n then S.Xj d.toNat else(S,.s "no desk")
 | .rest d p=>if inR d n then(if inR p m then(if(S.ds d.toNat).rt p=.no then(S,.s "no copy")else(S.lB d.toNat p.toNat,.s "done"))else(S,.s "no page"))else(S,.s "no desk")
 | .look d p=>if inR d n then(if inR p m then S.wish d.toNat p.toNat (.look p) (.i ((S.ds d.toNat).nm p))else(S,.s "no page"))else(S,.s "no desk")
 | .put d p x=>if inR d n then(if inR p m then S.wish d.toNat p.toNat (.put p x) (.s "done")else(S,.s "no page"))else(S,.s "no desk")
theorem gf{A B:L2.TS}{D:Ends}{σ:St}{H:Hp}(R:St->Hp->Prop)(ha:∀N:St->Hp->Prop,(∀σ' H',R σ' H'->N σ' H')->A {D with nx:=N} σ H)(hb:∀σ' H',R σ' H'->B D σ' H'):aR A B D σ H:=ha _ hb
def nV(d:Nat):V:=.int d
theorem bh{H H':Hp}(h:bJ H H'):cg H H':=λb xs e=>h b _ e
theorem dX{H H1:Hp}{l:Addr}{o:HO}(h:bJ H H1)(hn:H l=none):bJ H (upd H1 l o):=λb u e=>by rw[aq (aF e hn)];exact h b u e
theorem jK{H:Hp}{l:Addr}{us vs:List V}(h:H l=some (.lst us)):cg H (upd H l (.lst vs)):=λb xs e=>by rw[aq (ju e h (by intro z;cases z))];exact e
theorem amH{α:Type}(x:α)(xs:List α):seqIndex? 0 (x::xs).length=some 0:=by simp[seqIndex?]
theorem dj{a b:Str}(h:a≠b):decide (V.str a=V.str b)=false:=decide_eq_false λz=>h (V.str.inj z)
theorem fK{a:Str}:decide (V.str a=V.str a)=true:=decide_eq_true rfl
def sO(x:Nat×Rt):D:=.t [.i x.1,.s x.2.s]
def pairD(x:Nat×Let):D:=.t [.i x.1,x.2.d]
def wrV:Option Nat->V
 | none=>.non
 | some w=>.int w
def BX(p:Nat)(g:PG)(r q:Addr):List (Str×V):=[("page",.int p),("number",.int g.num),("writer",wrV g.wr),("readers",.ref r),("asked",.ref q),("awaited",.int g.miss)]
section
variable{p:Nat}{g:PG}{r q:Addr}
theorem amI{n:Int}:gk "awaited" (.int 0) (gk "asked" (.ref q) (gk "readers" (.ref r) (gk "writer" .non (gk "number" (.int n) (gk "page" (.int p) [])))))=BX p ⟨n,none,[],[],0⟩ r q:=by kernel_rfl
theorem aj7{n:Int}:gk "number" (.int n) (BX p g r q)=BX p {g with num:=n} r q:=by kernel_rfl
theorem aj8:gk "writer" .non (BX p g r q)=BX p {g with wr:=none} r q:=by kernel_rfl
theorem ao7{d:Nat}:gk "writer" (.int d) (BX p g r q)=BX p {g with wr:=some d} r q:=by kernel_rfl
theorem atb{r':Addr}{l:List Nat}:gk "readers" (.ref r') (BX p g r q)=BX p {g with rd:=l} r' q:=by kernel_rfl
theorem agi{k:Int}:gk "awaited" (.int k) (BX p g r q)=BX p {g with miss:=k} r q:=by kernel_rfl
theorem Xk:(BX p g r q).lookup ("page":Str)=some (.int p):=by kernel_rfl
theorem aiJ:(BX p g r q).lookup ("number":Str)=some (.int g.num):=by kernel_rfl
theorem uh:(BX p g r q).lookup ("writer":Str)=some (wrV g.wr):=by kernel_rfl
theorem vO:(BX p g r q).lookup ("readers":Str)=some (.ref r):=by kernel_rfl
theorem tR:(BX p g r q).lookup ("asked":Str)=some (.ref q):=by kernel_rfl
theorem R9:(BX p g r q).lookup ("awaited":Str)=some (.int g.miss):=by kernel_rfl
theorem vP:(BX p g r q).length<1000:=by show 6<1000;decide
theorem ach:(BX p g r q).lookup ("serve":Str)=none:=by kernel_rfl
theorem agj:(BX p g r q).lookup ("lend":Str)=none:=by kernel_rfl
theorem amJ:(BX p g r q).lookup ("bids_for_first":Str)=none:=by kernel_rfl
theorem atc:(BX p g r q).lookup ("let_write":Str)=none:=by kernel_rfl
theorem atd:(BX p g r q).lookup ("let_read":Str)=none:=by kernel_rfl
theorem ate:(BX p g r q).lookup ("take_ask":Str)=none:=by kernel_rfl
theorem atf:(BX p g r q).lookup ("take_answer":Str)=none:=by kernel_rfl
theorem atg:(BX p g r q).lookup ("take_gave":Str)=none:=by kernel_rfl
end
structure gj(C:Addr)(H:Hp)(a r q:Addr)(p:Nat)(g:PG):Prop where
 ob:∃dx,H a=some (.ins C dx (BX p g r q))
 rl:H r=some (.lst (g.rd.map nV))
 al:∃vs,H q=some (.lst vs)/\aH H vs (g.ask.map sO)
 ne:r≠q
def Lv(H H':Hp):Prop:=∀b,H' b=none->H b=none
theorem Lv.refl(H:Hp):Lv H H:=λ_ h=>h
theorem Lv.trans{H H1 H2:Hp}(x:Lv H H1)(y:Lv H1 H2):Lv H H2:=λb h=>x b (y b h)
theorem Lv.upd{H:Hp}{a:Addr}{o:HO}:Lv H (upd H a o):=λb h=>by
 by_cases e:b=a
 ·rw[e,aj]at h;cases h
 ·rw[aq e]at h;exact h
theorem Lv.same{H H':Hp}(h:bJ H H'):Lv H H':=λb e=>by
 cases q:H b with
 | none=>rfl
 | some o=>rw[h b o q]at e;cases e
structure PF(H H':Hp)(a r q:Addr):Prop where
 kp:∀b o,H b=some o->b≠a->b≠r->b≠q->H' b=some o
 lv:Lv H H'
theorem PF.refl(H:Hp)(a r q:Addr):PF H H a r q:=⟨λ_ _ h _ _ _=>h,Lv.refl _⟩
theorem PF.trans{H H1 H2:Hp}{a r q:Addr}(x:PF H H1 a r q)(y:PF H1 H2 a r q):PF H H2 a r q:=⟨λb o h h1 h2 h3=>y.kp b o (x.kp b o h h1 h2 h3) h1 h2 h3,x.lv.trans y.lv⟩
theorem PF.trans'{H H1 H2:Hp}{a r r1 q:Addr}(x:PF H H1 a r q)(y:PF H1 H2 a r1 q)(h:r1=r\/H r1=none):PF H H2 a r q:=⟨λb o hb h1 h2 h3=>y.kp b o (x.kp b o hb h1 h2 h3) h1 (by
 rcases h with z | z
 ·rw[z];exact h2
 ·exact aF hb z) h3,x.lv.trans y.lv⟩
theorem lg(l:List (Nat×Rt)):D.flats (l.map sO):=by
 induction l with
 | nil=>simp[D.flats]
 | cons x l ih=>simp only[List.map_cons,D.flats];exact⟨by simp[sO,D.flat,D.flats],ih⟩
theorem Let.flat(l:Let):l.d.flat:=by cases l<;>simp[Let.d,D.flat,D.flats]
theorem dg(l:List (Nat×Let)):D.flats (l.map pairD):=by
 induction l with
 | nil=>simp[D.flats]
 | cons x l ih=>simp only[List.map_cons,D.flats];exact⟨by simp only[pairD,D.flat,D.flats];exact⟨trivial,Let.flat _,trivial⟩,ih⟩
section
variable{C:Addr}{H H':Hp}{a r q:Addr}{p:Nat}{g:PG}
theorem gj.nar(P:gj C H a r q p g):a≠r:=by obtain⟨⟨dx,h⟩,h2,_⟩:=P;exact ju h h2 (by intro z;cases z)
theorem gj.naq(P:gj C H a r q p g):a≠q:=by obtain⟨⟨dx,h⟩,_,⟨vs,h2,_⟩,_⟩:=P;exact ju h h2 (by intro z;cases z)
theorem PF.tups(P:gj C H a r q p g)(h:PF H H' a r q):cg H H':=λb xs e=>by
 obtain⟨⟨dx,h1⟩,h2,⟨vs,h3,_⟩,_⟩:=P
 exact h.kp b _ e (ju e h1 (by intro z;cases z)) (ju e h2 (by intro z;cases z)) (ju e h3 (by intro z;cases z))
theorem gj.keep(P:gj C H a r q p g)(t:cg H H')(ha:∀o,H a=some o->H' a=some o)(hr:∀o,H r=some o->H' r=some o)(hq:∀o,H q=some o->H' q=some o):gj C H' a r q p g:=by
 obtain⟨⟨dx,h1⟩,h2,⟨vs,h3,h4⟩,h5⟩:=P
 exact⟨⟨dx,ha _ h1⟩,hr _ h2,⟨vs,hq _ h3,h4.aZ t (lg _)⟩,h5⟩
theorem gj.same(P:gj C H a r q p g)(h:bJ H H'):gj C H' a r q p g:=P.keep (λb xs e=>h b _ e) (λo e=>h _ o e) (λo e=>h _ o e) λo e=>h _ o e
theorem gj.new{b:Addr}{o:HO}(P:gj C H a r q p g)(h:H b=none):gj C (upd H b o) a r q p g:=P.same (az h)
theorem PF.new{b:Addr}{o:HO}(h:H b=none):PF H (upd H b o) a r q:=⟨λc u e _ _ _=>az h c u e,Lv.upd⟩
theorem gj.wr{dx:Addr}{g':PG}(P:gj C H a r q p g)(e1:g'.rd=g.rd)(e2:g'.ask=g.ask):gj C (upd H a (.ins C dx (BX p g' r q))) a r q p g':=by
 have n1:=P.nar
 have n2:=P.naq
 obtain⟨⟨yg,h1⟩,h2,⟨vs,h3,h4⟩,h5⟩:=P
 have t:cg H (upd H a (.ins C dx (BX p g' r q))):=λb xs e=>by rw[aq (ju e h1 (by intro z;cases z))];exact e
 exact⟨⟨dx,aj⟩,by rw[aq n1.symm,e1];exact h2,⟨vs,by rw[aq n2.symm];exact h3,by rw[e2];exact h4.aZ t (lg _)⟩,h5⟩
theorem PF.wr{o:HO}:PF H (upd H a o) a r q:=⟨λb u e h1 _ _=>by rw[aq h1];exact e,Lv.upd⟩
theorem PF.wrR{o:HO}:PF H (upd H r o) a r q:=⟨λb u e _ h2 _=>by rw[aq h2];exact e,Lv.upd⟩
theorem PF.wrQ{o:HO}:PF H (upd H q o) a r q:=⟨λb u e _ _ h3=>by rw[aq h3];exact e,Lv.upd⟩
theorem gj.wrR{l:List Nat}(P:gj C H a r q p g):gj C (upd H r (.lst (l.map nV))) a r q p {g with rd:=l}:=by
 have n1:=P.nar
 obtain⟨⟨yg,h1⟩,h2,⟨vs,h3,h4⟩,h5⟩:=P
 have t:cg H (upd H r (.lst (l.map nV))):=λb xs e=>by rw[aq (ju e h2 (by intro z;cases z))];exact e
 exact⟨⟨yg,by rw[aq n1];exact h1⟩,aj,⟨vs,by rw[aq h5.symm];exact h3,h4.aZ t (lg _)⟩,h5⟩
theorem gj.wrQ{l:List (Nat×Rt)}{vs:List V}(P:gj C H a r q p g)(rp:aH H vs (l.map sO)):gj C (upd H q (.lst vs)) a r q p {g with ask:=l}:=by
 have n1:=P.naq
 obtain⟨⟨yg,h1⟩,h2,⟨us,h3,h4⟩,h5⟩:=P
 have t:cg H (upd H q (.lst vs)):=λb xs e=>by rw[aq (ju e h3 (by intro z;cases z))];exact e
 exact⟨⟨yg,by rw[aq n1];exact h1⟩,by rw[aq h5];exact h2,⟨vs,aj,rp.aZ t (lg _)⟩,h5⟩
theorem HY{H:Hp}{vs:List V}{x:Nat×Rt}{l:List (Nat×Rt)}(h:aH H vs ((x::l).map sO)):∃t us,vs=.ref t::us/\H t=some (.tup [.int x.1,.str x.2.s])/\aH H us (l.map sO):=by
 simp only[List.map_cons,aH]at h
 obtain⟨v,us,e,rv,rl⟩:=h
 simp only[sO,Rep,aH]at rv
 obtain⟨t,xs,e1,e2,_,_,e3,rfl,_,_,e4,rfl,e5⟩:=rv
 subst e1 e5 e4 e3
 exact⟨t,us,e,e2,rl⟩
end
def aj9(C:Addr)(H:Hp)(a r q:Addr)(p:Nat)(z:PG×List (Nat×Let))(Q:VK):Prop :=
 ∀l r' vs H',H l=none->(r'=r\/H r'=none)->l≠r'->gj C H' a r' q p z.1->PF H H' a r q->H' l=some (.lst vs)->aH H' vs (z.2.map pairD)->Q (.ref l) H'
def PG.mu(g:PG):Nat:=g.rd.length+2*g.ask.length
theorem PG.sS(g:PG):g.lent.mu<=g.mu:=by
 unfold PG.lent PG.mu
 cases h:g.ask with
 | nil=>simp[h]
 | cons x l =>
   obtain⟨a,r⟩:=x
   dsimp only
   split
   ·simp[lJ];lia
   ·simp only[kZ]
    have hw:g.wr.toList.length<=1:=by cases g.wr<;>simp
    split<;>simp[List.length_append]<;>lia
def aka:Sp:=λvs H Q _=>∃x y z,vs=[x,y,z]/\∀a,H a=none->Q (.ref a) (upd H a (.tup [.str "lend",x,y,z]))
def amK(C:Addr):Sp:=λvs H Q _=>∃a dx,∃p:Nat,∃n:Int,vs=[.ref a,.int p,.int n]/\H a=some (.ins C dx [])/\∀r q H',H r=none->H q=none->gj C H' a r q p ⟨n,none,[],[],0⟩->(∀b o,H b=some o->b≠a->H' b=some o)->Lv H H'->Q .non H'
def ati(C:Addr):Sp:=λvs H Q _=>∃a r q p g,∃d:Nat,vs=[.ref a,.int d]/\gj C H a r q p g/\g.rd.length<=1000000/\∀H',gj C H' a r q p (kZ g d)->PF H H' a r q->Q .non H'
def atj(C:Addr):Sp:=λvs H Q _=>∃a r q p g,∃d:Nat,vs=[.ref a,.int d]/\gj C H a r q p g/\∀r' H',H r'=none->gj C H' a r' q p (lJ g d)->PF H H' a r q->Q .non H'
def ao8(C:Addr):Sp:=λvs H Q _=>∃a r q p g d x l,vs=[.ref a]/\gj C H a r q p g/\g.ask=(d,x)::l/\(x=.rd\/x=.wr)/\g.rd.length<=1000000/\
 ∀v r' H',(r'=r\/H r'=none)->gj C H' a r' q p g.lent->PF H H' a r q->Rep H' v (pairD (d,.lend p x g.num))->Q v H'
def atk(C:Addr):Sp:=λvs H Q _=>∃a r q p g d x l,vs=[.ref a]/\gj C H a r q p g/\g.ask=(d,x)::l/\(x=.rd\/x=.wr)/\g.rd.length<=1000000/\
 ∀b us H',H b=none->bJ H H'->H' b=some (.lst us)->aH H' us ((g.cO p).map pairD)->Q (.ref b) H'
def Rw(l:List (Nat×Rt)):Prop:=∀x∈l,x.2=.rd\/x.2=.wr
def ao9(C:Addr):Sp:=λvs H Q _=>∃a r q p g,vs=[.ref a]/\gj C H a r q p g/\Rw g.ask/\g.mu<=1000000/\aj9 C H a r q p (g.serve p) Q
def awA(C:Addr):Sp:=λvs H Q _=>∃a r q p g x,∃d:Nat,vs=[.ref a,.int d,.str (Rt.s x)]/\gj C H a r q p g/\(x=.rd\/x=.wr)/\Rw g.ask/\g.mu<=900000/\aj9 C H a r q p (g.take p d (.ask p x)) Q
def awB(C:Addr):Sp:=λvs H Q _=>∃a r q p g o,∃d:Nat,vs=[.ref a,oV o]/\gj C H a r q p g/\(g.miss - 1=0->g.ask≠[])/\Rw g.ask/\g.mu<=900000/\aj9 C H a r q p (g.take p d (.ans p o)) Q
def atl(C:Addr):Sp:=λvs H Q _=>∃a r q p g,∃d:Nat,∃n:Int,vs=[.ref a,.int d,.int n]/\gj C H a r q p g/\aj9 C H a r q p (g.take p d (.gave p n)) Q
def jO{ι:Type}[DecidableEq ι](A:ι->Addr)(z:ι)(a:Addr):ι->Addr:=λx=>if x=z then a else A x
theorem cY{ι:Type}[DecidableEq ι](A:ι->Addr)(z:ι)(a:Addr):jO A z a z=a:=by simp[jO]
theorem bK{ι:Type}[DecidableEq ι](A:ι->Addr){z x:ι}(a:Addr)(h:x≠z):jO A z a x=A x:=by simp[jO,h]
theorem WM{ι:Type}[DecidableEq ι]{A:ι->Addr}{ok ok':ι->Prop}{z:ι}{a:Addr}(hi:∀x y,ok x->ok y->A x=A y->x=y)(hn:∀x,ok x->A x≠a)(ho:∀x,ok' x->x=z\/ok x) :
 ∀x y,ok' x->ok' y->jO A z a x=jO A z a y->x=y:=by
 intro x y hx hy e
 by_cases h1:x=z
 ·by_cases h2:y=z
  ·rw[h1,h2]
  ·rw[h1,cY,bK _ _ h2]at e
   exact absurd e.symm (hn y ((ho y hy).resolve_left h2))
 ·by_cases h2:y=z
  ·rw[h2,cY,bK _ _ h1]at e
   exact absurd e (hn x ((ho x hx).resolve_left h1))
  ·rw[bK _ _ h1,bK _ _ h2]at e
   exact hi x y ((ho x hx).resolve_left h1) ((ho y hy).resolve_left h2) e
inductive Hb where
 | hall | pages | gC (p:Nat) | jc (p:Nat) | jL (p:Nat)
 deriving DecidableEq
def Hb.ok(m:Nat):Hb->Prop
 | .hall=>True
 | .pages=>True
 | .gC p=>p<m
 | .jc p=>p<m
 | .jL p=>p<m
def hfl(l:Addr):List (Str×V):=[("pages",.ref l)]
theorem ak9{l:Addr}:(hfl l).lookup ("pages":Str)=some (.ref l):=by kernel_rfl
theorem amL{l:Addr}:(hfl l).lookup ("take":Str)=none:=by kernel_rfl
theorem amM{l:Addr}:gk "pages" (.ref l) []=hfl l:=by kernel_rfl
structure lY(CH CP:Addr)(H:Hp)(A:Hb->Addr)(m:Nat)(G:Nat->PG):Prop where
 inj:∀x y,x.ok m->y.ok m->A x=A y->x=y
 ob:∃dx,H (A .hall)=some (.ins CH dx (hfl (A .pages)))
 pl:H (A .pages)=some (.lst ((List.range m).map λp=>V.ref (A (.gC p))))
 pg:∀p,p<m->gj CP H (A (.gC p)) (A (.jc p)) (A (.jL p)) p (G p)
structure HF(H H':Hp)(A:Hb->Addr)(m:Nat):Prop where
 kp:∀b o,H b=some o->(∀x:Hb,x.ok m->b≠A x)->H' b=some o
 lv:Lv H H'
section
variable{CH CP:Addr}{H H':Hp}{A:Hb->Addr}{m:Nat}{G:Nat->PG}
theorem lY.live(h:lY CH CP H A m G)(x:Hb)(hx:x.ok m):∃o,H (A x)=some o/\∀xs,o≠.tup xs:=by
 cases x with
 | hall=>obtain⟨dx,e⟩:=h.ob;exact⟨_,e,λ_ z=>by cases z⟩
 | pages=>exact⟨_,h.pl,λ_ z=>by cases z⟩
 | gC p=>obtain⟨⟨dx,e⟩,_⟩:=h.pg p hx;exact⟨_,e,λ_ z=>by cases z⟩
 | jc p=>exact⟨_,(h.pg p hx).rl,λ_ z=>by cases z⟩
 | jL p=>obtain⟨vs,e,_⟩:=(h.pg p hx).al;exact⟨_,e,λ_ z=>by cases z⟩
theorem lY.keep(h:lY CH CP H A m G)(t:cg H H')(k:∀x:Hb,x.ok m->∀o,H (A x)=some o->H' (A x)=some o):lY CH CP H' A m G:=by
 refine⟨h.inj,?_,k .pages trivial _ h.pl,λp hp=>(h.pg p hp).keep t (k (.gC p) hp) (k (.jc p) hp) (k (.jL p) hp)⟩
 obtain⟨dx,e⟩:=h.ob
 exact⟨dx,k .hall trivial _ e⟩
theorem HF.tups(h:lY CH CP H A m G)(f:HF H H' A m):cg H H':=λb xs e=>f.kp b _ e λx hx z=>by
 obtain⟨o,e1,e2⟩:=h.live x hx
 rw[<-z,e]at e1
 exact e2 xs (Option.some.inj e1).symm
theorem lY.page{p:Nat}{g':PG}{r':Addr}(h:lY CH CP H A m G)(hp:p<m)(P:gj CP H' (A (.gC p)) r' (A (.jL p)) p g')(f:PF H H' (A (.gC p)) (A (.jc p)) (A (.jL p)))(hr:r'=A (.jc p)\/H r'=none) :
 lY CH CP H' (jO A (.jc p) r') m (aG G p g')/\HF H H' A m:=by
 have tp:=f.tups (h.pg p hp)
 have kk:∀x:Hb,x.ok m->x≠.gC p->x≠.jc p->x≠.jL p->∀o,H (A x)=some o->H' (A x)=some o:=λx hx n1 n2 n3 o e =>
  f.kp _ o e (λz=>n1 (h.inj _ _ hx hp z)) (λz=>n2 (h.inj _ _ hx hp z)) λz=>n3 (h.inj _ _ hx hp z)
 refine⟨⟨?_,?_,?_,λj hj=>?_⟩,⟨λb o e hn=>f.kp b o e (hn _ hp) (hn (.jc p) hp) (hn (.jL p) hp),f.lv⟩⟩
 ·intro x y hx hy e
  by_cases h1:x=.jc p
  ·by_cases h2:y=.jc p
   ·rw[h1,h2]
   ·rw[h1,cY,bK _ _ h2]at e
    rcases hr with z | z
    ·rw[z]at e;rw[h1];exact h.inj _ _ hp hy e
    ·obtain⟨o,e1,_⟩:=h.live y hy;rw[<-e,z]at e1;cases e1
  ·by_cases h2:y=.jc p
   ·rw[h2,cY,bK _ _ h1]at e
    rcases hr with z | z
    ·rw[z]at e;rw[h2];exact h.inj _ _ hx hp e
    ·obtain⟨o,e1,_⟩:=h.live x hx;rw[e,z]at e1;cases e1
   ·rw[bK _ _ h1,bK _ _ h2]at e
    exact h.inj _ _ hx hy e
 ·obtain⟨dx,e⟩:=h.ob
  refine⟨dx,?_⟩
  rw[bK _ _ (by intro z;cases z),bK _ _ (by intro z;cases z)]
  exact kk .hall trivial (by intro z;cases z) (by intro z;cases z) (by intro z;cases z) _ e
 ·rw[bK _ _ (by intro z;cases z)]
  have e:=kk .pages trivial (by intro z;cases z) (by intro z;cases z) (by intro z;cases z) _ h.pl
  rw[e]
  congr 2
 ·by_cases e:j=p
  ·subst e
   rw[show jO A (.jc j) r' (.gC j)=A (.gC j)by simp[jO],show jO A (.jc j) r' (.jL j)=A (.jL j)by simp[jO],cY,aK]
   exact P
  ·rw[show jO A (.jc p) r' (.gC j)=A (.gC j)by simp[jO],show jO A (.jc p) r' (.jL j)=A (.jL j)by simp[jO],show jO A (.jc p) r' (.jc j)=A (.jc j)by simp[jO,e],aW _ _ e]
   exact(h.pg j hj).keep tp (kk (.gC j) hj (by intro z;cases z;exact e rfl) (by intro z;cases z) (by intro z;cases z)) (kk (.jc j) hj (by intro z;cases z) (by intro z;cases z;exact e rfl) (by intro z;cases z)) (kk (.jL j) hj (by intro z;cases z) (by intro z;cases z) (by intro z;cases z;exact e rfl))
end
def UL.good(g:PG):UL->Prop
 | .ask _ r=>r=.rd\/r=.wr
 | .ans _ _=>g.miss - 1=0->g.ask≠[]
 | .gave _ _=>True
def azP(CH CP:Addr)(H:Hp)(A:Hb->Addr)(m:Nat)(G:Nat->PG)(p:Nat)(z:PG×List (Nat×Let))(Q:VK):Prop :=
 ∀l A' vs H',H l=none->lY CH CP H' A' m (aG G p z.1)->HF H H' A m->(∀x:Hb,x.ok m->A' x=A x\/H (A' x)=none)->(∀x:Hb,x.ok m->l≠A' x)->A' .hall=A .hall->H' l=some (.lst vs)->aH H' vs (z.2.map pairD)->Q (.ref l) H'
def aiK(CH CP:Addr):Sp:=λvs H Q _=>∃A m G b l,∃d:Nat,vs=[.ref (A .hall),.int d,.ref b]/\lY CH CP H A m G/\H b=some (.tup (UL.vs l))/\l.pg<m/\l.good (G l.pg)/\Rw (G l.pg).ask/\(G l.pg).mu<=900000/\
 azP CH CP H A m G l.pg ((G l.pg).take l.pg d l) Q
def pg0(ns:List Int)(p:Nat):PG:=⟨(ns[p]?).getD 0,none,[],[],0⟩
def aiM(CH CP:Addr):Sp:=λvs H Q _=>∃h dx l,∃ns:List Int,vs=[.ref h,.ref l]/\H h=some (.ins CH dx [])/\H l=some (.lst (ns.map V.int))/\ns.length<=1000/\
 ∀A H',A .hall=h->(∀x:Hb,x.ok ns.length->x≠.hall->H (A x)=none)->lY CH CP H' A ns.length (pg0 ns)->(∀b o,H b=some o->b≠h->H' b=some o)->Lv H H'->Q .non H'
structure Uh(n:Nat)(g:PG):Prop where
 w:∀x,g.wr=some x->x<n
 r:∀x∈g.rd,x<n
 q:∀x∈g.ask,x.1<n/\(x.2=.rd\/x.2=.wr)
theorem Uh.rw{n:Nat}{g:PG}(h:Uh n g):Rw g.ask:=λx hx=>(h.q x hx).2
def Let.nice:Let->Prop
 | .lend _ r _=>r=.rd\/r=.wr
 | .back _ r=>r=.rd\/r=.no
def Let.bk(p:Nat):Let->Bool
 | .back q _=>decide (q=(p:Int))
 | .lend _ _ _=>false
def UL.an(p:Nat):UL->Bool
 | .ans q _=>decide (q=p)
 | _=>false
def Iu(n p:Nat)(ls:List (Nat×Let)):Prop:=∀q∈ls,q.1<n/\q.2.pg=(p:Int)/\q.2.nice
theorem Uh.cO{n:Nat}{g:PG}(h:Uh n g)(p:Nat):Iu n p (g.cO p)/\(g.cO p).countP (λq=>q.2.bk p)=(g.cO p).length:=by
 have key:∀x∈g.cO p,(x.1<n/\x.2.pg=(p:Int)/\x.2.nice)/\x.2.bk p=true:=by
  intro x hx
  unfold PG.cO at hx
  split at hx
  ·cases hx
  ·rename_i a r l ha
   rcases List.mem_append.mp hx with hx | hx
   ·unfold ph at hx
    split at hx
    ·rename_i wv hw
     split at hx
     ·cases hx
     ·have this:=List.mem_singleton.mp hx
      rw[this]
      refine⟨⟨h.w wv hw,rfl,?_⟩,by simp[Let.bk]⟩
      unfold low
      split
      ·exact .inl rfl
      ·exact .inr rfl
    ·cases hx
   ·unfold pq at hx
    split at hx
    ·obtain⟨d,hd,e⟩:=List.mem_map.mp hx
     rw[<-e];exact⟨⟨h.r d (List.mem_filter.mp hd).1,rfl,.inr rfl⟩,by simp[Let.bk]⟩
    ·cases hx
 exact⟨λx hx=>(key x hx).1,List.countP_eq_length.mpr λx hx=>(key x hx).2⟩
theorem Uh.lent{n:Nat}{g:PG}(h:Uh n g):Uh n g.lent:=by
 unfold PG.lent
 cases e:g.ask with
 | nil=>exact h
 | cons x l =>
   obtain⟨a,r⟩:=x
   have ha:a<n:=(h.q (a,r) (by rw[e];simp)).1
   have hl:∀x∈l,x.1<n/\(x.2=.rd\/x.2=.wr):=λx hx=>h.q x (by rw[e];exact List.mem_cons_of_mem _ hx)
   have hrs:∀x∈g.rd++g.wr.toList,x<n:=λx hx=>by
    rcases List.mem_append.mp hx with hx | hx
    ·exact h.r x hx
    ·exact h.w x (by cases hw:g.wr with | none=>rw[hw]at hx;simp at hx | some y=>rw[hw]at hx;simp at hx;rw[hx])
   dsimp only
   split
   ·refine⟨λx hx=>?_,λx hx=>by simp[lJ]at hx,hl⟩
    have e:a=x:=by simpa[lJ] using hx
    rw[<-e];exact ha
   ·refine⟨λx hx=>by simp[kZ]at hx,λx hx=>?_,hl⟩
    simp only[kZ]at hx
    split at hx
    ·exact hrs x hx
    ·rcases List.mem_append.mp hx with hx | hx
     ·exact hrs x hx
     ·have:x=a:=by simpa using hx
      rw[this];exact ha
theorem PG.yu(g:PG):g.lent.miss=g.miss:=by
 unfold PG.lent
 cases g.ask with
 | nil=>rfl
 | cons x l=>obtain⟨a,r⟩:=x;dsimp only;split<;>rfl
theorem Uh.dW{n:Nat}{g:PG}(h:Uh n g)(p:Nat):Iu n p (g.dW p)/\(g.dW p).countP (λq=>q.2.bk p)=0:=by
 unfold PG.dW
 cases e:g.ask with
 | nil=>exact⟨λq hq=>by simp at hq,rfl⟩
 | cons x l =>
   obtain⟨a,r⟩:=x
   have ha:=h.q (a,r) (by rw[e];simp)
   refine⟨λq hq=>?_,by simp[Let.bk]⟩
   have this:=List.mem_singleton.mp hq
   rw[this]
   exact⟨ha.1,rfl,ha.2⟩
theorem Iu.append{n p:Nat}{a b:List (Nat×Let)}(x:Iu n p a)(y:Iu n p b):Iu n p (a++b):=λq hq=>(List.mem_append.mp hq).elim (x q) (y q)
theorem yw:∀(k:Nat) {n:Nat} {g:PG} (p:Nat),g.ask.length=k->Uh n g->g.miss=0->
 Uh n (g.serve p).1/\Iu n p (g.serve p).2/\((g.serve p).2.countP (λq=>q.2.bk p):Int)=(g.serve p).1.miss/\((g.serve p).1.ask=[]↔(g.serve p).1.miss=0)
 | 0,n,g,p,hk,h,h0=>by
   have e:g.ask=[]:=List.length_eq_zero_iff.mp hk
   rw[yr e]
   exact⟨h,λq hq=>by simp at hq,by simp[h0],by simp[e,h0]⟩
 | k+1,n,g,p,hk,h,h0=>by
   have e:g.ask≠[]:=λz=>by rw[z]at hk;simp at hk
   by_cases hb:g.cO p=[]
   ·rw[uf e hb]
    obtain⟨i1,i2,i3,i4⟩:=yw k (n:=n) (g:=g.lent) p (by rw[PG.yq,hk];rfl) h.lent (by rw[PG.yu];exact h0)
    obtain⟨j1,j2⟩:=h.dW p
    exact⟨i1,j1.append i2,by rw[List.countP_append,j2,Nat.zero_add];exact i3,i4⟩
   ·rw[yt e hb]
    obtain⟨j1,j2⟩:=h.cO p
    refine⟨⟨h.w,h.r,h.q⟩,j1,by rw[j2],⟨λz=>absurd z e,λz=>?_⟩⟩
    have:(g.cO p).length=0:=by have z':((g.cO p).length:Int)=0:=z;lia
    exact absurd (List.length_eq_zero_iff.mp this) hb
theorem PG.yw{n:Nat}{g:PG}(p:Nat)(h:Uh n g)(h0:g.miss=0) :
 Uh n (g.serve p).1/\Iu n p (g.serve p).2/\((g.serve p).2.countP (λq=>q.2.bk p):Int)=(g.serve p).1.miss/\((g.serve p).1.ask=[]↔(g.serve p).1.miss=0):=gB.yw _ p rfl h h0
theorem awC{A B C D E:Prop}(h:E)(z:A/\B/\C/\D):A/\B/\C/\D/\E:=⟨z.1,z.2.1,z.2.2.1,z.2.2.2,h⟩
theorem PG.amN{n:Nat}{g:PG}{p d:Nat}{l:UL}{c:Nat}(h:Uh n g)(ham:g.ask=[]↔g.miss=0)(hd:d<n)(hr:∀q r,l=.ask q r->r=.rd\/r=.wr)(hp:l.pg=p)(hc:((c+if l.an p then 1 else 0:Nat):Int)=g.miss) :
 Uh n (g.take p d l).1/\Iu n p (g.take p d l).2/\(((g.take p d l).2.countP (λq=>q.2.bk p)+c:Nat):Int)=(g.take p d l).1.miss/\((g.take p d l).1.ask=[]↔(g.take p d l).1.miss=0)/\l.good g:=by
 cases l with
 | ask q r =>
   have hx:=hr q r rfl
   have hc':(c:Int)=g.miss:=by simpa[UL.an] using hc
   refine awC hx ?_
   simp only[PG.take]
   by_cases e:g.ask=[]
   ·rw[if_pos e]
    have h0:=ham.mp e
    obtain⟨i1,i2,i3,i4⟩:=PG.yw (n:=n) (g:={g with ask:=[(d,r)]}) p ⟨h.w,h.r,λx hx'=>by rw[List.mem_singleton.mp hx'];exact⟨hd,hx⟩⟩ h0
    have c0:c=0:=by lia
    exact⟨i1,i2,by rw[c0];exact i3,i4⟩
   ·rw[if_neg e]
    refine⟨⟨h.w,h.r,λx hx'=>?_⟩,λq hq=>by simp at hq,by simpa using hc',⟨λz=>by simp at z,λz=>absurd (ham.mpr z) e⟩⟩
    rcases List.mem_append.mp hx' with hx' | hx'
    ·exact h.q x hx'
    ·have:x=(d,r):=by simpa using hx'
     rw[this];exact⟨hd,hx⟩
 | ans q o =>
   have hq:q=p:=hp
   subst hq
   have hc':(c:Int)+1=g.miss:=by simpa[UL.an] using hc
   have hne:g.ask≠[]:=λz=>by have:=ham.mp z;lia
   refine awC (λ_=>hne) ?_
   simp only[PG.take]
   by_cases e:g.miss - 1=0
   ·rw[if_pos e]
    have hg:Uh n ({g with num:=o.getD g.num,miss:=g.miss - 1}:PG):=⟨h.w,h.r,h.q⟩
    generalize hg2:({g with num:=o.getD g.num,miss:=g.miss - 1}:PG)=g2 at hg
    have hm2:g2.miss=0:=by rw[<-hg2];exact e
    obtain⟨i1,i2,i3,i4⟩:=PG.yw (n:=n) (g:=g2.lent) q hg.lent (by rw[PG.yu];exact hm2)
    obtain⟨j1,j2⟩:=hg.dW q
    have c0:c=0:=by lia
    exact⟨i1,j1.append i2,by rw[c0,List.countP_append,j2,Nat.zero_add,Nat.add_zero];exact i3,i4⟩
   ·rw[if_neg e]
    refine⟨⟨h.w,h.r,h.q⟩,λq hq=>by simp at hq,?_,⟨λz=>absurd z hne,λz=>absurd z e⟩⟩
    show((0+c:Nat):Int)=g.miss - 1
    lia
 | gave q x =>
   have hc':(c:Int)=g.miss:=by simpa[UL.an] using hc
   simp only[PG.take]
   refine⟨⟨λy hy=>?_,h.r,h.q⟩,λq hq=>by simp at hq,by simpa using hc',ham,trivial⟩
   dsimp only at hy
   split at hy
   ·cases hy
   ·exact h.w y hy
def agk(n:Nat)(f:Nat->Nat):Nat:=((List.range n).map f).sum
theorem yx(n:Nat)(f:Nat->Nat):agk (n+1) f=agk n f+f n:=by unfold agk;rw[List.range_succ,List.map_append,List.sum_append];simp
theorem aiN{n:Nat}{f g:Nat->Nat}(h:∀e,e<n->f e=g e):agk n f=agk n g:=by
 induction n with
 | zero=>rfl
 | succ n ih=>rw[yx,yx,ih λe he=>h e (Nat.lt_succ_of_lt he),h n (Nat.lt_succ_self n)]
theorem agl{n d:Nat}{f g:Nat->Nat}(hd:d<n)(h:∀e,e≠d->g e=f e):agk n g+f d=agk n f+g d:=by
 induction n with
 | zero=>exact absurd hd (Nat.not_lt_zero _)
 | succ n ih =>
   rw[yx,yx]
   by_cases e:d=n
   ·subst e
    have:=aiN (n:=d) (f:=g) (g:=f) λe he=>h e (Nat.ne_of_lt he)
    lia
   ·have h1:=ih (by lia)
    have h2:=h n (Ne.symm e)
    lia
def cnt(n p:Nat)(up:Nat->List UL)(dn:Nat->List Let):Nat:=agk n λd=>(up d).countP (UL.an p)+(dn d).countP (Let.bk p)
theorem ac3{n p d:Nat}{up:Nat->List UL}{dn:Nat->List Let}(hd:d<n)(l:List UL):cnt n p (aG up d l) dn+(up d).countP (UL.an p)=cnt n p up dn+l.countP (UL.an p):=by
 have:=agl (n:=n) (d:=d) (f:=λd=>(up d).countP (UL.an p)+(dn d).countP (Let.bk p)) (g:=λe=>(aG up d l e).countP (UL.an p)+(dn e).countP (Let.bk p)) hd λe he=>by simp only[aW _ _ he]
 simp only[aK]at this
 unfold cnt
 lia
theorem aiO{n p d:Nat}{up:Nat->List UL}{dn:Nat->List Let}(hd:d<n)(l:List Let):cnt n p up (aG dn d l)+(dn d).countP (Let.bk p)=cnt n p up dn+l.countP (Let.bk p):=by
 have:=agl (n:=n) (d:=d) (f:=λd=>(up d).countP (UL.an p)+(dn d).countP (Let.bk p)) (g:=λe=>(up e).countP (UL.an p)+(aG dn d l e).countP (Let.bk p)) hd λe he=>by simp only[aW _ _ he]
 simp only[aK]at this
 unfold cnt
 lia
theorem agm{n p:Nat}{up:Nat->List UL}:∀(ls:List (Nat×Let)) {dn:Nat->List Let},(∀q∈ls,q.1<n)->cnt n p up (post dn ls)=cnt n p up dn+ls.countP (λq=>q.2.bk p)
 | [],dn,_=>by simp[post]
 | x::ls,dn,h=>by
   rw[tQ,agm ls λq hq=>h q (List.mem_cons_of_mem _ hq),List.countP_cons]
   have:=aiO (p:=p) (up:=up) (dn:=dn) (h x (by simp)) (dn x.1++[x.2])
   rw[List.countP_append]at this
   simp only[List.countP_cons,List.countP_nil]at this
   split at this<;>simp_all<;>lia
theorem amO{dn:Nat->List Let}{ls:List (Nat×Let)}{d:Nat}{l:Let}(h:l∈post dn ls d):l∈dn d\/(d,l)∈ls:=by
 induction ls generalizing dn with
 | nil=>exact .inl h
 | cons x ls ih =>
   rw[tQ]at h
   rcases ih h with h | h
   ·by_cases e:d=x.1
    ·subst e
     rw[aK]at h
     rcases List.mem_append.mp h with h | h
     ·exact .inl h
     ·have:l=x.2:=by simpa using h
      exact .inr (by rw[this];exact List.mem_cons_self)
    ·rw[aW _ _ e]at h;exact .inl h
   ·exact .inr (List.mem_cons_of_mem _ h)
structure jy(n m:Nat)(S:TS):Prop where
 pn:∀p,p<m->Uh n (S.pg p)
 am:∀p,p<m->((S.pg p).ask=[]↔(S.pg p).miss=0)
 up:∀d,d<n->∀l∈S.up d,l.pg<m/\∀p r,l=.ask p r->r=.rd\/r=.wr
 dn:∀d,d<n->∀l∈S.dn d,∃p:Nat,p<m/\l.pg=(p:Int)/\l.nice
 ws:∀d,d<n->∀w,(S.ds d).ws=some w->∃p:Nat,p<m/\w.pg=(p:Int)
 ct:∀p,p<m->(cnt n p S.up S.dn:Int)=(S.pg p).miss
theorem jy.take{n m d:Nat}{S:TS}{l:UL}{r:List UL}(I:jy n m S)(hd:d<n)(e:S.up d=l::r):jy n m (S.Xi d l r)/\l.pg<m/\l.good (S.pg l.pg)/\Iu n l.pg ((S.pg l.pg).take l.pg d l).2:=by
 obtain⟨hp,hr⟩:=I.up d hd l (by rw[e];simp)
 have hcu:=ac3 (p:=l.pg) (up:=S.up) (dn:=S.dn) hd r
 have h1:(S.up d).countP (UL.an l.pg)=r.countP (UL.an l.pg)+if l.an l.pg then 1 else 0:=by rw[e,List.countP_cons]
 have hct:=I.ct l.pg hp
 have hcc:((cnt n l.pg (aG S.up d r) S.dn+if l.an l.pg then 1 else 0:Nat):Int)=(S.pg l.pg).miss:=by
  rw[<-hct]
  have:cnt n l.pg (aG S.up d r) S.dn+(if l.an l.pg then 1 else 0)=cnt n l.pg S.up S.dn:=by lia
  rw[this]
 obtain⟨i1,i2,i3,i4,i5⟩:=PG.amN (I.pn l.pg hp) (I.am l.pg hp) hd hr rfl hcc
 refine⟨⟨λp h=>?_,λp h=>?_,λe' he l' hl=>?_,λe' he l' hl=>?_,I.ws,λp h=>?_⟩,hp,i5,i2⟩
 ·show Uh n (aG S.pg l.pg _ p)
  by_cases z:p=l.pg
  ·rw[z,aK];exact i1
  ·rw[aW _ _ z];exact I.pn p h
 ·show(aG S.pg l.pg _ p).ask=[]↔(aG S.pg l.pg _ p).miss=0
  by_cases z:p=l.pg
  ·rw[z,aK];exact i4
  ·rw[aW _ _ z];exact I.am p h
 ·have hl':l'∈aG S.up d r e':=hl
  by_cases z:e'=d
  ·rw[z,aK]at hl';exact I.up d hd l' (by rw[e];exact List.mem_cons_of_mem _ hl')
  ·rw[aW _ _ z]at hl';exact I.up e' he l' hl'
 ·rcases amO (show l'∈post S.dn _ e' from hl)with h | h
  ·exact I.dn e' he l' h
  ·obtain⟨_,h2,h3⟩:=i2 _ h
   exact⟨l.pg,hp,h2,h3⟩
 ·show(cnt n p (aG S.up d r) (post S.dn _):Int)=(aG S.pg l.pg _ p).miss
  rw[agm _ λq hq=>(i2 q hq).1]
  by_cases z:p=l.pg
  ·subst z
   rw[aK,<-i3,Nat.add_comm]
  ·rw[aW _ _ z,<-I.ct p h]
   have h2:=ac3 (p:=p) (up:=S.up) (dn:=S.dn) hd r
   have h3:(S.up d).countP (UL.an p)=r.countP (UL.an p):=by
    rw[e,List.countP_cons]
    have:l.an p=false:=by cases l<;>simp_all [UL.an,UL.pg];lia
    rw[this];simp
   have h4:(((S.pg l.pg).take l.pg d l).2.countP λq=>q.2.bk p)=0:=by
    rw[List.countP_eq_zero]
    intro q hq hb
    obtain⟨_,h5,_⟩:=i2 q hq
    cases hq2:q.2 with
    | lend a b c=>rw[hq2]at hb;simp[Let.bk]at hb
    | back a b =>
      rw[hq2]at hb h5
      simp only[Let.bk,decide_eq_true_eq]at hb
      have h6:a=(l.pg:Int):=h5
      lia
   rw[h4]
   have:cnt n p (aG S.up d r) S.dn=cnt n p S.up S.dn:=by lia
   rw[this];rfl
theorem jy.jY{n m d:Nat}{S:TS}{z:DS×List Ev×List UL}(I:jy n m S)(hd:d<n)(hu:∀l∈z.2.2,l.pg<m/\∀p r,l=.ask p r->r=.rd\/r=.wr)(hw:∀w,z.1.ws=some w->∃p:Nat,p<m/\w.pg=(p:Int))(ha:∀p,z.2.2.countP (UL.an p)=0):jy n m (S.jY d z):=by
 refine⟨I.pn,I.am,λe he l hl=>?_,I.dn,λe he w h=>?_,λp h=>?_⟩
 ·have hl':l∈aG S.up d (S.up d++z.2.2) e:=hl
  by_cases y:e=d
  ·rw[y,aK]at hl'
   rcases List.mem_append.mp hl' with hl' | hl'
   ·exact I.up d hd l hl'
   ·exact hu l hl'
  ·rw[aW _ _ y]at hl';exact I.up e he l hl'
 ·have h':(aG S.ds d z.1 e).ws=some w:=h
  by_cases y:e=d
  ·rw[y,aK]at h';exact hw w h'
  ·rw[aW _ _ y]at h';exact I.ws e he w h'
 ·show(cnt n p (aG S.up d (S.up d++z.2.2)) S.dn:Int)=(S.pg p).miss
  rw[<-I.ct p h]
  have:=ac3 (p:=p) (up:=S.up) (dn:=S.dn) hd (S.up d++z.2.2)
  rw[List.countP_append,ha p]at this
  have:cnt n p (aG S.up d (S.up d++z.2.2)) S.dn=cnt n p S.up S.dn:=by lia
  rw[this]
theorem DS.ac4(S:DS)(p:Int)(r:Rt)(x:Int):(S.hold p r x).ws=S.ws:=rfl
theorem DS.akb(S:DS)(w:W):(S.done w).ws=S.ws:=by cases w<;>rfl
theorem jy.lB{n m d p:Nat}{S:TS}(I:jy n m S)(hd:d<n)(hp:p<m):jy n m (S.lB d p):=by
 refine I.jY hd ?_ (λw h=>I.ws d hd w h) λq=>?_
 ·intro l hl
  have hl':l∈(if(S.ds d).rt p=.wr then [UL.gave p ((S.ds d).nm p)]else []):=hl
  split at hl'
  ·have this:=List.mem_singleton.mp hl'
   rw[this];exact⟨hp,λ_ _ z=>by cases z⟩
  ·cases hl'
 ·show(if(S.ds d).rt p=.wr then [UL.gave p ((S.ds d).nm p)]else []).countP (UL.an q)=0
  split<;>simp[UL.an]
theorem W.apa(w:W):w.need=.rd\/w.need=.wr:=by cases w<;>simp[W.need]
theorem jy.want{n m d p:Nat}{S:TS}{w:W}(I:jy n m S)(hd:d<n)(hp:p<m)(hw:w.pg=(p:Int)):jy n m (S.jY d ((S.ds d).il w p)):=by
 unfold DS.il
 split
 ·refine I.jY hd (λl hl=>by cases hl) (λw' h=>?_) λq=>rfl
  have h':((S.ds d).done w).ws=some w':=h
  rw[DS.akb]at h'
  exact I.ws d hd w' h'
 ·refine I.jY hd (λl hl=>?_) (λw' h=>?_) λq=>by simp[UL.an]
  ·have this:=List.mem_singleton.mp hl
   rw[this];exact⟨hp,λq r e=>by cases e;exact w.apa⟩
  ·have h':some w=some w':=h
   cases h'
   exact⟨p,hp,hw⟩
theorem jy.Ik{n m d:Nat}{S:TS}{l:Let}{r:List Let}(I:jy n m S)(hd:d<n)(e:S.dn d=l::r):jy n m (S.Ik d l r):=by
 obtain⟨p,hp,hlp,hn⟩:=I.dn d hd l (by rw[e];simp)
 have hdn:∀e' ,e'<n->∀l'∈aG S.dn d r e',∃p:Nat,p<m/\l'.pg=(p:Int)/\l'.nice:=λe' he l' hl=>by
  by_cases y:e'=d
  ·rw[y,aK]at hl;exact I.dn d hd l' (by rw[e];exact List.mem_cons_of_mem _ hl)
  ·rw[aW _ _ y]at hl;exact I.dn e' he l' hl
 cases l with
 | lend q x k =>
   have I1:jy n m {S with dn:=aG S.dn d r}:=⟨I.pn,I.am,I.up,hdn,I.ws,λp h=>by
    show(cnt n p S.up (aG S.dn d r):Int)=_
    rw[<-I.ct p h]
    have:=aiO (p:=p) (up:=S.up) (dn:=S.dn) hd r
    rw[e,List.countP_cons]at this
    simp[Let.bk]at this
    rw[this]⟩
   refine I1.jY hd (λl hl=>by cases hl) (λw h=>?_) λq=>rfl
   have h':((S.ds d).mR q x k).1.ws=some w:=h
   unfold DS.mR at h'
   cases hws:(S.ds d).ws with
   | none=>rw[hws]at h';rw[DS.ac4,hws]at h';cases h'
   | some w0 =>
     rw[hws]at h'
     dsimp only at h'
     split at h'
     ·rw[DS.akb]at h';cases h'
     ·rw[DS.ac4,hws]at h';cases h';exact I.ws d hd _ hws
 | back q x =>
   have hq:q=(p:Int):=hlp
   refine⟨I.pn,I.am,λe' he l' hl=>?_,hdn,λe' he w h=>?_,λp' h=>?_⟩
   ·have hl':l'∈aG S.up d (S.up d++[UL.ans q.toNat ((S.ds d).lz q)]) e':=hl
    by_cases y:e'=d
    ·rw[y,aK]at hl'
     rcases List.mem_append.mp hl' with hl' | hl'
     ·exact I.up d hd l' hl'
     ·have this:=List.mem_singleton.mp hl'
      rw[this];exact⟨by show q.toNat<m;rw[hq];exact hp,λ_ _ z=>by cases z⟩
    ·rw[aW _ _ y]at hl';exact I.up e' he l' hl'
   ·have h':(aG S.ds d ((S.ds d).down q x) e').ws=some w:=h
    by_cases y:e'=d
    ·rw[y,aK]at h'
     refine I.ws d hd w ?_
     unfold DS.down at h'
     split at h'
     ·exact h'
     ·exact h'
    ·rw[aW _ _ y]at h';exact I.ws e' he w h'
   ·show(cnt n p' (aG S.up d (S.up d++[UL.ans q.toNat ((S.ds d).lz q)])) (aG S.dn d r):Int)=(S.pg p').miss
    rw[<-I.ct p' h]
    have h1:=ac3 (p:=p') (up:=S.up) (dn:=aG S.dn d r) hd (S.up d++[UL.ans q.toNat ((S.ds d).lz q)])
    have h2:=aiO (p:=p') (up:=S.up) (dn:=S.dn) hd r
    rw[List.countP_append]at h1
    rw[e,List.countP_cons]at h2
    have h3:[UL.ans q.toNat ((S.ds d).lz q)].countP (UL.an p')=if(Let.back q x).bk p' then 1 else 0:=by
     rw[hq]
     simp only[List.countP_cons,List.countP_nil,UL.an,Let.bk,Int.toNat_natCast,Nat.zero_add]
     by_cases z:p=p'
     ·subst z;simp
     ·have:¬((p:Int)=(p':Int)):=by lia
      simp[z,this]
    have:cnt n p' (aG S.up d (S.up d++[UL.ans q.toNat ((S.ds d).lz q)])) (aG S.dn d r)=cnt n p' S.up S.dn:=by lia
    rw[this]
theorem jy.step{n m:Nat}{S:TS}(I:jy n m S)(x:cB):jy n m (S.step n m x).1:=by
 cases x with
 | up d =>
   simp only[TS.step]
   split
   ·rename_i h
    have hd:d.toNat<n:=by unfold inR at h;lia
    unfold TS.upD
    cases e:S.up d.toNat with
    | nil=>exact I
    | cons l r=>exact(I.take hd e).1
   ·exact I
 | down d =>
   simp only[TS.step]
   split
   ·rename_i h
    have hd:d.toNat<n:=by unfold inR at h;lia
    unfold TS.Xj
    cases e:S.dn d.toNat with
    | nil=>exact I
    | cons l r=>exact I.Ik hd e
   ·exact I
 | rest d p =>
   simp only[TS.step]
   split
   ·rename_i h
    split
    ·rename_i h2
     split
     ·exact I
     ·exact I.lB (by unfold inR at h;lia) (by unfold inR at h2;lia)
    ·exact I
   ·exact I
 | look d p =>
   simp only[TS.step]
   split
   ·rename_i h
    split
    ·rename_i h2
     unfold TS.wish
     split
     ·exact I
     ·exact I.want (by unfold inR at h;lia) (by unfold inR at h2;lia) (by show p=_;unfold inR at h2;lia)
    ·exact I
   ·exact I
 | put d p x =>
   simp only[TS.step]
   split
   ·rename_i h
    split
    ·rename_i h2
     unfold TS.wish
     split
     ·exact I
     ·exact I.want (by unfold inR at h;lia) (by unfold inR at h2;lia) (by show p=_;unfold inR at h2;lia)
    ·exact I
   ·exact I
theorem atm(x:V)(xs:List V):Qu (x::xs) 0=some x:=zL (j:=0) rfl
theorem UL.at1(l:UL):Qu l.vs 1=some (.int l.pg):=by cases l<;>rfl
theorem bQ{m p:Nat}{f:Nat->V}(h:p<m):Qu ((List.range m).map f) (p:Int)=some (f p):=zL (by rw[List.getElem?_map,List.getElem?_range h];rfl)
theorem arF{X:Cx}{K:PySem.W.Frag}{r:PySem.W.Frag->R2}(h:IxR X (r X.K))(e:X.K=K):IxR X (r K):=e▸h
theorem aaM{X:Cx}{K:PySem.W.Frag}(e:X.K=K):R5 X (.builtin "len") (λxs H Q=>∃p ys,xs=[.ref p]/\(bZ K H p ys\/dF K H p ys)/\Q (.int ys.length) H):=by subst e;exact dJ
theorem Iv{X:Cx}{K:PySem.W.Frag}(e:X.K=K):R5 X (.type "list") (λxs H Q=>∃p ys,xs=[.ref p]/\(bZ K H p ys\/dF K H p ys)/\∀l,H l=none->Q (.ref l) (upd H l (.lst ys))):=by subst e;exact zN
theorem apb{X:Cx}{K:PySem.W.Frag}{e:Expr}{f:Str}{pos:Pos}{ta:TE}(hK:X.K=K)(he:PE X e ta)(hb:attributeBase e f X.env (eval e X.env)=eval e X.env):PE X (.Attribute e f pos) (acV K ta f):=by subst hK;exact cM he hb
theorem apc{X:Cx}{K:PySem.W.Frag}{pos:Pos}{es:List Expr}{k:Nat}{t:TGs}{n:Nat}(hK:X.K=K)(hc:X.calm=true)(h:PGs X es t)
 (hn:(assignEach es X.env).length=n:=by rfl) (hst:(assignEach es X.env).findIdx? (·.1)=none:=by rfl):L2.PG X (.Tuple es k pos) (av4 K n t):=by subst hK;exact Qq hc h hn hst
inductive Mb where
 | bc | row | dY | cV | sent | rights | copies | ups | downs
 | rt (d:Nat) | cp (d:Nat) | up (d:Nat) | dn (d:Nat) | bU (p:Nat) | jc (p:Nat) | jL (p:Nat)
 deriving DecidableEq
def Mb.ok(n m:Nat):Mb->Prop
 | .rt d=>d<n
 | .cp d=>d<n
 | .up d=>d<n
 | .dn d=>d<n
 | .bU p=>p<m
 | .jc p=>p<m
 | .jL p=>p<m
 | _=>True
def ks(x:Str):Key:=Sum.inr x
def tkv(A:Mb->Addr):List (Key×V):=[(ks "row",.ref (A .row)),(ks "wishes",.ref (A .dY)),(ks "shelves",.ref (A .cV)),(ks "sent",.ref (A .sent)),(ks "rights",.ref (A .rights)),(ks "copies",.ref (A .copies)),(ks "ups",.ref (A .ups)),(ks "downs",.ref (A .downs))]
def wrI:Option Nat->Int
 | none => -1
 | some w=>w
def zF(g:PG)(r q:Addr):List (Key×V):=[(ks "number",.int g.num),(ks "writer",.int (wrI g.wr)),(ks "readers",.ref r),(ks "asked",.ref q),(ks "missing",.int g.miss)]
section
variable{A:Mb->Addr}{g:PG}{r q:Addr}
theorem apd:fW (tkv A) (ks "row")=some (.ref (A .row)):=by kernel_rfl
theorem pU:fW (tkv A) (ks "wishes")=some (.ref (A .dY)):=by kernel_rfl
theorem jZ:fW (tkv A) (ks "shelves")=some (.ref (A .cV)):=by kernel_rfl
theorem agn:fW (tkv A) (ks "sent")=some (.ref (A .sent)):=by kernel_rfl
theorem j0:fW (tkv A) (ks "rights")=some (.ref (A .rights)):=by kernel_rfl
theorem um:fW (tkv A) (ks "copies")=some (.ref (A .copies)):=by kernel_rfl
theorem Mm:fW (tkv A) (ks "ups")=some (.ref (A .ups)):=by kernel_rfl
theorem Ia:fW (tkv A) (ks "downs")=some (.ref (A .downs)):=by kernel_rfl
theorem aiP:fW (zF g r q) (ks "number")=some (.int g.num):=by kernel_rfl
theorem uo:fW (zF g r q) (ks "writer")=some (.int (wrI g.wr)):=by kernel_rfl
theorem vQ:fW (zF g r q) (ks "readers")=some (.ref r):=by kernel_rfl
theorem Ib:fW (zF g r q) (ks "asked")=some (.ref q):=by kernel_rfl
theorem vR:fW (zF g r q) (ks "missing")=some (.int g.miss):=by kernel_rfl
theorem Iw{n:Int}:putK (zF g r q) (ks "number") (.int n)=zF {g with num:=n} r q:=by kernel_rfl
theorem Fd:putK (zF g r q) (ks "writer") (.int (-1))=zF {g with wr:=none} r q:=by kernel_rfl
theorem Xl{w:Nat}:putK (zF g r q) (ks "writer") (.int w)=zF {g with wr:=some w} r q:=by kernel_rfl
theorem Xm{r':Addr}{l:List Nat}:putK (zF g r q) (ks "readers") (.ref r')=zF {g with rd:=l} r' q:=by kernel_rfl
theorem Fe{k:Int}:putK (zF g r q) (ks "missing") (.int k)=zF {g with miss:=k} r q:=by kernel_rfl
theorem vU:(zF g r q).length<sizeLine:=by show 5<sizeLine;decide
end
def MG(A:Mb->Addr)(H:Hp)(n m:Nat)(S:TS)(se:List (Nat×Let)):Mb->HO->Prop
 | .bc,o=>o=.dK (tkv A)
 | .row,o=>∃vs,o=.lst vs/\aH H vs (S.row.map RE.d)
 | .dY,o=>∃vs,o=.lst vs/\vs.length=n/\∀d,d<n->∃v,vs[d]? = some v/\ud H v (S.ds d).ws
 | .cV,o=>o=.lst ((List.range m).map λp=>V.ref (A (.bU p)))
 | .sent,o=>∃vs,o=.lst vs/\aH H vs (se.map pairD)
 | .rights,o=>o=.lst ((List.range n).map λd=>V.ref (A (.rt d)))
 | .copies,o=>o=.lst ((List.range n).map λd=>V.ref (A (.cp d)))
 | .ups,o=>o=.lst ((List.range n).map λd=>V.ref (A (.up d)))
 | .downs,o=>o=.lst ((List.range n).map λd=>V.ref (A (.dn d)))
 | .rt d,o=>o=.lst ((List.range m).map λp:Nat=>V.str ((S.ds d).rt p).s)
 | .cp d,o=>o=.lst ((List.range m).map λp:Nat=>V.int ((S.ds d).nm p))
 | .up d,o=>∃vs,o=.lst vs/\aH H vs ((S.up d).map UL.d)
 | .dn d,o=>∃vs,o=.lst vs/\aH H vs ((S.dn d).map Let.d)
 | .bU p,o=>o=.dK (zF (S.pg p) (A (.jc p)) (A (.jL p)))
 | .jc p,o=>o=.lst ((S.pg p).rd.map nV)
 | .jL p,o=>∃vs,o=.lst vs/\aH H vs ((S.pg p).ask.map sO)
theorem UL.flat(l:UL):l.d.flat:=by
 cases l with
 | ask p r=>simp[UL.d,D.flat,D.flats]
 | ans p o=>cases o<;>simp[UL.d,oD,D.flat,D.flats]
 | gave p n=>simp[UL.d,D.flat,D.flats]
theorem bY{α:Type}{f:α->D}(h:∀x,(f x).flat)(l:List α):D.flats (l.map f):=by
 induction l with
 | nil=>simp[D.flats]
 | cons x l ih=>simp only[List.map_cons,D.flats];exact⟨h x,ih⟩
theorem RE.flat(e:RE):e.d.flat:=by simp[RE.d,D.flat,D.flats]
theorem MG.mono{A:Mb->Addr}{H H':Hp}{n m:Nat}{S:TS}{se:List (Nat×Let)}(t:cg H H'){x:Mb}{o:HO}(h:MG A H n m S se x o):MG A H' n m S se x o:=by
 cases x with
 | row=>obtain⟨vs,e,r⟩:=h;exact⟨vs,e,r.aZ t (bY RE.flat _)⟩
 | dY=>obtain⟨vs,e,l,k⟩:=h;exact⟨vs,e,l,λd hd=>by obtain⟨v,e1,e2⟩:=k d hd;exact⟨v,e1,e2.aZ t⟩⟩
 | sent=>obtain⟨vs,e,r⟩:=h;exact⟨vs,e,r.aZ t (dg _)⟩
 | up d=>obtain⟨vs,e,r⟩:=h;exact⟨vs,e,r.aZ t (bY UL.flat _)⟩
 | dn d=>obtain⟨vs,e,r⟩:=h;exact⟨vs,e,r.aZ t (bY Let.flat _)⟩
 | jL p=>obtain⟨vs,e,r⟩:=h;exact⟨vs,e,r.aZ t (lg _)⟩
 | _=>exact h
theorem MG.arG{A:Mb->Addr}{H:Hp}{n m:Nat}{S:TS}{se:List (Nat×Let)}{x:Mb}{o:HO}(h:MG A H n m S se x o):∀xs,o≠.tup xs:=by
 intro xs z
 subst z
 cases x<;>first
  | (obtain⟨vs,e,_⟩:=h;cases e)
  | cases h
structure aY(H:Hp)(A:Mb->Addr)(n m:Nat)(S:TS)(se:List (Nat×Let)):Prop where
 inj:∀x y:Mb,x.ok n m->y.ok n m->A x=A y->x=y
 at_:∀x:Mb,x.ok n m->∃o,H (A x)=some o/\MG A H n m S se x o
structure nj(H H':Hp)(A:Mb->Addr)(n m:Nat):Prop where
 kp:∀b o,H b=some o->(∀x:Mb,x.ok n m->b≠A x)->H' b=some o
 lv:Lv H H'
theorem nj.refl(H:Hp)(A:Mb->Addr)(n m:Nat):nj H H A n m:=⟨λ_ _ h _=>h,Lv.refl _⟩
def Mv(H:Hp)(A A1:Mb->Addr)(n m:Nat):Prop:=∀x:Mb,x.ok n m->A1 x=A x\/((∃p,x=.jc p)/\H (A1 x)=none)
theorem Mv.refl(H:Hp)(A:Mb->Addr)(n m:Nat):Mv H A A n m:=λ_ _=>.inl rfl
theorem nj.trans{H H1 H2:Hp}{A A1:Mb->Addr}{n m:Nat}(x:nj H H1 A n m)(y:nj H1 H2 A1 n m)(h:Mv H A A1 n m):nj H H2 A n m:=⟨λb o hb hn=>y.kp b o (x.kp b o hb hn) λz hz=>by
 rcases h z hz with e | ⟨_,e⟩
 ·rw[e];exact hn z hz
 ·exact aF hb e,x.lv.trans y.lv⟩
theorem Mv.trans{H H1:Hp}{A A1 A2:Mb->Addr}{n m:Nat}(x:Mv H A A1 n m)(l:Lv H H1)(y:Mv H1 A1 A2 n m):Mv H A A2 n m:=λz hz=>by
 rcases y z hz with e | ⟨i,e⟩
 ·rw[e];exact x z hz
 ·exact .inr ⟨i,l _ e⟩
theorem Mv.bc{H:Hp}{A A1:Mb->Addr}{n m:Nat}(x:Mv H A A1 n m):A1 .bc=A .bc:=(x .bc trivial).elim id λz=>by obtain⟨⟨p,e⟩,_⟩:=z;cases e
section
variable{H H':Hp}{A:Mb->Addr}{n m:Nat}{S S':TS}{se se':List (Nat×Let)}
theorem aY.keep(M:aY H A n m S se)(t:cg H H')(k:∀x:Mb,x.ok n m->∀o,H (A x)=some o->H' (A x)=some o):aY H' A n m S se :=
 ⟨M.inj,λx hx=>by obtain⟨o,e,g⟩:=M.at_ x hx;exact⟨o,k x hx o e,g.mono t⟩⟩
theorem aY.same(M:aY H A n m S se)(s:bJ H H'):aY H' A n m S se:=M.keep (bh s) λx _ o e=>s _ o e
theorem aY.new{a:Addr}{o:HO}(M:aY H A n m S se)(h:H a=none):aY (upd H a o) A n m S se:=M.same (az h)
theorem nj.of_same(s:bJ H H'):nj H H' A n m:=⟨λb o e _=>s b o e,Lv.same s⟩
theorem nj.tups(M:aY H A n m S se)(f:nj H H' A n m):cg H H':=λb xs e=>f.kp b _ e λx hx z=>by
 obtain⟨o,e1,g⟩:=M.at_ x hx
 rw[<-z,e]at e1
 exact g.arG xs (Option.some.inj e1).symm
theorem aY.tup_ne(M:aY H A n m S se){x:Mb}(hx:x.ok n m){b:Addr}{xs:List V}(e:H b=some (.tup xs)):b≠A x:=λz=>by
 obtain⟨o,e1,g⟩:=M.at_ x hx
 rw[<-z,e]at e1
 exact g.arG xs (Option.some.inj e1).symm
theorem aY.set(M:aY H A n m S se){x:Mb}(hx:x.ok n m){o':HO}(hg:cg H (upd H (A x) o')->MG A (upd H (A x) o') n m S' se' x o')
 (ho:∀y:Mb,y.ok n m->y≠x->∀o,MG A H n m S se y o->MG A H n m S' se' y o):aY (upd H (A x) o') A n m S' se'/\nj H (upd H (A x) o') A n m:=by
 have t:cg H (upd H (A x) o'):=λb xs e=>by rw[aq (M.tup_ne hx e)];exact e
 refine⟨⟨M.inj,λy hy=>?_⟩,⟨λb o e hn=>by rw[aq (hn x hx)];exact e,Lv.upd⟩⟩
 by_cases e:y=x
 ·subst e;exact⟨o',aj,hg t⟩
 ·obtain⟨o,e1,g⟩:=M.at_ y hy
  refine⟨o,?_,(ho y hy e o g).mono t⟩
  rw[aq λz=>e (M.inj y x hy hx z)]
  exact e1
theorem aY.zT{x:Mb}(M:aY H A n m S se)(hx:x.ok n m){b:Addr}(h:H b=none):A x≠b:=λz=>by
 obtain⟨o,e1,_⟩:=M.at_ x hx
 rw[z,h]at e1;cases e1
theorem aY.bc(M:aY H A n m S se):H (A .bc)=some (.dK (tkv A)):=by obtain⟨o,e,g⟩:=M.at_ .bc trivial;rw[e,show o=_ from g]
theorem aY.cV(M:aY H A n m S se):H (A .cV)=some (.lst ((List.range m).map λp=>V.ref (A (.bU p)))):=by obtain⟨o,e,g⟩:=M.at_ .cV trivial;rw[e,show o=_ from g]
theorem aY.rights(M:aY H A n m S se):H (A .rights)=some (.lst ((List.range n).map λp=>V.ref (A (.rt p)))):=by obtain⟨o,e,g⟩:=M.at_ .rights trivial;rw[e,show o=_ from g]
theorem aY.copies(M:aY H A n m S se):H (A .copies)=some (.lst ((List.range n).map λp=>V.ref (A (.cp p)))):=by obtain⟨o,e,g⟩:=M.at_ .copies trivial;rw[e,show o=_ from g]
theorem aY.ups(M:aY H A n m S se):H (A .ups)=some (.lst ((List.range n).map λp=>V.ref (A (.up p)))):=by obtain⟨o,e,g⟩:=M.at_ .ups trivial;rw[e,show o=_ from g]
theorem aY.downs(M:aY H A n m S se):H (A .downs)=some (.lst ((List.range n).map λp=>V.ref (A (.dn p)))):=by obtain⟨o,e,g⟩:=M.at_ .downs trivial;rw[e,show o=_ from g]
theorem aY.rt(M:aY H A n m S se){d:Nat}(h:d<n):H (A (.rt d))=some (.lst ((List.range m).map λp:Nat=>V.str ((S.ds d).rt p).s)):=by obtain⟨o,e,g⟩:=M.at_ (.rt d) h;rw[e,show o=_ from g]
theorem aY.cp(M:aY H A n m S se){d:Nat}(h:d<n):H (A (.cp d))=some (.lst ((List.range m).map λp:Nat=>V.int ((S.ds d).nm p))):=by obtain⟨o,e,g⟩:=M.at_ (.cp d) h;rw[e,show o=_ from g]
theorem aY.bU(M:aY H A n m S se){p:Nat}(h:p<m):H (A (.bU p))=some (.dK (zF (S.pg p) (A (.jc p)) (A (.jL p)))):=by obtain⟨o,e,g⟩:=M.at_ (.bU p) h;rw[e,show o=_ from g]
theorem aY.jc(M:aY H A n m S se){p:Nat}(h:p<m):H (A (.jc p))=some (.lst ((S.pg p).rd.map nV)):=by obtain⟨o,e,g⟩:=M.at_ (.jc p) h;rw[e,show o=_ from g]
theorem aY.jL(M:aY H A n m S se){p:Nat}(h:p<m):∃vs,H (A (.jL p))=some (.lst vs)/\aH H vs ((S.pg p).ask.map sO):=by obtain⟨o,e,vs,g,r⟩:=M.at_ (.jL p) h;exact⟨vs,by rw[e,g],r⟩
theorem aY.up(M:aY H A n m S se){d:Nat}(h:d<n):∃vs,H (A (.up d))=some (.lst vs)/\aH H vs ((S.up d).map UL.d):=by obtain⟨o,e,vs,g,r⟩:=M.at_ (.up d) h;exact⟨vs,by rw[e,g],r⟩
theorem aY.dn(M:aY H A n m S se){d:Nat}(h:d<n):∃vs,H (A (.dn d))=some (.lst vs)/\aH H vs ((S.dn d).map Let.d):=by obtain⟨o,e,vs,g,r⟩:=M.at_ (.dn d) h;exact⟨vs,by rw[e,g],r⟩
theorem aY.row(M:aY H A n m S se):∃vs,H (A .row)=some (.lst vs)/\aH H vs (S.row.map RE.d):=by obtain⟨o,e,vs,g,r⟩:=M.at_ .row trivial;exact⟨vs,by rw[e,g],r⟩
theorem aY.sent(M:aY H A n m S se):∃vs,H (A .sent)=some (.lst vs)/\aH H vs (se.map pairD):=by obtain⟨o,e,vs,g,r⟩:=M.at_ .sent trivial;exact⟨vs,by rw[e,g],r⟩
theorem aY.dY(M:aY H A n m S se):∃vs,H (A .dY)=some (.lst vs)/\vs.length=n/\∀d,d<n->∃v,vs[d]? = some v/\ud H v (S.ds d).ws:=by obtain⟨o,e,vs,g,r⟩:=M.at_ .dY trivial;exact⟨vs,by rw[e,g],r⟩
theorem aY.amP(M:aY H A n m S se){vs:List V}(r:aH H vs (se'.map pairD)):aY (upd H (A .sent) (.lst vs)) A n m S se'/\nj H (upd H (A .sent) (.lst vs)) A n m :=
 M.set (x:=.sent) trivial (λt=>⟨vs,rfl,r.aZ t (dg _)⟩) λy _ hn o h=>by cases y<;>first | exact h | exact absurd rfl hn
theorem aY.amQ(M:aY H A n m S se){vs:List V}{l:List RE}(r:aH H vs (l.map RE.d)):aY (upd H (A .row) (.lst vs)) A n m {S with row:=l} se/\nj H (upd H (A .row) (.lst vs)) A n m :=
 M.set (x:=.row) trivial (λt=>⟨vs,rfl,r.aZ t (bY RE.flat _)⟩) λy _ hn o h=>by cases y<;>first | exact h | exact absurd rfl hn
theorem aY.ago(M:aY H A n m S se){d:Nat}(hd:d<n){vs:List V}{l:List UL}(r:aH H vs (l.map UL.d)):aY (upd H (A (.up d)) (.lst vs)) A n m {S with up:=aG S.up d l} se/\nj H (upd H (A (.up d)) (.lst vs)) A n m :=
 M.set (x:=.up d) hd (λt=>⟨vs,rfl,by dsimp only;rw[aK];exact r.aZ t (bY UL.flat _)⟩) λy _ hn o h=>by
  cases y with
  | up e =>
    have hne:e≠d:=λz=>hn (by rw[z])
    show ∃vs,o=.lst vs/\aH H vs ((aG S.up d l e).map UL.d)
    rw[aW _ _ hne]
    exact h
  | _=>exact h
theorem aY.ala(M:aY H A n m S se){d:Nat}(hd:d<n){vs:List V}{l:List Let}(r:aH H vs (l.map Let.d)):aY (upd H (A (.dn d)) (.lst vs)) A n m {S with dn:=aG S.dn d l} se/\nj H (upd H (A (.dn d)) (.lst vs)) A n m :=
 M.set (x:=.dn d) hd (λt=>⟨vs,rfl,by dsimp only;rw[aK];exact r.aZ t (bY Let.flat _)⟩) λy _ hn o h=>by
  cases y with
  | dn e =>
    have hne:e≠d:=λz=>hn (by rw[z])
    show ∃vs,o=.lst vs/\aH H vs ((aG S.dn d l e).map Let.d)
    rw[aW _ _ hne]
    exact h
  | _=>exact h
theorem aY.atn(M:aY H A n m S se){d:Nat}(hd:d<n){D':DS}(e1:D'.nm=(S.ds d).nm)(e2:D'.ws=(S.ds d).ws):aY (upd H (A (.rt d)) (.lst ((List.range m).map λp:Nat=>V.str (D'.rt p).s))) A n m {S with ds:=aG S.ds d D'} se/\nj H (upd H (A (.rt d)) (.lst ((List.range m).map λp:Nat=>V.str (D'.rt p).s))) A n m :=
 M.set (x:=.rt d) hd (λt=>by dsimp only[MG];rw[aK]) λy hy hn o h=>by
  cases y with
  | rt e =>
    have hne:e≠d:=λz=>hn (by rw[z])
    show o=.lst ((List.range m).map λp:Nat=>V.str ((aG S.ds d D' e).rt p).s)
    rw[aW _ _ hne]
    exact h
  | cp e =>
    show o=.lst ((List.range m).map λp:Nat=>V.int ((aG S.ds d D' e).nm p))
    by_cases z:e=d
    ·rw[z,aK,e1,<-z];exact h
    ·rw[aW _ _ z];exact h
  | dY =>
    obtain⟨vs,g,l,k⟩:=h
    refine⟨vs,g,l,λe he=>?_⟩
    obtain⟨v,k1,k2⟩:=k e he
    refine⟨v,k1,?_⟩
    show ud H v (aG S.ds d D' e).ws
    by_cases z:e=d
    ·rw[z,aK,e2,<-z];exact k2
    ·rw[aW _ _ z];exact k2
  | _=>exact h
theorem aY.awD(M:aY H A n m S se){d:Nat}(hd:d<n){D':DS}(e1:D'.rt=(S.ds d).rt)(e2:D'.ws=(S.ds d).ws):aY (upd H (A (.cp d)) (.lst ((List.range m).map λp:Nat=>V.int (D'.nm p)))) A n m {S with ds:=aG S.ds d D'} se/\nj H (upd H (A (.cp d)) (.lst ((List.range m).map λp:Nat=>V.int (D'.nm p)))) A n m :=
 M.set (x:=.cp d) hd (λt=>by dsimp only[MG];rw[aK]) λy hy hn o h=>by
  cases y with
  | cp e =>
    have hne:e≠d:=λz=>hn (by rw[z])
    show o=.lst ((List.range m).map λp:Nat=>V.int ((aG S.ds d D' e).nm p))
    rw[aW _ _ hne]
    exact h
  | rt e =>
    show o=.lst ((List.range m).map λp:Nat=>V.str ((aG S.ds d D' e).rt p).s)
    by_cases z:e=d
    ·rw[z,aK,e1,<-z];exact h
    ·rw[aW _ _ z];exact h
  | dY =>
    obtain⟨vs,g,l,k⟩:=h
    refine⟨vs,g,l,λe he=>?_⟩
    obtain⟨v,k1,k2⟩:=k e he
    refine⟨v,k1,?_⟩
    show ud H v (aG S.ds d D' e).ws
    by_cases z:e=d
    ·rw[z,aK,e2,<-z];exact k2
    ·rw[aW _ _ z];exact k2
  | _=>exact h
theorem aY.amR(M:aY H A n m S se){d:Nat}(hd:d<n){vs:List V}{v:V}{o:Option W}(hv:H (A .dY)=some (.lst vs))(hw:ud H v o) :
 aY (upd H (A .dY) (.lst (vs.set d v))) A n m {S with ds:=aG S.ds d {S.ds d with ws:=o}} se/\nj H (upd H (A .dY) (.lst (vs.set d v))) A n m:=by
 obtain⟨us,h1,h2,h3⟩:=M.dY
 rw[hv]at h1
 cases h1
 refine M.set (x:=.dY) trivial (λt=>⟨_,rfl,by rw[List.length_set];exact h2,λe he=>?_⟩) λy hy hn o' h=>?_
 ·show ∃v',(vs.set d v)[e]? = some v'/\ud _ v' (aG S.ds d {S.ds d with ws:=o} e).ws
  by_cases z:e=d
  ·subst z
   exact⟨v,by rw[List.getElem?_set_self (by lia)],by rw[aK];exact hw.aZ t⟩
  ·obtain⟨v',k1,k2⟩:=h3 e he
   exact⟨v',by rw[List.getElem?_set_ne (Ne.symm z)];exact k1,by rw[aW _ _ z];exact k2.aZ t⟩
 ·cases y with
  | dY=>exact absurd rfl hn
  | rt e =>
    show o'=.lst ((List.range m).map λp:Nat=>V.str ((aG S.ds d {S.ds d with ws:=o} e).rt p).s)
    by_cases z:e=d
    ·rw[z,aK,<-z];exact h
    ·rw[aW _ _ z];exact h
  | cp e =>
    show o'=.lst ((List.range m).map λp:Nat=>V.int ((aG S.ds d {S.ds d with ws:=o} e).nm p))
    by_cases z:e=d
    ·rw[z,aK,<-z];exact h
    ·rw[aW _ _ z];exact h
  | _=>exact h
theorem aY.zU(M:aY H A n m S se){p:Nat}(hp:p<m){g:PG}(e1:g.rd=(S.pg p).rd)(e2:g.ask=(S.pg p).ask):aY (upd H (A (.bU p)) (.dK (zF g (A (.jc p)) (A (.jL p))))) A n m {S with pg:=aG S.pg p g} se/\nj H (upd H (A (.bU p)) (.dK (zF g (A (.jc p)) (A (.jL p))))) A n m :=
 M.set (x:=.bU p) hp (λt=>by dsimp only[MG];rw[aK]) λy hy hn o h=>by
  cases y with
  | bU e =>
    have hne:e≠p:=λz=>hn (by rw[z])
    show o=.dK (zF (aG S.pg p g e) _ _)
    rw[aW _ _ hne];exact h
  | jc e =>
    show o=.lst ((aG S.pg p g e).rd.map nV)
    by_cases z:e=p
    ·rw[z,aK,e1,<-z];exact h
    ·rw[aW _ _ z];exact h
  | jL e =>
    show ∃vs,o=.lst vs/\aH H vs ((aG S.pg p g e).ask.map sO)
    by_cases z:e=p
    ·rw[z,aK,e2,<-z];exact h
    ·rw[aW _ _ z];exact h
  | _=>exact h
theorem aY.arH(M:aY H A n m S se){p:Nat}(hp:p<m){l:List Nat}:aY (upd H (A (.jc p)) (.lst (l.map nV))) A n m {S with pg:=aG S.pg p {S.pg p with rd:=l}} se/\nj H (upd H (A (.jc p)) (.lst (l.map nV))) A n m :=
 M.set (x:=.jc p) hp (λt=>by dsimp only[MG];rw[aK]) λy hy hn o h=>by
  cases y with
  | jc e =>
    have hne:e≠p:=λz=>hn (by rw[z])
    show o=.lst ((aG S.pg p _ e).rd.map nV)
    rw[aW _ _ hne];exact h
  | bU e =>
    show o=.dK (zF (aG S.pg p _ e) _ _)
    by_cases z:e=p
    ·rw[z,aK,<-z];exact h
    ·rw[aW _ _ z];exact h
  | jL e =>
    show ∃vs,o=.lst vs/\aH H vs ((aG S.pg p _ e).ask.map sO)
    by_cases z:e=p
    ·rw[z,aK,<-z];exact h
    ·rw[aW _ _ z];exact h
  | _=>exact h
theorem aY.arI(M:aY H A n m S se){p:Nat}(hp:p<m){vs:List V}{l:List (Nat×Rt)}(r:aH H vs (l.map sO)):aY (upd H (A (.jL p)) (.lst vs)) A n m {S with pg:=aG S.pg p {S.pg p with ask:=l}} se/\nj H (upd H (A (.jL p)) (.lst vs)) A n m :=
 M.set (x:=.jL p) hp (λt=>⟨vs,rfl,by dsimp only;rw[aK];exact r.aZ t (lg _)⟩) λy hy hn o h=>by
  cases y with
  | jL e =>
    have hne:e≠p:=λz=>hn (by rw[z])
    show ∃vs,o=.lst vs/\aH H vs ((aG S.pg p _ e).ask.map sO)
    rw[aW _ _ hne];exact h
  | bU e =>
    show o=.dK (zF (aG S.pg p _ e) _ _)
    by_cases z:e=p
    ·rw[z,aK,<-z];exact h
    ·rw[aW _ _ z];exact h
  | jc e =>
    show o=.lst ((aG S.pg p _ e).rd.map nV)
    by_cases z:e=p
    ·rw[z,aK,<-z];exact h
    ·rw[aW _ _ z];exact h
  | _=>exact h
theorem aY.move(M:aY H A n m S se){x y:Mb}(hx:x.ok n m)(hy:y.ok n m)(hxy:x≠y){a:Addr}{o o':HO}(ha:H a=none)
 (gx:MG (jO A x a) H n m S' se' x o) (gy:MG (jO A x a) H n m S' se' y o')
 (ho:∀z:Mb,z.ok n m->z≠x->z≠y->∀o,MG A H n m S se z o->MG (jO A x a) H n m S' se' z o) :
 aY (upd (upd H a o) (A y) o') (jO A x a) n m S' se'/\nj H (upd (upd H a o) (A y) o') A n m/\∀z:Mb,z.ok n m->jO A x a z=A z\/(z=x/\H (jO A x a z)=none):=by
 have na:∀z:Mb,z.ok n m->A z≠a:=λz hz=>M.zT hz ha
 have t1:cg H (upd H a o):=bh (az ha)
 have t2:cg H (upd (upd H a o) (A y) o'):=λb xs e=>by rw[aq (M.tup_ne hy e)];exact t1 b xs e
 refine⟨⟨WM M.inj na λz hz=>.inr hz,λz hz=>?_⟩,⟨λb u e hn=>?_,Lv.upd.trans Lv.upd⟩,λz hz=>?_⟩
 ·by_cases e1:z=x
  ·subst e1
   refine⟨o,?_,gx.mono t2⟩
   rw[cY,aq (na y hy).symm,aj]
  ·rw[bK _ _ e1]
   by_cases e2:z=y
   ·subst e2
    exact⟨o',aj,gy.mono t2⟩
   ·obtain⟨u,h1,h2⟩:=M.at_ z hz
    refine⟨u,?_,(ho z hz e1 e2 u h2).mono t2⟩
    rw[aq λq=>e2 (M.inj z y hz hy q),aq (na z hz)]
    exact h1
 ·rw[aq (hn y hy),aq (aF e ha)];exact e
 ·by_cases e1:z=x
  ·rw[e1,cY];exact .inr ⟨rfl,ha⟩
  ·rw[bK _ _ e1];exact .inl rfl
theorem aY.ato(M:aY H A n m S se){p:Nat}(hp:p<m){a:Addr}(ha:H a=none){l:List Nat} :
 aY (upd (upd H a (.lst (l.map nV))) (A (.bU p)) (.dK (zF {S.pg p with rd:=l} a (A (.jL p))))) (jO A (.jc p) a) n m {S with pg:=aG S.pg p {S.pg p with rd:=l}} se/\
 nj H (upd (upd H a (.lst (l.map nV))) (A (.bU p)) (.dK (zF {S.pg p with rd:=l} a (A (.jL p))))) A n m/\Mv H A (jO A (.jc p) a) n m:=by
 have q:=M.move (S':={S with pg:=aG S.pg p {S.pg p with rd:=l}}) (se':=se) (x:=.jc p) (y:=.bU p) hp hp (by intro z;cases z) ha (o:=.lst (l.map nV)) (o':=.dK (zF {S.pg p with rd:=l} a (A (.jL p)))) ?_ ?_ λz hz n1 n2 o h=>?_
 ·exact⟨q.1,q.2.1,λz hz=>(q.2.2 z hz).imp id λe=>⟨⟨p,e.1⟩,e.2⟩⟩
 ·dsimp only[MG];rw[aK]
 ·dsimp only[MG];rw[aK,cY,bK _ _ (by intro z;cases z)]
 ·cases z with
  | jc e =>
    have hne:e≠p:=λz=>n1 (by rw[z])
    show o=.lst ((aG S.pg p _ e).rd.map nV)
    rw[aW _ _ hne];exact h
  | bU e =>
    have hne:e≠p:=λz=>n2 (by rw[z])
    show o=.dK (zF (aG S.pg p _ e) _ _)
    rw[aW _ _ hne,bK _ _ (by intro z;cases z;exact hne rfl),bK _ _ (by intro z;cases z)];exact h
  | jL e =>
    show ∃vs,o=.lst vs/\aH H vs ((aG S.pg p _ e).ask.map sO)
    by_cases z:e=p
    ·rw[z,aK,<-z];exact h
    ·rw[aW _ _ z];exact h
  | _=>exact h
end
theorem aci:∀(k:Nat) (g:PG) (p:Nat),(pR k g p).1.mu<=g.mu
 | 0,g,p=>Nat.le_refl _
 | k+1,g,p=>by
   rw[pR]
   split
   ·exact Nat.le_trans (aci k g.lent p) g.sS
   ·exact Nat.le_refl _
theorem PG.agp(g:PG)(p:Nat):(g.serve p).1.mu<=g.mu:=aci _ g p
theorem aiQ(g:PG)(p d:Nat)(x:Rt):(ph g p d x).length<=1:=by
 unfold ph
 split
 ·split<;>simp
 ·simp
theorem alb(g:PG)(p:Nat):(g.cO p).length<=g.rd.length+1:=by
 unfold PG.cO
 split
 ·simp
 ·rename_i a r l _
  rw[List.length_append]
  have h1:=aiQ g p a r
  have h2:(pq g p a r).length<=g.rd.length:=by
   unfold pq
   split
   ·rw[List.length_map];exact List.length_filter_le _ _
   ·simp
  lia
theorem Xn:∀(k:Nat) (g:PG) (p:Nat),(pR k g p).2.length<=k+g.mu+1
 | 0,g,p=>by simp[pR]
 | k+1,g,p=>by
   rw[pR]
   split
   ·have:=Xn k g.lent p
    have h2:=g.sS
    have h3:(g.dW p).length<=1:=by unfold PG.dW;split<;>simp
    simp only[List.length_append]
    lia
   ·have:=alb g p
    simp only
    unfold PG.mu
    lia
theorem Xo(g:PG)(p:Nat):(g.serve p).2.length<=2*g.mu+1:=by
 have:=Xn g.ask.length g p
 unfold PG.serve
 have h2:g.ask.length<=g.mu:=by unfold PG.mu;lia
 lia
theorem PG.akd(g:PG)(p d:Nat)(l:UL):(g.take p d l).1.mu<=g.mu+2/\(g.take p d l).2.length<=2*g.mu+6:=by
 cases l with
 | ask q r =>
   simp only[PG.take]
   split
   ·rename_i e
    have e1:({g with ask:=[(d,r)]}:PG).mu=g.mu+2:=by unfold PG.mu;rw[e];simp
    have h1:=PG.agp {g with ask:=[(d,r)]} p
    have h2:=Xo {g with ask:=[(d,r)]} p
    lia
   ·refine⟨?_,by simp⟩
    unfold PG.mu;simp;lia
 | ans q o =>
   simp only[PG.take]
   split
   ·generalize hg:({g with num:=o.getD g.num,miss:=g.miss - 1}:PG)=g2
    have e1:g2.mu=g.mu:=by rw[<-hg];rfl
    have h1:=PG.agp g2.lent p
    have h2:=Xo g2.lent p
    have h3:=g2.sS
    have h4:(g2.dW p).length<=1:=by unfold PG.dW;split<;>simp
    simp only[List.length_append]
    lia
   ·refine⟨?_,by simp⟩
    show g.mu<=_;lia
 | gave q x =>
   simp only[PG.take]
   refine⟨?_,by simp⟩
   show g.mu<=_;lia
def Bt(t:Nat):Nat:=4*(t*t)+20*t
theorem ake(t:Nat):Bt (t+1)=Bt t+8*t+24:=by
 by_cases h:True
 ·unfold Bt
  have e:(t+1)*(t+1)=t*t+2*t+1:=by rw[Nat.add_mul,Nat.mul_add];lia
  rw[e];lia
 ·exact absurd trivial h
theorem arJ{t:Nat}(h:t<=1500):Bt t<=9030000:=by
 unfold Bt
 have:t*t<=1500*1500:=Nat.mul_le_mul h h
 lia
structure Bd(t:Nat)(S:TS)(se:List (Nat×Let)):Prop where
 mu:∀p,(S.pg p).mu<=2*t
 up:∀d,(S.up d).length<=t
 row:S.row.length<=t
 dn:∀d,(S.dn d).length<=Bt t
 se:se.length<=Bt t
theorem Bd.more{t t':Nat}{S:TS}{se:List (Nat×Let)}(b:Bd t S se)(h:t<=t'):Bd t' S se:=by
 have hm:Bt t<=Bt t':=by unfold Bt;have:=Nat.mul_le_mul h h;lia
 exact⟨λp=>Nat.le_trans (b.mu p) (by lia),λd=>Nat.le_trans (b.up d) h,Nat.le_trans b.row h,λd=>Nat.le_trans (b.dn d) hm,Nat.le_trans b.se hm⟩
def TS.lK(S:TS)(n:Nat):cB->List (Nat×Let)
 | .up d=>if inR d n then(match S.up d.toNat with | []=>[] | l::_=>((S.pg l.pg).take l.pg d.toNat l).2)else []
 | _=>[]
theorem Bd.jY{t d:Nat}{S:TS}{se:List (Nat×Let)}{z:DS×List Ev×List UL}(b:Bd t S se)(h1:z.2.1.length<=1)(h2:z.2.2.length<=1):Bd (t+1) (S.jY d z) se:=by
 have b':=b.more (Nat.le_succ t)
 refine⟨b'.mu,λe=>?_,?_,b'.dn,b'.se⟩
 ·show(aG S.up d (S.up d++z.2.2) e).length<=_
  by_cases y:e=d
  ·rw[y,aK,List.length_append];have:=b.up d;lia
  ·rw[aW _ _ y];exact b'.up e
 ·show(c7 S.row d z.2.1).length<=_
  unfold c7
  rw[List.length_append,List.length_map]
  have:=b.row;lia
theorem DS.mU(S:DS)(w:W)(p:Nat):(S.il w p).2.1.length<=1/\(S.il w p).2.2.length<=1:=by unfold DS.il;split<;>simp
theorem DS.alc(S:DS)(p:Int)(r:Rt)(x:Int):(S.mR p r x).2.length<=1:=by
 unfold DS.mR
 split
 ·simp
 ·split<;>simp
theorem DS.Ie(S:DS)(l:Let):(S.ug l).2.1.length<=1/\(S.ug l).2.2.length<=1:=by
 cases l with
 | lend p r x=>exact⟨S.alc p r x,by simp[DS.ug]⟩
 | back p r=>simp[DS.ug]
theorem Bd.step{t n m:Nat}{S:TS}{se:List (Nat×Let)}(b:Bd t S se)(x:cB):Bd (t+1) (S.step n m x).1 (se++S.lK n x):=by
 have b':=b.more (Nat.le_succ t)
 have bn:∀{T:TS},Bd (t+1) T se->Bd (t+1) T (se++[]):=λ{T} h=>by rw[List.append_nil];exact h
 cases x with
 | up d =>
   simp only[TS.step,TS.lK]
   split
   ·unfold TS.upD
    cases e:S.up d.toNat with
    | nil=>exact bn b'
    | cons l r =>
      obtain⟨h1,h2⟩:=(S.pg l.pg).akd l.pg d.toNat l
      have hm:=b.mu l.pg
      refine⟨λp=>?_,λe'=>?_,b'.row,λe'=>?_,?_⟩
      ·show(aG S.pg l.pg _ p).mu<=_
       by_cases y:p=l.pg
       ·rw[y,aK];lia
       ·rw[aW _ _ y];exact b'.mu p
      ·show(aG S.up d.toNat r e').length<=_
       by_cases y:e'=d.toNat
       ·rw[y,aK];have:=b.up d.toNat;rw[e]at this;simp at this;lia
       ·rw[aW _ _ y];exact b'.up e'
      ·show(post S.dn _ e').length<=_
       have h3:=Ml S.dn ((S.pg l.pg).take l.pg d.toNat l).2 e'
       have h4:=b.dn e'
       rw[ake];lia
      ·show(se++((S.pg l.pg).take l.pg d.toNat l).2).length<=_
       rw[List.length_append]
       have h4:=b.se
       rw[ake];lia
   ·exact bn b'
 | down d =>
   simp only[TS.step,TS.lK]
   split
   ·unfold TS.Xj
    cases e:S.dn d.toNat with
    | nil=>exact bn b'
    | cons l r =>
      have b1:Bd t {S with dn:=aG S.dn d.toNat r} se:=⟨b.mu,b.up,b.row,λe'=>by
       show(aG S.dn d.toNat r e').length<=_
       by_cases y:e'=d.toNat
       ·rw[y,aK];have:=b.dn d.toNat;rw[e]at this;simp at this;lia
       ·rw[aW _ _ y];exact b.dn e',b.se⟩
      exact bn (b1.jY (DS.Ie _ _).1 (DS.Ie _ _).2)
   ·exact bn b'
 | rest d p =>
   simp only[TS.step,TS.lK]
   refine bn ?_
   split
   ·split
    ·split
     ·exact b'
     ·exact b.jY (by simp) (by dsimp only;split<;>simp)
    ·exact b'
   ·exact b'
 | look d p =>
   simp only[TS.step,TS.lK]
   refine bn ?_
   split
   ·split
    ·unfold TS.wish
     split
     ·exact b'
     ·exact b.jY (DS.mU _ _ _).1 (DS.mU _ _ _).2
    ·exact b'
   ·exact b'
 | put d p y =>
   simp only[TS.step,TS.lK]
   refine bn ?_
   split
   ·split
    ·unfold TS.wish
     split
     ·exact b'
     ·exact b.jY (DS.mU _ _ _).1 (DS.mU _ _ _).2
    ·exact b'
   ·exact b'
end gB
namespace L2
open PySem
variable{X:Cx}
end L2
namespace gB
open PySem L2
theorem Mp{us:List Value}(h:us.length=1):∃a0,us=[a0]:=by
 match us,h with
 | [_],_=>exact⟨_,rfl⟩
theorem jw{us:List Value}(h:us.length=2):∃a0 a1,us=[a0,a1]:=by
 match us,h with
 | [_,_],_=>exact⟨_,_,rfl⟩
theorem Qz{us:List Value}(h:us.length=3):∃a0 a1 a2,us=[a0,a1,a2]:=by
 match us,h with
 | [_,_,_],_=>exact⟨_,_,_,rfl⟩
theorem atp{us:List Value}(h:us.length=4):∃a0 a1 a2 a3,us=[a0,a1,a2,a3]:=by
 match us,h with
 | [_,_,_,_],_=>exact⟨_,_,_,_,rfl⟩
section
variable{K:PySem.W.Frag}{i j:Nat}{x y v:V}{σ:St}{H:Hp}{Q:VK}{a b:Addr}{xs:List V}{k:Int}
theorem zt(h:σ[i]? = some (some (.ref b)))(hb:dF K H b xs)(hv:Qu xs k=some v)(q:Q v H):W0 (aiv K) (jm i) (tC (.int k)) σ H Q:=⟨_,h,b,xs,k,v,rfl,rfl,hb,hv,q⟩
theorem zd(h:σ[i]? = some (some (.ref a)))(hd:Ij H a y (some v))(q:Q v H):Xa (jm i) (tC y) σ H Q:=⟨_,h,a,v,rfl,hd,q⟩
theorem Ui(h:σ[i]? = some (some (.ref a)))(hd:Ij H a y (some (.ref b)))(hj:σ[j]? = some (some (.int k)))(hl:bZ K H b xs)(hv:Qu xs k=some v)(q:Q v H):W0 (aiu K) (Xa (jm i) (tC y)) (jm j) σ H Q:=⟨_,h,a,_,rfl,hd,_,hj,b,xs,k,v,rfl,rfl,hl,hv,q⟩
theorem zl(hj:σ[j]? = some (some (.int k)))(hl:bZ K H b xs)(hv:Qu xs k=some v)(q:Q v H):jm j σ H (λy H2=>aiu K (.ref b) y H2 Q):=⟨_,hj,b,xs,k,v,rfl,rfl,hl,hv,q⟩
end
def ape(C X:Addr):Sp:=λvs H Q E=>∃p d S c a w,vs=[.ref p,.ref a]/\cz C H p d S c/\c<=900000/\H a=some (.tup (W.vs w))/\
 match S.ws with
 | none=>∀v H',cz C H' p d (S.want w).1 (c+2)->DF H H' p d->Rep (nw H H') v (S.want w).2->Q v H'
 | some _=>E (.ref X) none H
def apf(C X:Addr):Sp:=λvs H Q E=>∃p d S c n,vs=[.ref p,.int n]/\cz C H p d S c/\c<=900000/\
 if S.rt n=.no then E (.ref X) none H else ∀v H',cz C H' p d (S.rest n).1 (c+2)->DF H H' p d->Rep (nw H H') v (S.rest n).2->Q v H'
theorem cz.congr{C:Addr}{H:Hp}{p d:Addr}{S S':DS}{c:Nat}(D:cz C H p d S c)(e1:∀n,S'.rt n=S.rt n)(e2:∀n,S.rt n≠.no->S'.nm n=S.nm n)(e3:S'.ws=S.ws):cz C H p d S' c:=by
 obtain⟨⟨dx,v,h1,h2⟩,⟨kvs,h3,h4,h5⟩⟩:=D
 refine⟨⟨dx,v,h1,by rw[e3];exact h2⟩,⟨kvs,h3,h4,λn=>?_⟩⟩
 have:=h5 n
 unfold ue at this ⊢
 rw[e1]
 split
 ·rename_i e;rw[if_pos e]at this;exact this
 ·rename_i e;rw[if_neg e]at this;rw[e2 n e];exact this
theorem Kept.lv{H H':Hp}(h:Kept H H'):Lv H H':=λ_ e=>h.free e
inductive Tb where
 | bc | lL | ups | downs | row | up (d:Nat) | dn (d:Nat) | dk (d:Nat) | cp (d:Nat) | h (x:Hb)
 deriving DecidableEq
def Tb.ok(n m:Nat):Tb->Prop
 | .up d=>d<n
 | .dn d=>d<n
 | .dk d=>d<n
 | .cp d=>d<n
 | .h x=>x.ok m
 | _=>True
def QB(m:Nat)(h d u o r:Addr):List (Str×V):=[("page_count",.int m),("hall",.ref h),("desks",.ref d),("roads_up",.ref u),("roads_down",.ref o),("row",.ref r)]
section
variable{m:Nat}{h d u o r:Addr}
theorem amS:gk "row" (.ref r) (gk "roads_down" (.ref o) (gk "roads_up" (.ref u) (gk "desks" (.ref d) (gk "hall" (.ref h) (gk "page_count" (.int m) [])))))=QB m h d u o r:=by kernel_rfl
theorem acj:(QB m h d u o r).lookup ("page_count":Str)=some (.int m):=by kernel_rfl
theorem amT:(QB m h d u o r).lookup ("hall":Str)=some (.ref h):=by kernel_rfl
theorem tU:(QB m h d u o r).lookup ("desks":Str)=some (.ref d):=by kernel_rfl
theorem ac5:(QB m h d u o r).lookup ("roads_up":Str)=some (.ref u):=by kernel_rfl
theorem ack:(QB m h d u o r).lookup ("roads_down":Str)=some (.ref o):=by kernel_rfl
theorem apg:(QB m h d u o r).lookup ("row":Str)=some (.ref r):=by kernel_rfl
theorem atq:(QB m h d u o r).lookup ("check_desk":Str)=none:=by kernel_rfl
theorem aiR:(QB m h d u o r).lookup ("check_page":Str)=none:=by kernel_rfl
theorem atr:(QB m h d u o r).lookup ("do_deed":Str)=none:=by kernel_rfl
theorem atu:(QB m h d u o r).lookup ("look_at":Str)=none:=by kernel_rfl
theorem atv:(QB m h d u o r).lookup ("put_on":Str)=none:=by kernel_rfl
theorem atw:(QB m h d u o r).lookup ("give_up":Str)=none:=by kernel_rfl
theorem atx:(QB m h d u o r).lookup ("bring_up":Str)=none:=by kernel_rfl
theorem aty:(QB m h d u o r).lookup ("bring_down":Str)=none:=by kernel_rfl
theorem amU:(QB m h d u o r).lookup ("first_letter":Str)=none:=by kernel_rfl
theorem aiS:(QB m h d u o r).lookup ("carry_out":Str)=none:=by kernel_rfl
end
structure C4 where
 T:Addr
 D:Addr
 H:Addr
 P:Addr
structure cG(c:C4)(H:Hp)(B:Tb->Addr)(n m:Nat)(S:TS)(k:Nat):Prop where
 inj:∀x y:Tb,x.ok n m->y.ok n m->B x=B y->x=y
 ob:∃dx,H (B .bc)=some (.ins c.T dx (QB m (B (.h .hall)) (B .lL) (B .ups) (B .downs) (B .row)))
 ds:H (B .lL)=some (.lst ((List.range n).map λd=>V.ref (B (.dk d))))
 us:H (B .ups)=some (.lst ((List.range n).map λd=>V.ref (B (.up d))))
 os:H (B .downs)=some (.lst ((List.range n).map λd=>V.ref (B (.dn d))))
 row:∃vs,H (B .row)=some (.lst vs)/\aH H vs (S.row.map RE.d)
 up:∀d,d<n->∃vs,H (B (.up d))=some (.lst vs)/\aH H vs ((S.up d).map UL.d)
 dn:∀d,d<n->∃vs,H (B (.dn d))=some (.lst vs)/\aH H vs ((S.dn d).map Let.d)
 dk:∀d,d<n->cz c.D H (B (.dk d)) (B (.cp d)) (S.ds d) k
 hl:lY c.H c.P H (λx=>B (.h x)) m S.pg
structure TF(H H':Hp)(B:Tb->Addr)(n m:Nat):Prop where
 kp:∀b o,H b=some o->(∀x:Tb,x.ok n m->b≠B x)->H' b=some o
 lv:Lv H H'
theorem TF.refl(H:Hp)(B:Tb->Addr)(n m:Nat):TF H H B n m:=⟨λ_ _ h _=>h,Lv.refl _⟩
def Tv(H:Hp)(B B1:Tb->Addr)(n m:Nat):Prop:=∀x:Tb,x.ok n m->B1 x=B x\/H (B1 x)=none
theorem Tv.refl(H:Hp)(B:Tb->Addr)(n m:Nat):Tv H B B n m:=λ_ _=>.inl rfl
theorem TF.trans{H H1 H2:Hp}{B B1:Tb->Addr}{n m:Nat}(x:TF H H1 B n m)(y:TF H1 H2 B1 n m)(h:Tv H B B1 n m):TF H H2 B n m:=⟨λb o hb hn=>y.kp b o (x.kp b o hb hn) λz hz=>by
 rcases h z hz with e | e
 ·rw[e];exact hn z hz
 ·exact aF hb e,x.lv.trans y.lv⟩
section
variable{c:C4}{H H':Hp}{B:Tb->Addr}{n m:Nat}{S S':TS}{k k':Nat}
theorem cG.live(T:cG c H B n m S k)(x:Tb)(hx:x.ok n m):∃o,H (B x)=some o/\∀xs,o≠.tup xs:=by
 cases x with
 | bc=>obtain⟨dx,e⟩:=T.ob;exact⟨_,e,λ_ z=>by cases z⟩
 | lL=>exact⟨_,T.ds,λ_ z=>by cases z⟩
 | ups=>exact⟨_,T.us,λ_ z=>by cases z⟩
 | downs=>exact⟨_,T.os,λ_ z=>by cases z⟩
 | row=>obtain⟨vs,e,_⟩:=T.row;exact⟨_,e,λ_ z=>by cases z⟩
 | up d=>obtain⟨vs,e,_⟩:=T.up d hx;exact⟨_,e,λ_ z=>by cases z⟩
 | dn d=>obtain⟨vs,e,_⟩:=T.dn d hx;exact⟨_,e,λ_ z=>by cases z⟩
 | dk d=>obtain⟨⟨dx,v,e,_⟩,_⟩:=T.dk d hx;exact⟨_,e,λ_ z=>by cases z⟩
 | cp d=>obtain⟨_,⟨kvs,e,_⟩⟩:=T.dk d hx;exact⟨_,e,λ_ z=>by cases z⟩
 | h x=>exact T.hl.live x hx
theorem cG.ne(T:cG c H B n m S k){x:Tb}(hx:x.ok n m){b:Addr}(h:H b=none):B x≠b:=λz=>by
 obtain⟨o,e,_⟩:=T.live x hx
 rw[z,h]at e;cases e
theorem cG.tne(T:cG c H B n m S k){x:Tb}(hx:x.ok n m){b:Addr}{xs:List V}(h:H b=some (.tup xs)):b≠B x:=λz=>by
 obtain⟨o,e,g⟩:=T.live x hx
 rw[<-z,h]at e;exact g xs (Option.some.inj e).symm
theorem TF.tups(T:cG c H B n m S k)(f:TF H H' B n m):cg H H':=λb xs e=>f.kp b _ e λ_ hx=>T.tne hx e
theorem TF.of_same(s:bJ H H'):TF H H' B n m:=⟨λb o e _=>s b o e,Lv.same s⟩
theorem cG.but(T:cG c H B n m S k)(t:cg H H')(ch:Tb->Prop)(kp:∀x:Tb,x.ok n m->¬ch x->∀o,H (B x)=some o->H' (B x)=some o)(hk:k<=k')
 (c1:¬ch .bc) (c2:¬ch .lL) (c3:¬ch .ups) (c4:¬ch .downs)
 (row:(¬ch .row/\S'.row=S.row)\/∃vs,H' (B .row)=some (.lst vs)/\aH H' vs (S'.row.map RE.d))
 (up:∀d,d<n->(¬ch (.up d)/\S'.up d=S.up d)\/∃vs,H' (B (.up d))=some (.lst vs)/\aH H' vs ((S'.up d).map UL.d))
 (dn:∀d,d<n->(¬ch (.dn d)/\S'.dn d=S.dn d)\/∃vs,H' (B (.dn d))=some (.lst vs)/\aH H' vs ((S'.dn d).map Let.d))
 (dk:∀d,d<n->(¬ch (.dk d)/\¬ch (.cp d)/\S'.ds d=S.ds d)\/cz c.D H' (B (.dk d)) (B (.cp d)) (S'.ds d) k')
 (hl:((∀x:Hb,¬ch (.h x))/\S'.pg=S.pg)\/lY c.H c.P H' (λx=>B (.h x)) m S'.pg):cG c H' B n m S' k':=by
 refine⟨T.inj,?_,kp .lL trivial c2 _ T.ds,kp .ups trivial c3 _ T.us,kp .downs trivial c4 _ T.os,?_,λd hd=>?_,λd hd=>?_,λd hd=>?_,?_⟩
 ·obtain⟨dx,e⟩:=T.ob
  exact⟨dx,kp .bc trivial c1 _ e⟩
 ·rcases row with ⟨a,b⟩ | z
  ·obtain⟨vs,e,r⟩:=T.row
   exact⟨vs,kp .row trivial a _ e,by rw[b];exact r.aZ t (bY RE.flat _)⟩
  ·exact z
 ·rcases up d hd with ⟨a,b⟩ | z
  ·obtain⟨vs,e,r⟩:=T.up d hd
   exact⟨vs,kp (.up d) hd a _ e,by rw[b];exact r.aZ t (bY UL.flat _)⟩
  ·exact z
 ·rcases dn d hd with ⟨a,b⟩ | z
  ·obtain⟨vs,e,r⟩:=T.dn d hd
   exact⟨vs,kp (.dn d) hd a _ e,by rw[b];exact r.aZ t (bY Let.flat _)⟩
  ·exact z
 ·rcases dk d hd with ⟨a,a',b⟩ | z
  ·rw[b]
   exact((T.dk d hd).keep t (kp (.dk d) hd a) (kp (.cp d) hd a')).mono hk
  ·exact z
 ·rcases hl with ⟨a,b⟩ | z
  ·rw[b]
   exact T.hl.keep t λx hx=>kp (.h x) hx (a x)
  ·exact z
theorem cG.keep(T:cG c H B n m S k)(t:cg H H')(kp:∀x:Tb,x.ok n m->∀o,H (B x)=some o->H' (B x)=some o):cG c H' B n m S k :=
 T.but t (λ_=>False) (λx hx _=>kp x hx) (Nat.le_refl _) id id id id (.inl ⟨id,rfl⟩) (λ_ _=>.inl ⟨id,rfl⟩) (λ_ _=>.inl ⟨id,rfl⟩) (λ_ _=>.inl ⟨id,id,rfl⟩) (.inl ⟨λ_=>id,rfl⟩)
theorem cG.same(T:cG c H B n m S k)(s:bJ H H'):cG c H' B n m S k:=T.keep (bh s) λx _ o e=>s _ o e
theorem cG.new{a:Addr}{o:HO}(T:cG c H B n m S k)(h:H a=none):cG c (upd H a o) B n m S k:=T.same (az h)
theorem cG.more(T:cG c H B n m S k)(h:k<=k'):cG c H B n m S k':={T with dk:=λd hd=>(T.dk d hd).mono h}
theorem TF.wr{x:Tb}(hx:x.ok n m){o:HO}:TF H (upd H (B x) o) B n m:=⟨λb u e hn=>by rw[aq (hn x hx)];exact e,Lv.upd⟩
theorem cG.atz(T:cG c H B n m S k){x:Tb}(hx:x.ok n m){o:HO}:cg H (upd H (B x) o):=λb xs e=>by rw[aq (T.tne hx e)];exact e
theorem cG.kp1(T:cG c H B n m S k){x:Tb}(hx:x.ok n m){o:HO}:∀y:Tb,y.ok n m->¬y=x->∀u,H (B y)=some u->upd H (B x) o (B y)=some u:=λy hy hn u e=>by
 rw[aq λz=>hn (T.inj y x hy hx z)];exact e
theorem cG.amQ(T:cG c H B n m S k){vs:List V}{l:List RE}(r:aH H vs (l.map RE.d)):cG c (upd H (B .row) (.lst vs)) B n m {S with row:=l} k :=
 have t:=T.atz (x:=.row) trivial
 T.but t (·=.row) (T.kp1 (x:=.row) trivial) (Nat.le_refl _) nofun nofun nofun nofun (.inr ⟨vs,aj,r.aZ t (bY RE.flat _)⟩)
  (λd _=>.inl ⟨nofun,rfl⟩) (λd _=>.inl ⟨nofun,rfl⟩) (λd _=>.inl ⟨nofun,nofun,rfl⟩) (.inl ⟨λ_=>nofun,rfl⟩)
theorem cG.ago(T:cG c H B n m S k){d:Nat}(hd:d<n){vs:List V}{l:List UL}(r:aH H vs (l.map UL.d)):cG c (upd H (B (.up d)) (.lst vs)) B n m {S with up:=aG S.up d l} k :=
 have t:=T.atz (x:=.up d) hd
 T.but t (·=.up d) (T.kp1 (x:=.up d) hd) (Nat.le_refl _) nofun nofun nofun nofun (.inl ⟨nofun,rfl⟩)
  (λe _=>by
    by_cases y:e=d
    ·subst y;exact .inr ⟨vs,aj,by dsimp only;rw[aK];exact r.aZ t (bY UL.flat _)⟩
    ·exact .inl ⟨λz=>y (by cases z;rfl),aW _ _ y⟩)
  (λd _=>.inl ⟨nofun,rfl⟩) (λd _=>.inl ⟨nofun,nofun,rfl⟩) (.inl ⟨λ_=>nofun,rfl⟩)
theorem cG.ala(T:cG c H B n m S k){d:Nat}(hd:d<n){vs:List V}{l:List Let}(r:aH H vs (l.map Let.d)):cG c (upd H (B (.dn d)) (.lst vs)) B n m {S with dn:=aG S.dn d l} k :=
 have t:=T.atz (x:=.dn d) hd
 T.but t (·=.dn d) (T.kp1 (x:=.dn d) hd) (Nat.le_refl _) nofun nofun nofun nofun (.inl ⟨nofun,rfl⟩)
  (λd _=>.inl ⟨nofun,rfl⟩)
  (λe _=>by
    by_cases y:e=d
    ·subst y;exact .inr ⟨vs,aj,by dsimp only;rw[aK];exact r.aZ t (bY Let.flat _)⟩
    ·exact .inl ⟨λz=>y (by cases z;rfl),aW _ _ y⟩)
  (λd _=>.inl ⟨nofun,nofun,rfl⟩) (.inl ⟨λ_=>nofun,rfl⟩)
theorem cG.jY(T:cG c H B n m S k){d:Nat}(hd:d<n){D':DS}(DA:cz c.D H' (B (.dk d)) (B (.cp d)) D' k')(f:DF H H' (B (.dk d)) (B (.cp d)))(hk:k<=k') :
 cG c H' B n m {S with ds:=aG S.ds d D'} k'/\TF H H' B n m:=by
 have t:=f.tups (T.dk d hd)
 refine⟨T.but t (λx=>x=.dk d\/x=.cp d) (λx hx hn o e=>f _ o e (λz=>hn (.inl (T.inj x (.dk d) hx hd z))) λz=>hn (.inr (T.inj x (.cp d) hx hd z))) hk (λz=>z.elim nofun nofun) (λz=>z.elim nofun nofun) (λz=>z.elim nofun nofun) (λz=>z.elim nofun nofun)
  (.inl ⟨λz=>z.elim nofun nofun,rfl⟩) (λe _=>.inl ⟨λz=>z.elim nofun nofun,rfl⟩) (λe _=>.inl ⟨λz=>z.elim nofun nofun,rfl⟩) (λe he=>?_) (.inl ⟨λ_ z=>z.elim nofun nofun,rfl⟩),⟨λb o e hn=>f b o e (hn (.dk d) hd) (hn (.cp d) hd),((f.kept (T.dk d hd) DA)).lv⟩⟩
 by_cases y:e=d
 ·subst y;exact .inr (by dsimp only;rw[aK];exact DA)
 ·exact .inl ⟨λz=>z.elim (λz=>y (Tb.dk.inj z)) nofun,λz=>z.elim nofun (λz=>y (Tb.cp.inj z)),aW _ _ y⟩
def mvB(B:Tb->Addr)(A:Hb->Addr):Tb->Addr
 | .h x=>A x
 | x=>B x
theorem cG.hall(T:cG c H B n m S k){A:Hb->Addr}{G:Nat->PG}(HA:lY c.H c.P H' A m G)(f:HF H H' (λx=>B (.h x)) m)(mv:∀x:Hb,x.ok m->A x=B (.h x)\/H (A x)=none)(eh:A .hall=B (.h .hall)) :
 cG c H' (mvB B A) n m {S with pg:=G} k/\TF H H' B n m/\Tv H B (mvB B A) n m:=by
 have t:cg H H':=f.tups T.hl
 have kp:∀x:Tb,x.ok n m->(∀y:Hb,x≠.h y)->∀o,H (B x)=some o->H' (B x)=some o:=λx hx hn o e=>f.kp _ o e λy hy z=>hn y (T.inj x (.h y) hx hy z)
 refine⟨⟨λx y hx hy e=>?_,?_,kp .lL trivial (by intro y z;cases z) _ T.ds,kp .ups trivial (by intro y z;cases z) _ T.us,kp .downs trivial (by intro y z;cases z) _ T.os,?_,λd hd=>?_,λd hd=>?_,λd hd=>?_,HA⟩,⟨λb o e hn=>f.kp b o e λy hy=>hn (.h y) hy,f.lv⟩,λx hx=>?_⟩
 ·have key:∀(u:Tb) (v:Hb),u.ok n m->(∀y:Hb,u≠.h y)->v.ok m->B u≠A v:=λu v hu hn hv z=>by
   rcases mv v hv with q | q
   ·rw[q]at z;exact hn v (T.inj u (.h v) hu hv z)
   ·rw[<-z]at q;obtain⟨o,e,_⟩:=T.live u hu;rw[q]at e;cases e
  cases x with
  | h x'=>cases y with
    | h y'=>rw[HA.inj x' y' hx hy e]
    | _=>exact absurd e.symm (key _ x' hy (by intro y z;cases z) hx)
  | _=>cases y with
    | h y'=>exact absurd e (key _ y' hx (by intro y z;cases z) hy)
    | _=>exact T.inj _ _ hx hy e
 ·obtain⟨dx,e⟩:=T.ob
  refine⟨dx,?_⟩
  have:=kp .bc trivial (by intro y z;cases z) _ e
  rw[<-eh]at this
  exact this
 ·obtain⟨vs,e,r⟩:=T.row
  exact⟨vs,kp .row trivial (by intro y z;cases z) _ e,r.aZ t (bY RE.flat _)⟩
 ·obtain⟨vs,e,r⟩:=T.up d hd
  exact⟨vs,kp (.up d) hd (by intro y z;cases z) _ e,r.aZ t (bY UL.flat _)⟩
 ·obtain⟨vs,e,r⟩:=T.dn d hd
  exact⟨vs,kp (.dn d) hd (by intro y z;cases z) _ e,r.aZ t (bY Let.flat _)⟩
 ·exact(T.dk d hd).keep t (kp (.dk d) hd (by intro y z;cases z)) (kp (.cp d) hd (by intro y z;cases z))
 ·cases x with
  | h y=>exact mv y hx
  | _=>exact .inl rfl
end
end gB
namespace PV
open gB (aG aW Rt)
@[simp] theorem aK {α:Type} (f:Nat->α) (i:Nat) (v:α):aG f i v i=v:=gB.aK f i v
inductive Up where
 | ask (w:Bool) | ans (o:Option Int) | gave (x:Int)
 deriving DecidableEq
inductive Dn where
 | lend (w:Bool) (x:Int) | back (r:Bool)
 deriving DecidableEq
def Up.iD:Up->Bool | .ask _=>true | _=>false
def Up.mV:Up->Bool | .ans _=>true | _=>false
def Up.aiT:Up->Bool | .gave _=>true | _=>false
def Up.isVal:Up->Bool | .gave _=>true | .ans (some _)=>true | _=>false
def Dn.nu:Dn->Bool | .lend _ _=>true | _=>false
def Dn.j6:Dn->Bool | .back _=>true | _=>false
structure St where
 rt:Nat->Rt
 cp:Nat->Int
 U:Nat->List Up
 D:Nat->List Dn
 wt:Nat->Option Bool
 num:Int
 wr:Option Nat
 rs:List Nat
 q:List (Nat×Bool)
 ms:Nat
 cur:Int
def okU(x y:Up):Prop:=(x.mV=true->y.aiT=false)/\(x.iD=true->y.isVal=false)
def okD(x y:Dn):Prop:=x.j6=true->y.nu=false
def eY(v:St)(i:Nat):Prop:=v.rt i≠.no\/∃w x,Dn.lend w x∈v.D i
def Sd(v:St)(i:Nat):Prop:=v.rt i=.wr\/∃x,Dn.lend true x∈v.D i
def Val(v:St)(i:Nat):Prop:=∃x∈v.U i,x.isVal=true
structure Inv(v:St)(b:List Nat):Prop where
 nd:b.Nodup
 len:b.length=v.ms
 c1:∀i,(v.D i).countP Dn.j6+(v.U i).countP Up.mV=if i∈b then 1 else 0
 c3:∀i,(v.U i).countP Up.iD+v.q.countP (λx=>x.1 == i)+(v.D i).countP Dn.nu=if(v.wt i).isSome then 1 else 0
 ask:∀i w,Up.ask w∈v.U i->v.wt i=some w
 que:∀i w,(i,w)∈v.q->v.wt i=some w
 lnd:∀i w x,Dn.lend w x∈v.D i->v.wt i=some w/\x=v.cur
 pu:∀i,(v.U i).Pairwise okU
 pd:∀i,(v.D i).Pairwise okD
 hold:∀i,eY v i->v.wr=some i\/i∈v.rs
 wri:∀i,Sd v i->v.wr=some i
 ex:v.wr≠none->v.rs=[]
 rnd:v.rs.Nodup
 s0:v.ms=0->v.q=[]
 s1:v.ms≠0->v.q≠[]
 sa:∀a w r,v.q=(a,w)::r->a∉b
 sw:∀a r,v.q=(a,true)::r->∀i,i≠a->eY v i->∃x,Dn.back x∈v.D i
 sr:∀a r,v.q=(a,false)::r->∀i,i≠a->Sd v i->∃x,Dn.back x∈v.D i
 sv:∀a w r,v.q=(a,w)::r->∀i,i≠a->Val v i->i∈b
 sb:∀a w r,v.q=(a,w)::r->∀i x,Dn.back x∈v.D i->x = !w
 gv:∀i x,Up.gave x∈v.U i->x=v.cur/\v.wr=some i/\v.rt i=.no
 av:∀i x,Up.ans (some x)∈v.U i->x=v.cur/\v.wr=some i/\v.rt i≠.wr
 an:∀i o,Up.ans o∈v.U i->v.rt i≠.wr/\∀w x,Dn.lend w x∉v.D i
 vl:∀i,Val v i->(∀w x,Dn.lend w x∉v.D i)/\∀w,(i,w)∉v.q
 v1:∀i,(v.U i).countP Up.isVal<=1
 nm:(∀i,v.rt i≠.wr)->(∀i,¬Val v i)->v.num=v.cur
 cop:∀i,v.rt i≠.no->v.cp i=v.cur
 wt0:∀i,v.wt i=some false->v.rt i=.no
 wt1:∀i,v.wt i=some true->v.rt i≠.wr
def Ff(v:St)(i:Nat)(w:Bool):St:={v with wt:=aG v.wt i (some w),U:=aG v.U i (v.U i++[.ask w])}
def agq(v:St)(i:Nat):St:={v with rt:=aG v.rt i .no,U:=aG v.U i (if v.rt i=.wr then v.U i++[.gave (v.cp i)]else v.U i)}
def awE(v:St)(i:Nat)(x:Int):St:={v with cp:=aG v.cp i x,cur:=x}
def jb(v:St)(i:Nat)(w:Bool)(x:Int)(r:List Dn)(y:Option Int):St :=
 {v with D:=aG v.D i r,rt:=aG v.rt i (if w then .wr else .rd),wt:=aG v.wt i none,cp:=aG v.cp i (y.getD x),cur:=y.getD v.cur}
def gG(v:St)(i:Nat)(l:Bool)(r:List Dn):St :=
 {v with D:=aG v.D i r,U:=aG v.U i (v.U i++[.ans (if v.rt i=.wr then some (v.cp i)else none)]),rt:=aG v.rt i (if v.rt i=.wr then(if l then .rd else .no)else if l then v.rt i else .no)}
section
variable{v:St}{b:List Nat}{i:Nat}
theorem fX{α:Type}{p:α->Bool}{l:List α}(h:l.countP p=0):∀x∈l,p x=false:=by
 intro x hx
 have:=List.countP_eq_zero.mp h x hx
 simpa using this
theorem Inv.atA(I:Inv v b)(h:v.wt i=none):(v.U i).countP Up.iD=0/\v.q.countP (λx=>x.1 == i)=0/\(v.D i).countP Dn.nu=0:=by
 have:=I.c3 i
 rw[h]at this
 simp only[Option.isSome_none,Bool.false_eq_true,if_false]at this
 lia
theorem Inv.put(I:Inv v b)(h:v.rt i=.wr)(x:Int):Inv (awE v i x) b:=by
 have hw:v.wr=some i:=I.wri i (.inl h)
 have hr:v.rs=[]:=I.ex (by rw[hw];simp)
 have only:∀j,eY v j->j=i:=λj hj=>by
  rcases I.hold j hj with z | z
  ·rw[hw]at z;exact(Option.some.inj z).symm
  ·rw[hr]at z;simp at z
 have noL:∀j w y,Dn.lend w y∉v.D j:=λj w y hl=>by
  have e:=only j (.inr ⟨w,y,hl⟩)
  subst e
  have h1:=I.lnd j w y hl
  cases w with
  | false=>have:=I.wt0 j h1.1;rw[h]at this;cases this
  | true=>exact I.wt1 j h1.1 h
 have noV:∀j,¬Val v j:=λj ⟨u,hu,hv⟩=>by
  cases u with
  | ask w=>simp[Up.isVal]at hv
  | gave y =>
    have:=I.gv j y hu
    have e:j=i:=by have:=this.2.1;rw[hw]at this;exact(Option.some.inj this).symm
    subst e
    rw[h]at this;exact absurd this.2.2 (by simp)
  | ans o =>
    cases o with
    | none=>simp[Up.isVal]at hv
    | some y =>
      have:=I.av j y hu
      have e:j=i:=by have:=this.2.1;rw[hw]at this;exact(Option.some.inj this).symm
      subst e
      exact absurd h this.2.2
 exact {I with
  lnd:=λj w y hl=>absurd hl (noL j w y)
  gv:=λj y hg=>absurd ⟨_,hg,rfl⟩ (noV j)
  av:=λj y hg=>absurd ⟨_,hg,rfl⟩ (noV j)
  nm:=λz _=>absurd h (z i)
  cop:=λj hj=>by
   have e:=only j (.inl hj)
   subst e
   simp[awE]}
theorem arK(h:(v.U i).countP Up.iD=0)(w:Bool):Up.ask w∉v.U i:=λz=>by simpa[Up.iD] using fX h _ z
theorem akf(h:(v.D i).countP Dn.nu=0)(w:Bool)(x:Int):Dn.lend w x∉v.D i:=λz=>by simpa[Dn.nu] using fX h _ z
theorem noQ(h:v.q.countP (λx=>x.1 == i)=0)(w:Bool):(i,w)∉v.q:=λz=>by simpa using fX h _ z
theorem Inv.awF(I:Inv v b)(h:v.wt i=none)(w:Bool)(h0:w=false->v.rt i=.no)(h1:w=true->v.rt i≠.wr):Inv (Ff v i w) b:=by
 obtain⟨z1,z2,z3⟩:=I.atA h
 have n1:=arK z1
 have n2:=akf z3
 have n3:=noQ z2
 have hv:∀j,Val (Ff v i w) j↔Val v j:=λj=>by
  unfold Val Ff aG
  by_cases e:j=i<;>simp[e,Up.isVal]
 have hh:∀j,eY (Ff v i w) j↔eY v j:=λj=>Iff.rfl
 have hw:∀j,Sd (Ff v i w) j↔Sd v j:=λj=>Iff.rfl
 refine⟨I.nd,I.len,λj=>?_,λj=>?_,λj w' hj=>?_,λj w' hj=>?_,λj w' x hj=>?_,λj=>?_,I.pd,I.hold,I.wri,I.ex,I.rnd,I.s0,I.s1,I.sa,I.sw,I.sr,λa w' r e j hj hv'=>I.sv a w' r e j hj ((hv j).mp hv'),I.sb,λj x hj=>?_,λj x hj=>?_,λj o hj=>?_,λj hj=>I.vl j ((hv j).mp hj),λj=>?_,λa c=>I.nm a λj z=>c j ((hv j).mpr z),I.cop,λj hj=>?_,λj hj=>?_⟩
 ·have:=I.c1 j;dsimp only[Ff,aG]at *;grind[Up.iD,Up.mV]
 ·have:=I.c3 j;dsimp only[Ff,aG]at *;grind[Up.iD]
 ·have:=I.ask j w';dsimp only[Ff,aG]at *;grind[Up.iD]
 ·have:=I.que j w';dsimp only[Ff,aG]at *;grind[Up.iD]
 ·have:=I.lnd j w' x;dsimp only[Ff,aG]at *;grind[Up.iD]
 ·have:=I.pu j;dsimp only[Ff,aG]at *;grind[Up.iD,List.pairwise_append,okU,Up.aiT,Up.isVal]
 ·have:=I.gv j x;dsimp only[Ff,aG]at *;grind[Up.iD]
 ·have:=I.av j x;dsimp only[Ff,aG]at *;grind[Up.iD]
 ·have:=I.an j o;dsimp only[Ff,aG]at *;grind[Up.iD]
 ·have:=I.v1 j;dsimp only[Ff,aG]at *;grind[Up.iD,Up.isVal]
 ·have:=I.wt0 j;dsimp only[Ff,aG]at *;grind[Up.iD]
 ·have:=I.wt1 j;dsimp only[Ff,aG]at *;grind[Up.iD]
theorem akg{l:List Up}{x:Up}(h:l.Pairwise okU)(hx:∀a∈l,okU a x):(l++[x]).Pairwise okU:=by
 rw[List.pairwise_append]
 exact⟨h,List.pairwise_singleton _ _,λa ha y hy=>by rw[List.mem_singleton]at hy;subst hy;exact hx a ha⟩
theorem Mq{x:Int}(h:Up.gave x∈v.U i):Val v i:=⟨_,h,rfl⟩
theorem akh{x:Int}(h:Up.ans (some x)∈v.U i):Val v i:=⟨_,h,rfl⟩
theorem Inv.agr(I:Inv v b)(h:v.rt i=.wr):(v.U i).countP Up.isVal=0:=by
 rw[List.countP_eq_zero]
 intro u hu hv
 cases u with
 | ask w=>simp[Up.isVal]at hv
 | gave y=>have:=(I.gv i y hu).2.2;rw[h]at this;cases this
 | ans o =>
   cases o with
   | none=>simp[Up.isVal]at hv
   | some y=>exact(I.av i y hu).2.2 h
theorem Inv.ags(I:Inv v b)(h:v.rt i=.wr)(w:Bool):Up.ask w∉v.U i:=λz=>by
 have:=I.ask i w z
 cases w with
 | false=>have:=I.wt0 i this;rw[h]at this;cases this
 | true=>exact I.wt1 i this h
theorem Inv.amV(I:Inv v b)(h:v.rt i=.wr)(w:Bool):(i,w)∉v.q:=λz=>by
 have:=I.que i w z
 cases w with
 | false=>have:=I.wt0 i this;rw[h]at this;cases this
 | true=>exact I.wt1 i this h
theorem Inv.atB(I:Inv v b)(h:v.rt i=.wr)(w:Bool)(x:Int):Dn.lend w x∉v.D i:=λz=>by
 have:=(I.lnd i w x z).1
 cases w with
 | false=>have:=I.wt0 i this;rw[h]at this;cases this
 | true=>exact I.wt1 i this h
theorem Inv.lB(I:Inv v b)(h:v.rt i≠.no):Inv (agq v i) b:=by
 by_cases hw:v.rt i=.wr
 ·have a1:=I.ags hw
  have a2:=I.amV hw
  have a3:=I.atB hw
  have a4:=I.agr hw
  have a5:=I.cop i h
  have a6:=I.wri i (.inl hw)
  have a7:∀o,Up.ans o∉v.U i:=λo z=>(I.an i o z).1 hw
  have e:agq v i={v with rt:=aG v.rt i .no,U:=aG v.U i (v.U i++[.gave (v.cp i)])}:=by simp[agq,hw]
  rw[e]
  have hv:∀j,Val {v with rt:=aG v.rt i .no,U:=aG v.U i (v.U i++[.gave (v.cp i)])} j↔(Val v j\/j=i):=λj=>by
   unfold Val aG
   by_cases e:j=i
   ·simp[e,Up.isVal]
   ·simp[e]
  have hh:∀j,eY {v with rt:=aG v.rt i .no,U:=aG v.U i (v.U i++[.gave (v.cp i)])} j->eY v j:=λj=>by
   unfold eY aG
   dsimp only
   by_cases e:j=i
   ·simp[e,hw]
   ·simp[e]
  have hwr:∀j,Sd {v with rt:=aG v.rt i .no,U:=aG v.U i (v.U i++[.gave (v.cp i)])} j->Sd v j:=λj=>by
   unfold Sd aG
   dsimp only
   by_cases e:j=i
   ·simp[e,hw]
   ·simp[e]
  refine⟨I.nd,I.len,λj=>?_,λj=>?_,λj w' hj=>?_,I.que,I.lnd,λj=>?_,I.pd,λj hj=>I.hold j (hh j hj),λj hj=>I.wri j (hwr j hj),I.ex,I.rnd,I.s0,I.s1,I.sa,λa r e j hj z=>I.sw a r e j hj (hh j z),λa r e j hj z=>I.sr a r e j hj (hwr j z),λa w' r e j hj z=>?_,I.sb,λj x hj=>?_,λj x hj=>?_,λj o hj=>?_,λj hj=>?_,λj=>?_,λz1 z2=>?_,λj hj=>?_,λj hj=>?_,λj hj=>?_⟩
  ·have:=I.c1 j;dsimp only[aG]at *;grind[Up.mV]
  ·have:=I.c3 j;dsimp only[aG]at *;grind[Up.iD]
  ·have:=I.ask j w';dsimp only[aG]at *;grind
  ·by_cases ej:j=i
   ·subst ej
    simp only[aK]
    refine akg (I.pu j) λa ha=>?_
    cases a with
    | ask w=>exact absurd ha (a1 w)
    | ans o=>exact absurd ha (a7 o)
    | gave y=>exact⟨λz=>by simp[Up.mV]at z,λz=>by simp[Up.iD]at z⟩
   ·simp only[aW _ _ ej];exact I.pu j
  ·rcases (hv j).mp z with q | q
   ·exact I.sv a w' r e j hj q
   ·subst q
    have z2:∃x,Dn.back x∈v.D j:=by
     cases w' with
     | true=>exact I.sw a r e j hj (.inl h)
     | false=>exact I.sr a r e j hj (.inl hw)
    obtain⟨x,hx⟩:=z2
    have h1:=I.c1 j
    have h2:0<(v.D j).countP Dn.j6:=List.countP_pos_iff.mpr ⟨_,hx,rfl⟩
    by_cases q:j∈b
    ·exact q
    ·rw[if_neg q]at h1;lia
  ·have:=I.gv j x;dsimp only[aG]at *;grind
  ·have:=I.av j x;dsimp only[aG]at *;grind
  ·have:=I.an j o;dsimp only[aG]at *;grind
  ·rcases (hv j).mp hj with q | q
   ·exact I.vl j q
   ·subst q;exact⟨a3,a2⟩
  ·have:=I.v1 j;dsimp only[aG]at *;grind[Up.isVal]
  ·exact absurd ((hv i).mpr (.inr rfl)) (z2 i)
  ·have:=I.cop j;dsimp only[aG]at *;grind
  ·have:=I.wt0 j;dsimp only[aG]at *;grind
  ·have:=I.wt1 j;dsimp only[aG]at *;grind
 ·have e:agq v i={v with rt:=aG v.rt i .no}:=by
   simp only[agq,if_neg hw]
   congr 1
   funext j
   by_cases e:j=i<;>simp[aG,e]
  rw[e]
  have hh:∀j,eY {v with rt:=aG v.rt i .no} j->eY v j:=λj=>by
   unfold eY aG
   dsimp only
   by_cases e:j=i
   ·subst e
    simp only[if_true]
    rintro(z | z)
    ·exact absurd rfl z
    ·exact .inr z
   ·simp[e]
  have hwr:∀j,Sd {v with rt:=aG v.rt i .no} j->Sd v j:=λj=>by
   unfold Sd aG
   dsimp only
   by_cases e:j=i
   ·subst e
    simp only[if_true]
    rintro(z | z)
    ·cases z
    ·exact .inr z
   ·simp[e]
  exact {I with
   hold:=λj hj=>I.hold j (hh j hj)
   wri:=λj hj=>I.wri j (hwr j hj)
   sw:=λa r e j hj z=>I.sw a r e j hj (hh j z)
   sr:=λa r e j hj z=>I.sr a r e j hj (hwr j z)
   gv:=λj x hj=>by have:=I.gv j x hj;dsimp only[aG];grind
   av:=λj x hj=>by have:=I.av j x hj;dsimp only[aG];grind
   an:=λj o hj=>by have:=I.an j o hj;dsimp only[aG];grind
   nm:=λz1 z2=>I.nm (λj hj=>by have:=z1 j;dsimp only[aG]at this;grind) z2
   cop:=λj hj=>by have:=I.cop j;dsimp only[aG]at hj;grind
   wt0:=λj hj=>by have:=I.wt0 j hj;dsimp only[aG];grind
   wt1:=λj hj=>by have:=I.wt1 j hj;dsimp only[aG];grind}
theorem Inv.aco(I:Inv v b){w:Bool}{x:Int}{r:List Dn}(hD:v.D i=.lend w x::r):(∀w' x',Dn.lend w' x'∉r)/\v.wt i=some w/\x=v.cur/\(∀w',Up.ask w'∉v.U i)/\(∀w',(i,w')∉v.q):=by
 have m:Dn.lend w x∈v.D i:=by rw[hD];simp
 have h1:=I.lnd i w x m
 have h3:=I.c3 i
 rw[h1.1,hD,List.countP_cons]at h3
 simp only[Option.isSome_some,if_true,Dn.nu]at h3
 have z1:r.countP Dn.nu=0:=by lia
 have z2:(v.U i).countP Up.iD=0:=by lia
 have z3:v.q.countP (λx=>x.1 == i)=0:=by lia
 exact⟨λw' x' z=>by simpa[Dn.nu] using fX z1 _ z,h1.1,h1.2,arK z2,noQ z3⟩
theorem Inv.amW(I:Inv v b){w:Bool}{x:Int}{r:List Dn}(hD:v.D i=.lend w x::r)(y:Option Int)(hy:y.isSome->w=true):Inv (jb v i w x r y) b:=by
 obtain⟨n1,n2,n3,n4,n5⟩:=I.aco hD
 have m:Dn.lend w x∈v.D i:=by rw[hD];simp
 have hH:eY v i:=.inr ⟨w,x,m⟩
 have noV:¬Val v i:=λz=>(I.vl i z).1 w x m
 have noA:∀o,Up.ans o∉v.U i:=λo z=>(I.an i o z).2 w x m
 have only:w=true->∀j,eY v j->j=i:=λhw j hj=>by
  subst hw
  have h1:=I.wri i (.inr ⟨x,m⟩)
  have h2:=I.ex (by rw[h1];simp)
  rcases I.hold j hj with z | z
  ·rw[h1]at z;exact(Option.some.inj z).symm
  ·rw[h2]at z;simp at z
 have amX:w=true->∀j,¬Val v j:=λhw j hj=>by
  subst hw
  have h1:=I.wri i (.inr ⟨x,m⟩)
  obtain⟨u,hu,hv⟩:=id hj
  have e:j=i:=by
   cases u with
   | ask w=>simp[Up.isVal]at hv
   | gave z=>have:=(I.gv j z hu).2.1;rw[h1]at this;exact(Option.some.inj this).symm
   | ans o =>
     cases o with
     | none=>simp[Up.isVal]at hv
     | some z=>have:=(I.av j z hu).2.1;rw[h1]at this;exact(Option.some.inj this).symm
  subst e
  exact noV hj
 have cur':y.isSome->∀j,(∀w' x',Dn.lend w' x'∈v.D j->j=i)/\¬Val v j:=λq j=>⟨λw' x' z=>only (hy q) j (.inr ⟨w',x',z⟩),amX (hy q) j⟩
 have hv:∀j,Val (jb v i w x r y) j↔Val v j:=λj=>Iff.rfl
 have hh:∀j,eY (jb v i w x r y) j->eY v j:=λj hj=>by
  by_cases e:j=i
  ·subst e;exact hH
  ·unfold eY jb at hj
   simp only[aW _ _ e]at hj
   exact hj
 have hwr:∀j,Sd (jb v i w x r y) j->Sd v j:=λj hj=>by
  by_cases e:j=i
  ·subst e
   unfold Sd jb at hj
   simp only[aK]at hj
   cases w with
   | true=>exact .inr ⟨x,m⟩
   | false =>
     rcases hj with z | ⟨x',z⟩
     ·simp at z
     ·exact absurd z (n1 _ _)
  ·unfold Sd jb at hj
   simp only[aW _ _ e]at hj
   exact hj
 have hbk:∀j,(∃l,Dn.back l∈v.D j)->∃l,Dn.back l∈(jb v i w x r y).D j:=λj ⟨z,hz⟩=>by
  by_cases e:j=i
  ·subst e
   rw[hD]at hz
   refine⟨z,?_⟩
   simp only[jb,aK]
   simpa using hz
  ·exact⟨z,by simpa only[jb,aW _ _ e] using hz⟩
 refine⟨I.nd,I.len,λj=>?_,λj=>?_,λj w' hj=>?_,λj w' hj=>?_,λj w' x' hj=>?_,I.pu,λj=>?_,λj hj=>I.hold j (hh j hj),λj hj=>I.wri j (hwr j hj),I.ex,I.rnd,I.s0,I.s1,I.sa,
  λa r' e j hj z=>hbk j (I.sw a r' e j hj (hh j z)),λa r' e j hj z=>hbk j (I.sr a r' e j hj (hwr j z)),I.sv,λa w' r' e j x' hj=>?_,λj x' hj=>?_,λj x' hj=>?_,λj o hj=>?_,λj hj=>?_,I.v1,λz1 z2=>?_,λj hj=>?_,λj hj=>?_,λj hj=>?_⟩
 ·have:=I.c1 j;dsimp only[jb,aG]at *;grind[Dn.j6]
 ·have:=I.c3 j;dsimp only[jb,aG]at *;grind[Dn.nu]
 ·have:=I.ask j w';dsimp only[jb,aG]at *;grind
 ·have:=I.que j w';dsimp only[jb,aG]at *;grind
 ·have:=I.lnd j w' x';have:=cur';dsimp only[jb,aG]at *;cases y<;>grind
 ·have:=I.pd j;dsimp only[jb,aG]at *;grind
 ·have:=I.sb a w' r' e j x';dsimp only[jb,aG]at *;grind
 ·have:=I.gv j x' hj;have:=Mq hj;have:=cur';dsimp only[jb,aG]at *;cases y<;>grind
 ·have:=I.av j x' hj;have:=akh hj;have:=cur';dsimp only[jb,aG]at *;cases y<;>grind
 ·have:=I.an j o hj;dsimp only[jb,aG]at *;grind
 ·have:=I.vl j hj;dsimp only[jb,aG]at *;grind
 ·cases y with
  | none =>
    refine I.nm (λj hj=>?_) z2
    have:=z1 j
    dsimp only[jb,aG]at this
    by_cases e:j=i
    ·subst e
     cases w with
     | false=>have:=I.wt0 j n2;rw[hj]at this;cases this
     | true=>exact I.wt1 j n2 hj
    ·rw[if_neg e]at this;exact this hj
  | some z =>
    have:=hy rfl
    have:=z1 i
    dsimp only[jb,aG]at this
    simp_all
 ·have h1:=I.cop j
  have:=only
  dsimp only[jb,aG]at *
  cases y with
  | none=>grind
  | some z =>
    have hw:=hy rfl
    by_cases e:j=i
    ·simp[e]
    ·rw[if_neg e]at hj
     exact absurd (only hw j (.inl hj)) e
 ·have:=I.wt0 j;dsimp only[jb,aG]at *;grind
 ·have:=I.wt1 j;dsimp only[jb,aG]at *;grind
theorem Inv.atE(I:Inv v b){l:Bool}{r:List Dn}(hD:v.D i=.back l::r):Inv (gG v i l r) b:=by
 have m:Dn.back l∈v.D i:=by rw[hD];simp
 have h1:=I.c1 i
 have ib:i∈b:=by
  by_cases q:i∈b
  ·exact q
  ·rw[if_neg q,hD,List.countP_cons]at h1;simp[Dn.j6]at h1
 have h1':r.countP Dn.j6=0/\(v.U i).countP Up.mV=0:=by
  rw[if_pos ib,hD,List.countP_cons]at h1
  simp only[Dn.j6,if_true]at h1
  lia
 have nL:∀w x,Dn.lend w x∉r:=λw x z=>by
  have:=I.pd i
  rw[hD,List.pairwise_cons]at this
  have:=this.1 _ z rfl
  simp[Dn.nu]at this
 have hq:v.q≠[]:=I.s1 λz=>by
  have:=I.len
  rw[z]at this
  rw[List.length_eq_zero_iff.mp this]at ib
  simp at ib
 obtain⟨⟨a,w⟩,rest,eq⟩:=List.exists_cons_of_ne_nil hq
 have ia:i≠a:=λz=>I.sa a w rest eq (z▸ib)
 have el:l = !w:=I.sb a w rest eq i l m
 have nA:=λo=>(λz=>by simpa[Up.mV] using fX h1'.2 _ z:Up.ans o∉v.U i)
 have hh:∀j,eY (gG v i l r) j->eY v j/\(j=i->l=true):=λj hj=>by
  unfold eY gG at hj
  dsimp only[aG]at hj
  unfold eY
  grind
 have hwr:∀j,Sd (gG v i l r) j->Sd v j/\j≠i:=λj hj=>by
  unfold Sd gG at hj
  dsimp only[aG]at hj
  unfold Sd
  grind
 have hv:∀j,Val (gG v i l r) j->Val v j\/(j=i/\v.rt i=.wr):=λj ⟨u,hu,hv⟩=>by
  unfold gG at hu
  dsimp only[aG]at hu
  by_cases e:j=i
  ·subst e
   rw[if_pos rfl,List.mem_append]at hu
   rcases hu with z | z
   ·exact .inl ⟨u,z,hv⟩
   ·rw[List.mem_singleton]at z
    subst z
    by_cases q:v.rt j=.wr
    ·exact .inr ⟨rfl,q⟩
    ·rw[if_neg q]at hv;simp[Up.isVal]at hv
  ·rw[if_neg e]at hu
   exact .inl ⟨u,hu,hv⟩
 have hv':∀j,Val v j->Val (gG v i l r) j:=λj ⟨u,hu,hv⟩=>⟨u,by
  unfold gG
  dsimp only[aG]
  by_cases e:j=i
  ·subst e;rw[if_pos rfl];exact List.mem_append_left _ hu
  ·rw[if_neg e];exact hu,hv⟩
 have hbk:∀j,j≠i->(∃l,Dn.back l∈v.D j)->∃l',Dn.back l'∈(gG v i l r).D j:=λj e ⟨z,hz⟩=>⟨z,by simpa only[gG,aW _ _ e] using hz⟩
 have wv:=I.agr (i:=i)
 have wq:=I.amV (i:=i)
 have wa:=I.ags (i:=i)
 have wc:=I.cop i
 have ww:=I.wri i
 refine⟨I.nd,I.len,λj=>?_,λj=>?_,λj w' hj=>?_,I.que,λj w' x' hj=>?_,λj=>?_,λj=>?_,λj hj=>I.hold j (hh j hj).1,λj hj=>I.wri j (hwr j hj).1,I.ex,I.rnd,I.s0,I.s1,I.sa,
  λa' r' e j hj z=>?_,λa' r' e j hj z=>hbk j (hwr j z).2 (I.sr a' r' e j hj (hwr j z).1),λa' w' r' e j hj z=>?_,λa' w' r' e j x' hj=>?_,λj x' hj=>?_,λj x' hj=>?_,λj o hj=>?_,λj hj=>?_,λj=>?_,λz1 z2=>?_,λj hj=>?_,λj hj=>?_,λj hj=>?_⟩
 ·have:=I.c1 j;dsimp only[gG,aG]at *;grind[Dn.j6,Up.mV]
 ·have:=I.c3 j;dsimp only[gG,aG]at *;grind[Dn.nu,Up.iD]
 ·have:=I.ask j w';dsimp only[gG,aG]at *;grind
 ·have:=I.lnd j w' x';dsimp only[gG,aG]at *;grind
 ·by_cases ej:j=i
  ·subst ej
   simp only[gG,aK]
   refine akg (I.pu j) λy hy=>⟨λ_=>rfl,λz=>?_⟩
   cases y with
   | ask w =>
     by_cases q:v.rt j=.wr
     ·exact absurd hy (wa q w)
     ·rw[if_neg q];rfl
   | ans o=>simp[Up.iD]at z
   | gave o=>simp[Up.iD]at z
  ·simp only[gG,aW _ _ ej];exact I.pu j
 ·have:=I.pd j;dsimp only[gG,aG]at *;grind
 ·have e':=e
  rw[show(gG v i l r).q=v.q from rfl,eq]at e'
  injection e' with e1 e2
  injection e1 with e1 e3
  have hji:j≠i:=λq=>by
   have:=(hh j z).2 q
   rw[el,e3]at this
   simp at this
  exact hbk j hji (I.sw a' r' e j hj (hh j z).1)
 ·rcases hv j z with q | ⟨q,_⟩
  ·exact I.sv a' w' r' e j hj q
  ·rw[q];exact ib
 ·have:=I.sb a' w' r' e j x';dsimp only[gG,aG]at *;grind
 ·have:=I.gv j x';dsimp only[gG,aG]at *;grind
 ·have:=I.av j x';have:=wc;have:=ww;dsimp only[gG,aG]at *;unfold Sd at ww;grind
 ·have:=I.an j o;dsimp only[gG,aG]at *;grind
 ·rcases hv j hj with q | ⟨q,q2⟩
  ·have:=I.vl j q;dsimp only[gG,aG]at *;grind
  ·subst q
   refine⟨λw' x' z=>?_,wq q2⟩
   simp only[gG,aK]at z
   exact nL w' x' z
 ·by_cases ej:j=i
  ·subst ej
   simp only[gG,aK,List.countP_append]
   by_cases q:v.rt j=.wr
   ·rw[wv q];simp[List.countP_cons,q,Up.isVal]
   ·have:=I.v1 j;rw[if_neg q];simpa[List.countP_cons,Up.isVal] using this
  ·simp only[gG,aW _ _ ej];exact I.v1 j
 ·have niw:v.rt i≠.wr:=λq=>z2 i ⟨.ans (some (v.cp i)),by simp[gG,q],rfl⟩
  refine I.nm (λj hj=>?_) λj z=>z2 j (hv' j z)
  by_cases e:j=i
  ·subst e;exact niw hj
  ·have:=z1 j
   simp only[gG,aW _ _ e]at this
   exact this hj
 ·have:=I.cop j;dsimp only[gG,aG]at *;grind
 ·have:=I.wt0 j;dsimp only[gG,aG]at *;grind
 ·have:=I.wt1 j;dsimp only[gG,aG]at *;grind
end
structure Pre(v:St):Prop where
 ms:v.ms=0
 c1:∀i,(∀x,Dn.back x∉v.D i)/\∀o,Up.ans o∉v.U i
 c3:∀i,(v.U i).countP Up.iD+v.q.countP (λx=>x.1 == i)+(v.D i).countP Dn.nu=if(v.wt i).isSome then 1 else 0
 ask:∀i w,Up.ask w∈v.U i->v.wt i=some w
 que:∀i w,(i,w)∈v.q->v.wt i=some w
 lnd:∀i w x,Dn.lend w x∈v.D i->v.wt i=some w/\x=v.cur
 pu:∀i,(v.U i).Pairwise okU
 hold:∀i,eY v i->v.wr=some i\/i∈v.rs
 wri:∀i,Sd v i->v.wr=some i
 ex:v.wr≠none->v.rs=[]
 rnd:v.rs.Nodup
 gv:∀i x,Up.gave x∈v.U i->x=v.cur/\v.wr=some i/\v.rt i=.no
 vl:∀i,Val v i->(∀w x,Dn.lend w x∉v.D i)/\∀w,(i,w)∉v.q
 v1:∀i,(v.U i).countP Up.isVal<=1
 nm:(∀i,v.rt i≠.wr)->(∀i,¬Val v i)->v.num=v.cur
 cop:∀i,v.rt i≠.no->v.cp i=v.cur
 wt0:∀i,v.wt i=some false->v.rt i=.no
 wt1:∀i,v.wt i=some true->v.rt i≠.wr
section
variable{v:St}{b:List Nat}{i a:Nat}{w:Bool}{rest:List (Nat×Bool)}
theorem nC{α:Type}{p:α->Bool}{l:List α}(h:∀x∈l,p x=false):l.countP p=0:=by
 rw[List.countP_eq_zero];intro x hx;simp[h x hx]
theorem Pre.inv(I:Pre v)(hq:v.q=[]):Inv v []:=by
 have z1:∀i,(v.D i).countP Dn.j6=0:=λi=>nC λx hx=>by
  cases x with
  | lend w x=>rfl
  | back r=>exact absurd hx ((I.c1 i).1 r)
 have z2:∀i,(v.U i).countP Up.mV=0:=λi=>nC λx hx=>by
  cases x with
  | ans o=>exact absurd hx ((I.c1 i).2 o)
  | ask w=>rfl
  | gave x=>rfl
 refine⟨List.nodup_nil,I.ms.symm,λi=>by rw[z1,z2];simp,I.c3,I.ask,I.que,I.lnd,I.pu,λi=>?_,I.hold,I.wri,I.ex,I.rnd,λ_=>hq,λz=>absurd I.ms z,λa w r e=>(by rw[hq]at e;cases e),λa r e=>(by rw[hq]at e;cases e),λa r e=>(by rw[hq]at e;cases e),λa w r e=>(by rw[hq]at e;cases e),λa w r e=>(by rw[hq]at e;cases e),
  I.gv,λi x hx=>absurd hx ((I.c1 i).2 _),λi o hx=>absurd hx ((I.c1 i).2 _),I.vl,I.v1,I.nm,I.cop,I.wt0,I.wt1⟩
 rw[List.pairwise_iff_forall_sublist]
 intro x y hxy hb
 cases x with
 | lend w x=>simp[Dn.j6]at hb
 | back r=>exact absurd (hxy.subset (by simp)) ((I.c1 i).1 r)
def lq(v:St)(a:Nat)(w:Bool)(rest:List (Nat×Bool)):St :=
 {v with q:=rest,D:=aG v.D a (v.D a++[.lend w v.num]),wr:=if w then some a else none,rs:=if w then []else(let r:=v.rs++v.wr.toList;if a∈r then r else r++[a])}
theorem Pre.lend(I:Pre v)(hq:v.q=(a,w)::rest)(h1:w=true->∀i,i≠a->¬eY v i)(h0:w=false->∀i,i≠a->¬Sd v i)(hv:∀i,i≠a->¬Val v i):Pre (lq v a w rest):=by
 have ma:(a,w)∈v.q:=by rw[hq];simp
 have wa:=I.que a w ma
 have nV:∀i,¬Val v i:=λi z=>by
  by_cases e:i=a
  ·subst e;exact(I.vl i z).2 w ma
  ·exact hv i e z
 have ra:v.rt a≠.wr:=by
  cases w with
  | false=>rw[I.wt0 a wa];simp
  | true=>exact I.wt1 a wa
 have cnt:=I.c3 a
 have cq:v.q.countP (λx=>x.1 == a)=1+rest.countP (λx=>x.1 == a):=by rw[hq,List.countP_cons];simp;lia
 rw[wa,cq]at cnt
 simp only[Option.isSome_some,if_true]at cnt
 have nL:∀w x,Dn.lend w x∉v.D a:=akf (by lia)
 have nWr:∀i,v.rt i≠.wr:=λi z=>by
  by_cases e:i=a
  ·subst e;exact ra z
  ·cases w with
   | true=>exact h1 rfl i e (.inl (by rw[z];simp))
   | false=>exact h0 rfl i e (.inl z)
 have num:v.num=v.cur:=I.nm nWr nV
 have nWL:∀i x,Dn.lend true x∉v.D i:=λi x z=>by
  by_cases e:i=a
  ·subst e;exact nL _ _ z
  ·cases w with
   | true=>exact h1 rfl i e (.inr ⟨true,x,z⟩)
   | false=>exact h0 rfl i e (.inr ⟨x,z⟩)
 have mem:∀j w' x',Dn.lend w' x'∈(lq v a w rest).D j->Dn.lend w' x'∈v.D j\/(j=a/\w'=w/\x'=v.num):=λj w' x' z=>by
  dsimp only[lq,aG]at z;grind
 have hh:∀j,eY (lq v a w rest) j->eY v j\/j=a:=λj hj=>by
  rcases hj with z | ⟨w',x',z⟩
  ·exact .inl (.inl z)
  ·rcases mem j w' x' z with q | q
   ·exact .inl (.inr ⟨w',x',q⟩)
   ·exact .inr q.1
 have azR:∀j,(v.wr=some j\/j∈v.rs)\/j=a->w=false->j∈(lq v a w rest).rs:=λj hj hw=>by
  subst hw
  dsimp only[lq]
  rcases hj with (z | z) | z<;>grind
 refine⟨I.ms,λj=>?_,λj=>?_,I.ask,λj w' hj=>I.que j w' (by rw[hq];exact List.mem_cons_of_mem _ hj),λj w' x' hj=>?_,I.pu,λj hj=>?_,λj hj=>?_,λz=>?_,?_,λj x hj=>?_,λj hj=>absurd hj (nV j),I.v1,λ_ _=>num,I.cop,I.wt0,I.wt1⟩
 ·have:=I.c1 j;dsimp only[lq,aG]at *;grind
 ·have:=I.c3 j
  have:v.q.countP (λx=>x.1 == j)=(if a=j then 1 else 0)+rest.countP (λx=>x.1 == j):=by
   rw[hq,List.countP_cons]
   by_cases e:a=j<;>simp[e];lia
  dsimp only[lq,aG]at *
  grind[Dn.nu]
 ·rcases mem j w' x' hj with q | ⟨q1,q2,q3⟩
  ·exact I.lnd j w' x' q
  ·subst q1 q2 q3;exact⟨wa,num⟩
 ·cases w with
  | true =>
    left
    rcases hh j hj with z | z
    ·by_cases e:j=a
     ·subst e;rfl
     ·exact absurd z (h1 rfl j e)
    ·subst z;rfl
  | false =>
    right
    refine azR j ?_ rfl
    rcases hh j hj with z | z
    ·exact .inl (I.hold j z)
    ·exact .inr z
 ·rcases hj with z | ⟨x',z⟩
  ·exact absurd z (nWr j)
  ·rcases mem j true x' z with q | ⟨q1,q2,q3⟩
   ·exact absurd q (nWL j x')
   ·subst q1 q2;rfl
 ·cases w with
  | true=>rfl
  | false=>exact absurd rfl z
 ·cases w with
  | true=>exact List.nodup_nil
  | false =>
    dsimp only[lq]
    have:=I.rnd
    have:=I.ex
    cases hw:v.wr with
    | none=>simp;split<;>grind
    | some j =>
      have e:=I.ex (by rw[hw];simp)
      rw[e]
      simp only[List.nil_append,Option.toList_some,Bool.false_eq_true,if_false]
      by_cases q:a=j
      ·simp[q]
      ·have q':¬j=a:=λz=>q z.symm
       simp[q,q']
 ·exact absurd (Mq hj) (nV j)
def cO(v:St)(a:Nat)(w:Bool):List Nat:=(v.wr.toList.filter λd=>decide (d≠a))++(if w then v.rs.filter λd=>decide (d≠a)else [])
def lR(v:St)(a:Nat)(w:Bool):St:={v with ms:=(cO v a w).length,D:=λi=>if i∈cO v a w then v.D i++[.back (!w)]else v.D i}
theorem agt{j:Nat}:j∈cO v a w↔j≠a/\(v.wr=some j\/(w=true/\j∈v.rs)):=by
 unfold cO
 cases w<;>simp<;>grind
theorem Pre.Xp(I:Pre v):(cO v a w).Nodup:=by
 unfold cO
 have h1:=I.rnd
 cases hw:v.wr with
 | none =>
   cases w with
   | false=>simp
   | true=>simpa using h1.sublist List.filter_sublist
 | some j =>
   have e:=I.ex (by rw[hw];simp)
   rw[e]
   cases w<;>simp<;>(by_cases q:j=a<;>simp[q,List.filter_cons])
theorem Pre.bid(I:Pre v)(hq:v.q=(a,w)::rest)(hb:cO v a w≠[]):Inv (lR v a w) (cO v a w):=by
 have bm:=λj => @agt v a w j
 have nd:=I.Xp (a:=a) (w:=w)
 have hlen:(cO v a w).length≠0:=λz=>hb (List.length_eq_zero_iff.mp z)
 generalize hB:cO v a w=B at *
 have eD:∀j,(lR v a w).D j=if j∈B then v.D j++[.back (!w)]else v.D j:=λj=>by simp[lR,hB]
 have mL:∀j w' x',Dn.lend w' x'∈(lR v a w).D j↔Dn.lend w' x'∈v.D j:=λj w' x'=>by rw[eD];split<;>simp
 have mB:∀j x',Dn.back x'∈(lR v a w).D j↔j∈B/\x' = !w:=λj x'=>by
  have:=(I.c1 j).1 x'
  rw[eD]
  by_cases e:j∈B<;>simp[e,this]
 have hh:∀j,eY (lR v a w) j↔eY v j:=λj=>by unfold eY;simp only[mL];rfl
 have hwr:∀j,Sd (lR v a w) j↔Sd v j:=λj=>by unfold Sd;simp only[mL];rfl
 have z1:∀i,(v.D i).countP Dn.j6=0:=λi=>nC λx hx=>by
  cases x with
  | lend w x=>rfl
  | back r=>exact absurd hx ((I.c1 i).1 r)
 have z2:∀i,(v.U i).countP Up.mV=0:=λi=>nC λx hx=>by
  cases x with
  | ans o=>exact absurd hx ((I.c1 i).2 o)
  | ask w=>rfl
  | gave x=>rfl
 have qe:∀a' w' r',v.q=(a',w')::r'->a'=a/\w'=w:=λa' w' r' e=>by rw[hq]at e;injection e with e _;injection e with e1 e2;exact⟨e1.symm,e2.symm⟩
 have em:(lR v a w).ms=B.length:=by simp[lR,hB]
 refine⟨nd,em.symm,λj=>?_,λj=>?_,I.ask,I.que,λj w' x' hj=>I.lnd j w' x' ((mL j w' x').mp hj),I.pu,λj=>?_,λj hj=>I.hold j ((hh j).mp hj),λj hj=>I.wri j ((hwr j).mp hj),I.ex,I.rnd,λz=>absurd (em.symm.trans z) hlen,λ_=>by rw[show(lR v a w).q=v.q from rfl,hq];simp,λa' w' r' e=>?_,
  λa' r' e j hj z=>?_,λa' r' e j hj z=>?_,λa' w' r' e j hj z=>?_,λa' w' r' e j x' hj=>?_,I.gv,λj x' hj=>absurd hj ((I.c1 j).2 _),λj o hj=>absurd hj ((I.c1 j).2 _),λj hj=>?_,I.v1,I.nm,I.cop,I.wt0,I.wt1⟩
 ·rw[eD]
  show _+(v.U j).countP _=_
  rw[z2]
  by_cases e:j∈B<;>simp[e,z1,Dn.j6]
 ·have:=I.c3 j
  rw[eD]
  show(v.U j).countP _+v.q.countP _+_=if(v.wt j).isSome then 1 else 0
  rw[<-this]
  by_cases e:j∈B<;>simp[e,Dn.nu]
 ·rw[eD]
  have p:(v.D j).Pairwise okD:=by
   rw[List.pairwise_iff_forall_sublist]
   intro x y hxy hb
   cases x with
   | lend w x=>simp[Dn.j6]at hb
   | back r=>exact absurd (hxy.subset (by simp)) ((I.c1 j).1 r)
  split
  ·rw[List.pairwise_append]
   exact⟨p,List.pairwise_singleton _ _,λx _ y hy _=>by rw[List.mem_singleton]at hy;subst hy;rfl⟩
  ·exact p
 ·obtain⟨e1,e2⟩:=qe a' w' r' e
  subst e1
  intro z
  exact((bm a').mp z).1 rfl
 ·obtain⟨e1,e2⟩:=qe a' true r' e
  subst e1 e2
  exact⟨_,(mB j _).mpr ⟨(bm j).mpr ⟨hj,by rcases I.hold j ((hh j).mp z)with q | q;exact .inl q;exact .inr ⟨rfl,q⟩⟩,rfl⟩⟩
 ·obtain⟨e1,e2⟩:=qe a' false r' e
  subst e1 e2
  exact⟨_,(mB j _).mpr ⟨(bm j).mpr ⟨hj,.inl (I.wri j ((hwr j).mp z))⟩,rfl⟩⟩
 ·obtain⟨e1,e2⟩:=qe a' w' r' e
  subst e1
  obtain⟨u,hu,hv⟩:=z
  refine(bm j).mpr ⟨hj,.inl ?_⟩
  cases u with
  | ask w=>simp[Up.isVal]at hv
  | gave y=>exact(I.gv j y hu).2.1
  | ans o=>exact absurd hu ((I.c1 j).2 o)
 ·obtain⟨e1,e2⟩:=qe a' w' r' e
  rw[e2]
  exact((mB j x').mp hj).2
 ·have:=I.vl j hj
  exact⟨λw' x' z=>this.1 w' x' ((mL j w' x').mp z),this.2⟩
theorem Pre.awG(I:Pre v)(e:v.q=(a,w)::rest)(hb:cO v a w=[]):Pre (lq v a w rest):=by
 have none:∀j,j≠a->¬(v.wr=some j\/(w=true/\j∈v.rs)):=λj hj z=>by
  have:j∈cO v a w:=agt.mpr ⟨hj,z⟩
  rw[hb]at this;simp at this
 refine I.lend e (λhw j hj z=>none j hj ?_) (λhw j hj z=>none j hj (.inl (I.wri j z))) (λj hj z=>none j hj (.inl ?_))
 ·rcases I.hold j z with q | q
  ·exact .inl q
  ·exact .inr ⟨hw,q⟩
 ·obtain⟨u,hu,hv⟩:=z
  cases u with
  | ask w=>simp[Up.isVal]at hv
  | gave y=>exact(I.gv j y hu).2.1
  | ans o=>exact absurd hu ((I.c1 j).2 o)
def Fg(v:St)(i:Nat)(x:Int)(r:List Up):St:={v with num:=x,wr:=if v.wr=some i then none else v.wr,U:=aG v.U i r}
def sO(v:St)(i:Nat)(w:Bool)(r:List Up):St:={v with q:=v.q++[(i,w)],U:=aG v.U i r}
def pW(v:St)(i:Nat)(o:Option Int)(r:List Up):St:={v with num:=o.getD v.num,ms:=v.ms - 1,U:=aG v.U i r}
theorem Inv.gave(I:Inv v b){x:Int}{r:List Up}(hU:v.U i=.gave x::r):Inv (Fg v i x r) b:=by
 have m:Up.gave x∈v.U i:=by rw[hU];simp
 obtain⟨g1,g2,g3⟩:=I.gv i x m
 have hV:=Mq m
 have g4:=I.vl i hV
 have ers:=I.ex (by rw[g2];simp)
 have nH:∀j,¬eY v j:=λj hj=>by
  have:j=i:=by
   rcases I.hold j hj with z | z
   ·rw[g2]at z;exact(Option.some.inj z).symm
   ·rw[ers]at z;simp at z
  subst this
  rcases hj with z | ⟨w,y,z⟩
  ·exact z g3
  ·exact g4.1 w y z
 have nW:∀j,¬Sd v j:=λj hj=>nH j (by
  rcases hj with z | ⟨y,z⟩
  ·exact .inl (by rw[z];simp)
  ·exact .inr ⟨true,y,z⟩)
 have v1:=I.v1 i
 rw[hU,List.countP_cons]at v1
 simp only[Up.isVal,if_true]at v1
 have nVi:∀y∈r,y.isVal=false:=fX (by lia)
 have amX:∀j,Val v j->j=i:=λj ⟨u,hu,hv⟩=>by
  cases u with
  | ask w=>simp[Up.isVal]at hv
  | gave z=>have:=(I.gv j z hu).2.1;rw[g2]at this;exact(Option.some.inj this).symm
  | ans o =>
    cases o with
    | none=>simp[Up.isVal]at hv
    | some z=>have:=(I.av j z hu).2.1;rw[g2]at this;exact(Option.some.inj this).symm
 have nV:∀j,¬Val (Fg v i x r) j:=λj ⟨u,hu,hv⟩=>by
  by_cases e:j=i
  ·subst e
   simp only[Fg,aK]at hu
   rw[nVi u hu]at hv;cases hv
  ·simp only[Fg,aW _ _ e]at hu
   exact e (amX j ⟨u,hu,hv⟩)
 refine⟨I.nd,I.len,λj=>?_,λj=>?_,λj w' hj=>?_,I.que,I.lnd,λj=>?_,I.pd,λj hj=>absurd hj (nH j),λj hj=>absurd hj (nW j),λz=>?_,I.rnd,I.s0,I.s1,I.sa,λa r e j hj z=>absurd z (nH j),λa r e j hj z=>absurd z (nW j),λa w' r' e j hj z=>absurd z (nV j),I.sb,λj x' hj=>absurd (Mq hj) (nV j),λj x' hj=>absurd (akh hj) (nV j),λj o hj=>?_,λj hj=>absurd hj (nV j),λj=>?_,λ_ _=>g1,I.cop,I.wt0,I.wt1⟩
 ·have:=I.c1 j;dsimp only[Fg,aG]at *;grind[Up.mV]
 ·have:=I.c3 j;dsimp only[Fg,aG]at *;grind[Up.iD]
 ·have:=I.ask j w';dsimp only[Fg,aG]at *;grind
 ·have:=I.pu j;dsimp only[Fg,aG]at *;grind
 ·simp only[Fg,g2,if_true]at z;exact absurd rfl z
 ·have:=I.an j o;dsimp only[Fg,aG]at *;grind
 ·have:=I.v1 j;dsimp only[Fg,aG]at *;grind
theorem Inv.pre(I:Inv v b)(h:v.ms=0):Pre v:=by
 have hb:b=[]:=List.length_eq_zero_iff.mp (I.len.trans h)
 subst hb
 refine⟨h,λi=>⟨λx hx=>?_,λo ho=>?_⟩,I.c3,I.ask,I.que,I.lnd,I.pu,I.hold,I.wri,I.ex,I.rnd,I.gv,I.vl,I.v1,I.nm,I.cop,I.wt0,I.wt1⟩
 ·have h1:=I.c1 i
  have h2:0<(v.D i).countP Dn.j6:=List.countP_pos_iff.mpr ⟨_,hx,rfl⟩
  rw[if_neg (by simp)]at h1
  lia
 ·have h1:=I.c1 i
  have h2:0<(v.U i).countP Up.mV:=List.countP_pos_iff.mpr ⟨_,ho,rfl⟩
  rw[if_neg (by simp)]at h1
  lia
theorem Inv.asked(I:Inv v b){r:List Up}(hU:v.U i=.ask w::r):(v.ms=0->Pre (sO v i w r))/\(v.ms≠0->Inv (sO v i w r) b):=by
 unfold sO
 have m:Up.ask w∈v.U i:=by rw[hU];simp
 have wi:=I.ask i w m
 have pui:=I.pu i
 rw[hU,List.pairwise_cons]at pui
 have nVr:∀y∈r,y.isVal=false:=λy hy=>(pui.1 y hy).2 rfl
 have nVi:¬Val v i:=λ⟨u,hu,hv⟩=>by
  rw[hU,List.mem_cons]at hu
  rcases hu with z | z
  ·subst z;simp[Up.isVal]at hv
  ·rw[nVr u z]at hv;cases hv
 have hv:∀j,Val {v with q:=v.q++[(i,w)],U:=aG v.U i r} j↔Val v j:=λj=>by
  unfold Val
  dsimp only[aG]
  by_cases e:j=i
  ·subst e
   simp only[if_true]
   constructor
   ·rintro⟨u,hu,hv⟩;exact⟨u,by rw[hU];exact List.mem_cons_of_mem _ hu,hv⟩
   ·intro z;exact absurd z nVi
  ·simp[e]
 refine⟨λh0=>?_,λh0=>?_⟩
 ·have P:=I.pre h0
  have hq:=I.s0 h0
  ·refine⟨h0,λj=>?_,λj=>?_,λj w' hj=>?_,λj w' hj=>?_,P.lnd,λj=>?_,P.hold,P.wri,P.ex,P.rnd,λj x hj=>?_,λj hj=>?_,λj=>?_,λa c=>P.nm a λj z=>c j ((hv j).mpr z),P.cop,P.wt0,P.wt1⟩
   ·have:=P.c1 j;dsimp only[aG]at *;grind
   ·have:=P.c3 j;dsimp only[aG]at *;grind[Up.iD]
   ·have:=P.ask j w';dsimp only[aG]at *;grind
   ·have:=P.que j w';dsimp only[aG]at *;grind
   ·have:=P.pu j;dsimp only[aG]at *;grind
   ·have:=P.gv j x;dsimp only[aG]at *;grind
   ·have hj':=(hv j).mp hj
    refine⟨(P.vl j hj').1,λw' z=>?_⟩
    have:=(P.vl j hj').2 w'
    dsimp only at z
    rw[List.mem_append]at z
    rcases z with z | z
    ·exact this z
    ·rw[List.mem_singleton]at z
     injection z with z1 z2
     subst z1
     exact nVi hj'
   ·have:=P.v1 j;dsimp only[aG]at *;grind
 ·have hq:=I.s1 h0
  obtain⟨⟨a,w0⟩,rest,eq⟩:=List.exists_cons_of_ne_nil hq
  have hd:∀a' w' r',v.q++[(i,w)]=(a',w')::r'->v.q=(a',w')::rest:=λa' w' r' e=>by
   rw[eq,List.cons_append]at e
   injection e with e1 e2
   rw[eq,e1]
  refine⟨I.nd,I.len,λj=>?_,λj=>?_,λj w' hj=>?_,λj w' hj=>?_,I.lnd,λj=>?_,I.pd,I.hold,I.wri,I.ex,I.rnd,λz=>absurd z h0,λ_=>by simp,λa' w' r' e=>I.sa a' w' rest (hd a' w' r' e),λa' r' e=>I.sw a' rest (hd a' true r' e),λa' r' e=>I.sr a' rest (hd a' false r' e),λa' w' r' e j hj z=>I.sv a' w' rest (hd a' w' r' e) j hj ((hv j).mp z),λa' w' r' e=>I.sb a' w' rest (hd a' w' r' e),λj x hj=>?_,λj x hj=>?_,λj o hj=>?_,λj hj=>?_,λj=>?_,λa c=>I.nm a λj z=>c j ((hv j).mpr z),I.cop,I.wt0,I.wt1⟩
  ·have:=I.c1 j;dsimp only[aG]at *;grind[Up.mV]
  ·have:=I.c3 j;dsimp only[aG]at *;grind[Up.iD]
  ·have:=I.ask j w';dsimp only[aG]at *;grind
  ·have:=I.que j w';dsimp only[aG]at *;grind
  ·have:=I.pu j;dsimp only[aG]at *;grind
  ·have:=I.gv j x;dsimp only[aG]at *;grind
  ·have:=I.av j x;dsimp only[aG]at *;grind
  ·have:=I.an j o;dsimp only[aG]at *;grind
  ·have hj':=(hv j).mp hj
   refine⟨(I.vl j hj').1,λw' z=>?_⟩
   have:=(I.vl j hj').2 w'
   dsimp only at z
   rw[List.mem_append]at z
   rcases z with z | z
   ·exact this z
   ·rw[List.mem_singleton]at z
    injection z with z1 z2
    subst z1
    exact nVi hj'
  ·have:=I.v1 j;dsimp only[aG]at *;grind
theorem Inv.answered(I:Inv v b){o:Option Int}{r:List Up}(hU:v.U i=.ans o::r):(v.ms - 1=0->∃a w rest,v.q=(a,w)::rest/\Pre (lq (pW v i o r) a w rest))/\(v.ms - 1≠0->∃b',Inv (pW v i o r) b'):=by
 have m:Up.ans o∈v.U i:=by rw[hU];simp
 have h1:=I.c1 i
 have ib:i∈b:=by
  by_cases q:i∈b
  ·exact q
  ·rw[if_neg q,hU,List.countP_cons]at h1;simp[Up.mV]at h1
 have h2:(v.D i).countP Dn.j6=0/\r.countP Up.mV=0:=by
  rw[if_pos ib,hU,List.countP_cons]at h1
  simp only[Up.mV,if_true]at h1
  lia
 have nB:∀x,Dn.back x∉v.D i:=λx z=>by simpa[Dn.j6] using fX h2.1 _ z
 have nA:∀o,Up.ans o∉r:=λo z=>by simpa[Up.mV] using fX h2.2 _ z
 obtain⟨a1,a2⟩:=I.an i o m
 have pui:=I.pu i
 rw[hU,List.pairwise_cons]at pui
 have nG:∀y∈r,y.isVal=false:=λy hy=>by
  have:=(pui.1 y hy).1 rfl
  cases y with
  | ask w=>rfl
  | gave x=>simp[Up.aiT]at this
  | ans o=>exact absurd hy (nA o)
 have hlen:=I.len
 have hpos:0<b.length:=List.length_pos_iff.mpr λz=>by rw[z]at ib;simp at ib
 have hms:v.ms≠0:=by lia
 obtain⟨⟨a,w⟩,rest,eq⟩:=List.exists_cons_of_ne_nil (I.s1 hms)
 have ia:i≠a:=λz=>I.sa a w rest eq (z▸ib)
 have el:(b.erase i).length=v.ms - 1:=by rw[List.length_erase_of_mem ib,hlen]
 have nde:(b.erase i).Nodup:=I.nd.sublist List.erase_sublist
 have me:∀j,j∈b.erase i↔j≠i/\j∈b:=λj=>by rw[I.nd.mem_erase_iff]
 have azS:∀x,o=some x->x=v.cur/\v.wr=some i:=λx e=>by subst e;exact⟨(I.av i x m).1,(I.av i x m).2.1⟩
 have hv:∀j,Val (pW v i o r) j↔Val v j/\j≠i:=λj=>by
  unfold Val
  dsimp only[pW,aG]
  by_cases e:j=i
  ·subst e
   simp only[if_true]
   constructor
   ·rintro⟨u,hu,hv⟩;rw[nG u hu]at hv;cases hv
   ·rintro⟨_,z⟩;exact absurd rfl z
  ·simp[e]
 have hnum:(∀j,v.rt j≠.wr)->(∀j,¬Val (pW v i o r) j)->(pW v i o r).num=v.cur:=λz1 z2=>by
  cases o with
  | some x=>exact(azS x rfl).1
  | none =>
    refine I.nm z1 λj hj=>?_
    by_cases e:j=i
    ·subst e
     obtain⟨u,hu,hv'⟩:=hj
     rw[hU,List.mem_cons]at hu
     rcases hu with q | q
     ·subst q;simp[Up.isVal]at hv'
     ·rw[nG u q]at hv';cases hv'
    ·exact z2 j ((hv j).mpr ⟨hj,e⟩)
 have J:v.ms - 1≠0->Inv (pW v i o r) (b.erase i):=λhm=>by
  refine⟨nde,el,λj=>?_,λj=>?_,λj w' hj=>?_,I.que,I.lnd,λj=>?_,I.pd,I.hold,I.wri,I.ex,I.rnd,λz=>absurd z hm,λ_=>I.s1 hms,λa' w' r' e z=>I.sa a' w' r' e ((me a').mp z).2,I.sw,I.sr,λa' w' r' e j hj z=>(me j).mpr ⟨((hv j).mp z).2,I.sv a' w' r' e j hj ((hv j).mp z).1⟩,I.sb,λj x hj=>?_,λj x hj=>?_,λj o' hj=>?_,λj hj=>I.vl j ((hv j).mp hj).1,λj=>?_,hnum,I.cop,I.wt0,I.wt1⟩
  ·have:=I.c1 j
   have:=me j
   dsimp only[pW,aG]at *
   grind[Up.mV]
  ·have:=I.c3 j;dsimp only[pW,aG]at *;grind[Up.iD]
  ·have:=I.ask j w';dsimp only[pW,aG]at *;grind
  ·have:=I.pu j;dsimp only[pW,aG]at *;grind
  ·have:=I.gv j x;dsimp only[pW,aG]at *;grind
  ·have:=I.av j x;dsimp only[pW,aG]at *;grind
  ·have:=I.an j o';dsimp only[pW,aG]at *;grind
  ·have:=I.v1 j;dsimp only[pW,aG]at *;grind
 refine⟨λhm=>?_,λhm=>⟨_,J hm⟩⟩
 ·have hb:b.erase i=[]:=List.length_eq_zero_iff.mp (el.trans hm)
  have only:∀j,j∈b->j=i:=λj hj=>by
   by_cases e:j=i
   ·exact e
   ·have:=(me j).mpr ⟨e,hj⟩;rw[hb]at this;simp at this
  have noB:∀j x,Dn.back x∉v.D j:=λj x z=>by
   by_cases e:j=i
   ·subst e;exact nB x z
   ·have h3:=I.c1 j
    have h4:0<(v.D j).countP Dn.j6:=List.countP_pos_iff.mpr ⟨_,z,rfl⟩
    rw[if_neg λq=>e (only j q)]at h3
    lia
  have noA:∀j o',Up.ans o'∉(pW v i o r).U j:=λj o' z=>by
   by_cases e:j=i
   ·subst e;simp only[pW,aK]at z;exact nA o' z
   ·simp only[pW,aW _ _ e]at z
    have h3:=I.c1 j
    have h4:0<(v.U j).countP Up.mV:=List.countP_pos_iff.mpr ⟨_,z,rfl⟩
    rw[if_neg λq=>e (only j q)]at h3
    lia
  have P:Pre (pW v i o r):=by
   refine⟨hm,λj=>⟨noB j,noA j⟩,λj=>?_,λj w' hj=>?_,I.que,I.lnd,λj=>?_,I.hold,I.wri,I.ex,I.rnd,λj x hj=>?_,λj hj=>I.vl j ((hv j).mp hj).1,λj=>?_,hnum,I.cop,I.wt0,I.wt1⟩
   ·have:=I.c3 j;dsimp only[pW,aG]at *;grind[Up.iD]
   ·have:=I.ask j w';dsimp only[pW,aG]at *;grind
   ·have:=I.pu j;dsimp only[pW,aG]at *;grind
   ·have:=I.gv j x;dsimp only[pW,aG]at *;grind
   ·have:=I.v1 j;dsimp only[pW,aG]at *;grind
  have eq':(pW v i o r).q=(a,w)::rest:=eq
  refine⟨a,w,rest,eq,P.lend eq' (λhw j hj z=>?_) (λhw j hj z=>?_) λj hj z=>?_⟩
  ·subst hw
   obtain⟨x,hx⟩:=I.sw a rest eq j hj z
   exact noB j x hx
  ·subst hw
   obtain⟨x,hx⟩:=I.sr a rest eq j hj z
   exact noB j x hx
  ·have:=(hv j).mp z
   exact this.2 (only j (I.sv a w rest eq j hj this.1))
theorem Inv.alone(I:Inv v b){j:Nat}(h:v.rt i=.wr)(hj:j≠i):v.rt j=.no:=by
 have hw:=I.wri i (.inl h)
 have hr:=I.ex (by rw[hw];simp)
 by_cases e:v.rt j=.no
 ·exact e
 ·rcases I.hold j (.inl e)with z | z
  ·rw[hw]at z;exact absurd (Option.some.inj z).symm hj
  ·rw[hr]at z;simp at z
theorem start(x:Int):Inv ⟨λ_=>.no,λ_=>x,λ_=>[],λ_=>[],λ_=>none,x,none,[],[],0,x⟩ []:=by
 refine⟨List.nodup_nil,rfl,λi=>by simp,λi=>by simp,?_,?_,?_,?_,?_,?_,?_,?_,?_,?_,?_,?_,?_,?_,?_,?_,?_,?_,?_,?_,?_,?_,?_,?_,?_⟩
 all_goals (try simp[eY,Sd,Val])
end
end PV
namespace gB
open PV (St Up Dn)
def Sg(p:Nat):UL->Option Up
 | .ask q r=>if q=p then some (.ask (decide (r=.wr)))else none
 | .ans q o=>if q=p then some (.ans o)else none
 | .gave q x=>if q=p then some (.gave x)else none
def dnP(p:Nat):Let->Option Dn
 | .lend q r x=>if q=(p:Int)then some (.lend (decide (r=.wr)) x)else none
 | .back q r=>if q=(p:Int)then some (.back (decide (r=.rd)))else none
def wsP(p:Nat):Option W->Option Bool
 | some w=>if w.pg=(p:Int)then some w.m9 else none
 | none=>none
def qP(q:List (Nat×Rt)):List (Nat×Bool):=q.map λx=>(x.1,decide (x.2=.wr))
def pj(ds:Nat->DS)(up:Nat->List UL)(dn:Nat->List Let)(g:PG)(p:Nat)(c:Int):St :=
 ⟨λi=>(ds i).rt p,λi=>(ds i).nm p,λi=>(up i).filterMap (Sg p),λi=>(dn i).filterMap (dnP p),λi=>wsP p (ds i).ws,g.num,g.wr,g.rd,qP g.ask,g.miss.toNat,c⟩
theorem nD{α β:Type}(f:Nat->α)(i:Nat)(v:α)(F:α->β):(λj=>F (aG f i v j))=aG (λj=>F (f j)) i (F v):=by funext j;unfold aG;split<;>rfl
theorem aiV{p:Nat}{l:UL}(h:l.pg≠p):Sg p l=none:=by cases l<;>exact if_neg h
theorem amY{p:Nat}{l:Let}(h:l.pg≠(p:Int)):dnP p l=none:=by cases l<;>exact if_neg h
theorem aki{p:Nat}:∀(ls:List (Nat×Let)) (dn:Nat->List Let),(∀q∈ls,q.2.pg≠(p:Int))->(λi=>(post dn ls i).filterMap (dnP p))=λi=>(dn i).filterMap (dnP p)
 | [],_,_=>rfl
 | x::ls,dn,h=>by
   rw[tQ,aki ls _ λq hq=>h q (List.mem_cons_of_mem _ hq),nD]
   rw[List.filterMap_append,List.filterMap_cons,amY (h x (by simp)),List.filterMap_nil,List.append_nil]
   exact eE _ _
section
variable{ds:Nat->DS}{up:Nat->List UL}{dn:Nat->List Let}{g:PG}{p:Nat}{c:Int}
theorem akj{a:Nat}{r:Rt}{q:List (Nat×Rt)}(h:g.ask=(a,r)::q):PV.lq (pj ds up dn g p c) a (decide (r=.wr)) (qP q)=pj ds up (post dn (g.dW p)) g.lent p c:=by
 unfold PV.lq pj PG.dW PG.lent
 rw[h]
 dsimp only
 rw[tQ]
 unfold post
 simp only[List.foldl_nil]
 rw[nD,List.filterMap_append]
 by_cases e:r=.wr
 ·simp[e,lJ,dnP]
 ·simp[e,kZ,dnP]
theorem Xq{a:Nat}{r:Rt}{q:List (Nat×Rt)}(h:g.ask=(a,r)::q)(hr:r=.rd\/r=.wr):g.cO p=(PV.cO (pj ds up dn g p c) a (decide (r=.wr))).map λd=>(d,.back p (low r)):=by
 unfold PG.cO PV.cO pj ph pq
 rw[h]
 dsimp only
 rw[List.map_append]
 congr 1
 ·cases hw:g.wr with
  | none=>rfl
  | some w =>
    by_cases e:w=a
    ·simp[e]
    ·simp[e]
 ·by_cases e:r=.wr
  ·simp[e,low]
  ·simp[e]
theorem Xr(l:Rt):∀(b:List Nat) (dn:Nat->List Let),b.Nodup->(λi=>(post dn (b.map λd=>(d,Let.back p l)) i).filterMap (dnP p))=λi=>if i∈b then(dn i).filterMap (dnP p)++[.back (decide (l=.rd))]else(dn i).filterMap (dnP p)
 | [],dn,_=>by funext i;simp[post]
 | x::b,dn,h=>by
   rw[List.nodup_cons]at h
   rw[List.map_cons,tQ,Xr l b _ h.2]
   funext i
   by_cases e:i=x
   ·subst e
    rw[if_neg h.1,aK,if_pos (by simp),List.filterMap_append]
    simp[dnP]
   ·rw[aW _ _ e]
    simp[e]
theorem atF{a:Nat}{r:Rt}{q:List (Nat×Rt)}(h:g.ask=(a,r)::q)(hr:r=.rd\/r=.wr)(nd:(PV.cO (pj ds up dn g p c) a (decide (r=.wr))).Nodup):PV.lR (pj ds up dn g p c) a (decide (r=.wr))=pj ds up (post dn (g.cO p)) {g with miss:=(g.cO p).length} p c:=by
 rw[Xq (ds:=ds) (up:=up) (dn:=dn) (c:=c) h hr]
 unfold PV.lR
 generalize PV.cO (pj ds up dn g p c) a (decide (r=.wr))=b at nd
 have hl:decide (low r=.rd) = !decide (r=.wr):=by rcases hr with e | e<;>subst e<;>rfl
 unfold pj
 rw[Xr _ b dn nd,hl]
 simp
theorem Xu:∀(k:Nat) (g:PG) (dn:Nat->List Let),g.ask.length=k->(∀x∈g.ask,x.2=.rd\/x.2=.wr)->PV.Pre (pj ds up dn g p c)->∃b,PV.Inv (pj ds up (post dn (g.serve p).2) (g.serve p).1 p c) b
 | 0,g,dn,h,hr,I=>by
   have e:g.ask=[]:=List.length_eq_zero_iff.mp h
   rw[yr e]
   exact⟨[],I.inv (by show qP g.ask=[];rw[e];rfl)⟩
 | k+1,g,dn,h,hr,I=>by
   have e:g.ask≠[]:=λz=>by rw[z]at h;simp at h
   obtain⟨⟨a,r⟩,q,e1⟩:=List.exists_cons_of_ne_nil e
   have h1:=hr (a,r) (by rw[e1];simp)
   have e2:(pj ds up dn g p c).q=(a,decide (r=.wr))::qP q:=by show qP g.ask=_;rw[e1];rfl
   by_cases hb:g.cO p=[]
   ·rw[uf e hb]
    have J:=I.awG e2 (List.map_eq_nil_iff.mp ((Xq (ds:=ds) (up:=up) (dn:=dn) (c:=c) e1 h1).symm.trans hb))
    rw[akj e1]at J
    dsimp only
    rw[jX]
    refine Xu k g.lent _ (by rw[PG.yq,h];rfl) (λx hx=>hr x ?_) J
    unfold PG.lent at hx
    rw[e1]at hx ⊢
    dsimp only at hx
    split at hx<;>exact List.mem_cons_of_mem _ hx
   ·rw[yt e hb]
    have J:=I.bid e2 λz=>hb (by rw[Xq (ds:=ds) (up:=up) (dn:=dn) (c:=c) e1 h1,z];rfl)
    rw[atF e1 h1 I.Xp]at J
    exact⟨_,J⟩
end
def amZ(x:Int->Int)(e:RE):Int->Int:=if e.put then λq=>if q=e.pg then e.num else x q else x
def nF(x:Int->Int)(row:List RE):Int->Int:=row.foldl amZ x
def JN:(Int->Int)->List RE->Prop
 | _,[]=>True
 | x,e::r=>(e.put=false->e.num=x e.pg)/\JN (amZ x e) r
theorem vV{e:RE}:∀(row:List RE) (x:Int->Int),JN x row->(e.put=false->e.num=nF x row e.pg)->JN x (row++[e])
 | [],_,_,h=>⟨h,trivial⟩
 | y::r,x,h,h'=>⟨h.1,vV r _ h.2 h'⟩
theorem tV(x:Int->Int)(row:List RE)(e:RE):nF x (row++[e])=amZ (nF x row) e:=by unfold nF;rw[List.foldl_append];rfl
def TS.pv(S:TS)(x:Int->Int)(p:Nat):St:=pj S.ds S.up S.dn (S.pg p) p (nF x S.row p)
structure Xv(n m:Nat)(x:Int->Int)(S:TS):Prop where
 pv:∀p,p<m->∃b,PV.Inv (S.pv x p) b
 wk:JN x S.row
 rg:∀e∈S.row,e.dk<n/\∃q:Nat,q<m/\e.pg=(q:Int)
section
variable{n m d p:Nat}{x:Int->Int}{S:TS}
theorem zV(S:TS)(d:Nat)(z:DS×List Ev×List UL)(x:Int->Int)(p:Nat):(S.jY d z).pv x p={S.pv x p with rt:=aG (S.pv x p).rt d (z.1.rt p),cp:=aG (S.pv x p).cp d (z.1.nm p),U:=aG (S.pv x p).U d ((S.pv x p).U d++z.2.2.filterMap (Sg p)),wt:=aG (S.pv x p).wt d (wsP p z.1.ws),cur:=nF x (c7 S.row d z.2.1) p}:=by
 unfold TS.jY TS.pv pj
 dsimp only
 rw[nD S.ds d z.1 (λy=>y.rt p),nD S.ds d z.1 (λy=>y.nm p),nD S.ds d z.1 (λy=>wsP p y.ws),nD,List.filterMap_append]
theorem Ig{z:DS×List Ev×List UL}(h1:z.1.rt p=(S.ds d).rt p)(h2:z.1.nm p=(S.ds d).nm p)(h3:z.2.2.filterMap (Sg p)=[])(h4:wsP p z.1.ws=wsP p (S.ds d).ws)(h5:nF x (c7 S.row d z.2.1) p=nF x S.row p):(S.jY d z).pv x p=S.pv x p:=by
 rw[zV,h1,h2,h3,h4,h5,List.append_nil]
 show({S.pv x p with rt:=aG (S.pv x p).rt d ((S.pv x p).rt d),cp:=aG (S.pv x p).cp d ((S.pv x p).cp d),U:=aG (S.pv x p).U d ((S.pv x p).U d),wt:=aG (S.pv x p).wt d ((S.pv x p).wt d),cur:=(S.pv x p).cur}:St)=_
 rw[eE,eE,eE,eE]
theorem am0{w:W}(h:w.pg≠(p:Int)):wsP p (some w)=none:=if_neg h
theorem ac6{row:List RE}{e:RE}(h:∀e∈row,e.dk<n/\∃q:Nat,q<m/\e.pg=(q:Int))(h1:e.dk<n)(h2:∃q:Nat,q<m/\e.pg=(q:Int)):∀y∈row++[e],y.dk<n/\∃q:Nat,q<m/\y.pg=(q:Int):=λy hy=>by
 rcases List.mem_append.mp hy with z | z
 ·exact h y z
 ·rw[List.mem_singleton.mp z];exact⟨h1,h2⟩
theorem akk{e:RE}{y:Int->Int}{q:Int}(h:q≠e.pg):amZ y e q=y q:=by unfold amZ;split<;>simp[h]
theorem Xv.want{w:W}(C:Xv n m x S)(hd:d<n)(hp:p<m)(hw:w.pg=(p:Int))(h0:(S.ds d).ws=none):Xv n m x (S.jY d ((S.ds d).il w p)):=by
 obtain⟨b,I⟩:=C.pv p hp
 have other:∀p',p'≠p->((p':Int)≠(p:Int)):=λp' h z=>h (by lia)
 unfold DS.il
 split
 ·rename_i hok
  cases w with
  | look q =>
    have hq:q=(p:Int):=hw
    subst hq
    have hrt:(S.ds d).rt p≠.no:=λz=>by simp[DS.ok,W.need,W.pg,Rt.k,z]at hok
    refine⟨λp' hp'=>?_,vV _ _ C.wk λ_=>?_,ac6 C.rg hd ⟨p,hp,rfl⟩⟩
    ·rw[Ig rfl rfl rfl rfl (by unfold c7;rw[List.map_singleton,tV];rfl)]
     exact C.pv p' hp'
    ·exact I.cop d hrt
  | put q y =>
    have hq:q=(p:Int):=hw
    subst hq
    have hrt:(S.ds d).rt p=.wr:=by
     cases e:(S.ds d).rt p<;>simp[DS.ok,W.need,W.pg,Rt.k,e]at hok ⊢
    refine⟨λp' hp'=>?_,vV _ _ C.wk λz=>(by cases z),ac6 C.rg hd ⟨p,hp,rfl⟩⟩
    by_cases e:p'=p
    ·subst e
     refine⟨b,?_⟩
     have J:=I.put (i:=d) hrt y
     rw[zV]
     dsimp only
     unfold c7
     rw[List.map_singleton,tV]
     show PV.Inv {S.pv x p' with rt:=aG (S.pv x p').rt d (((S.ds d).hold p' ((S.ds d).rt p') y).rt p'),cp:=aG (S.pv x p').cp d (((S.ds d).hold p' ((S.ds d).rt p') y).nm p'),U:=aG (S.pv x p').U d ((S.pv x p').U d++[]),wt:=aG (S.pv x p').wt d ((S.pv x p').wt d),cur:=if(p':Int)=p' then y else nF x S.row p'} b
     rw[DS.qC,DS.vL,List.append_nil,eE,eE,if_pos rfl]
     show PV.Inv {S.pv x p' with rt:=aG (S.pv x p').rt d ((S.pv x p').rt d),cp:=aG (S.pv x p').cp d y,cur:=y} b
     rw[eE]
     exact J
    ·rw[Ig (DS.qG _ _ _ (other p' e)) (DS.qH _ _ _ (other p' e)) rfl rfl (by unfold c7;rw[List.map_singleton,tV];exact akk (other p' e))]
     exact C.pv p' hp'
 ·rename_i hok
  refine⟨λp' hp'=>?_,by show JN x (S.row++[]);rw[List.append_nil];exact C.wk,by show ∀e∈S.row++[],_;rw[List.append_nil];exact C.rg⟩
  by_cases e:p'=p
  ·subst e
   have hwt:(S.pv x p').wt d=none:=by show wsP p' (S.ds d).ws=none;rw[h0];rfl
   have J:=I.awF (i:=d) hwt w.m9 (λz=>?_) (λz=>?_)
   ·refine⟨b,?_⟩
    rw[zV]
    dsimp only
    unfold c7
    rw[List.map_nil,List.append_nil]
    show PV.Inv {S.pv x p' with rt:=aG (S.pv x p').rt d ((S.pv x p').rt d),cp:=aG (S.pv x p').cp d ((S.pv x p').cp d),U:=aG (S.pv x p').U d ((S.pv x p').U d++[UL.ask p' w.need].filterMap (Sg p')),wt:=aG (S.pv x p').wt d (wsP p' (some w))} b
    rw[eE,eE]
    have e1:[UL.ask p' w.need].filterMap (Sg p')=[.ask w.m9]:=by cases w<;>simp[Sg,W.need,W.m9]
    have e2:wsP p' (some w)=some w.m9:=if_pos hw
    rw[e1,e2]
    exact J
   ·cases w with
    | put q y=>cases z
    | look q =>
      have hq:q=(p':Int):=hw
      subst hq
      show(S.ds d).rt p'=.no
      cases e:(S.ds d).rt p'<;>simp[DS.ok,W.need,W.pg,Rt.k,e]at hok ⊢
   ·cases w with
    | look q=>cases z
    | put q y =>
      have hq:q=(p':Int):=hw
      subst hq
      intro (e:(S.ds d).rt p'=.wr)
      simp[DS.ok,W.need,W.pg,Rt.k,e]at hok
  ·rw[Ig rfl rfl (by rw[List.filterMap_cons,aiV (Ne.symm e)];rfl) (by show wsP p' (some w)=wsP p' (S.ds d).ws;rw[h0,am0 (by rw[hw];exact(other p' e).symm)];rfl) (by unfold c7;rw[List.map_nil,List.append_nil])]
   exact C.pv p' hp'
theorem Xv.lB(C:Xv n m x S)(hd:d<n)(hp:p<m)(h0:(S.ds d).rt p≠.no):Xv n m x (S.lB d p):=by
 obtain⟨b,I⟩:=C.pv p hp
 have other:∀p',p'≠p->((p':Int)≠(p:Int)):=λp' h z=>h (by lia)
 unfold TS.lB
 refine⟨λp' hp'=>?_,by show JN x (S.row++[]);rw[List.append_nil];exact C.wk,by show ∀e∈S.row++[],_;rw[List.append_nil];exact C.rg⟩
 by_cases e:p'=p
 ·subst e
  have J:=I.lB (i:=d) h0
  refine⟨b,?_⟩
  rw[zV]
  dsimp only
  unfold c7
  rw[List.map_nil,List.append_nil,DS.qC,DS.vL]
  show PV.Inv {S.pv x p' with rt:=aG (S.pv x p').rt d .no,cp:=aG (S.pv x p').cp d ((S.pv x p').cp d),U:=aG (S.pv x p').U d ((S.pv x p').U d++(if(S.ds d).rt p'=.wr then [UL.gave p' ((S.ds d).nm p')]else []).filterMap (Sg p')),wt:=aG (S.pv x p').wt d ((S.pv x p').wt d)} b
  rw[eE,eE]
  have e1:(S.pv x p').U d++(if(S.ds d).rt p'=.wr then [UL.gave p' ((S.ds d).nm p')]else []).filterMap (Sg p')=if(S.pv x p').rt d=.wr then(S.pv x p').U d++[.gave ((S.pv x p').cp d)]else(S.pv x p').U d:=by
   show _=if(S.ds d).rt p'=.wr then(S.pv x p').U d++[.gave ((S.ds d).nm p')]else _
   split<;>simp[Sg]
  rw[e1]
  exact J
 ·rw[Ig (DS.qG _ _ _ (other p' e)) (DS.qH _ _ _ (other p' e)) (by dsimp only;split<;>simp[Sg,Ne.symm e]) rfl (by unfold c7;rw[List.map_nil,List.append_nil])]
  exact C.pv p' hp'
theorem akl(S:TS)(d:Nat)(r:List Let)(x:Int->Int)(p:Nat):({S with dn:=aG S.dn d r}:TS).pv x p={S.pv x p with D:=aG (S.pv x p).D d (r.filterMap (dnP p))}:=by
 unfold TS.pv pj
 dsimp only
 rw[nD]
theorem arM{r:List Let}{l:Let}(e:S.dn d=l::r)(h:l.pg≠(p:Int)):({S with dn:=aG S.dn d r}:TS).pv x p=S.pv x p:=by
 rw[akl]
 have:r.filterMap (dnP p)=(S.pv x p).D d:=by show _=(S.dn d).filterMap (dnP p);rw[e,List.filterMap_cons,amY h]
 rw[this,eE]
theorem Xv.Ik{l:Let}{r:List Let}(C:Xv n m x S)(hd:d<n)(e:S.dn d=l::r)(hp:p<m)(hl:l.pg=(p:Int))(hn:l.nice):Xv n m x (S.Ik d l r):=by
 obtain⟨b,I⟩:=C.pv p hp
 have other:∀p',p'≠p->((p':Int)≠(p:Int)):=λp' h z=>h (by lia)
 unfold TS.Ik
 cases l with
 | lend q y k =>
   have hq:q=(p:Int):=hl
   subst hq
   have hD:(S.pv x p).D d=.lend (decide (y=.wr)) k::r.filterMap (dnP p):=by show(S.dn d).filterMap (dnP p)=_;rw[e,List.filterMap_cons];simp[dnP]
   obtain⟨_,hwt,hk,_,_⟩:=I.aco hD
   obtain⟨w,hws,hwp,hiw⟩:∃w,(S.ds d).ws=some w/\w.pg=(p:Int)/\w.m9=decide (y=.wr):=by
    have agv:wsP p (S.ds d).ws=some (decide (y=.wr)):=hwt
    cases h:(S.ds d).ws with
    | none=>rw[h]at agv;cases agv
    | some w =>
      rw[h]at agv
      unfold wsP at agv
      dsimp only at agv
      split at agv
      ·rename_i h2;exact⟨w,rfl,h2,Option.some.inj agv⟩
      ·cases agv
   have hok:((S.ds d).hold p y k).ok w:=by
    show w.need.k<=(((S.ds d).hold p y k).rt w.pg).k
    rw[hwp,DS.qC]
    cases w<;>rcases hn with z | z<;>subst z<;>simp[W.need,Rt.k,W.m9]at hiw ⊢
   have ez:(S.ds d).ug (.lend p y k)=(({(S.ds d).hold p y k with ws:=none}:DS).done w,[(w.m9,w.pg,((S.ds d).hold p y k).num w)],[]):=by
    show(((S.ds d).mR p y k).1,((S.ds d).mR p y k).2,([]:List UL))=_
    unfold DS.mR
    rw[hws]
    dsimp only
    rw[if_pos ⟨hwp,hok⟩]
   rw[ez]
   have hc:k=nF x S.row p:=hk
   refine⟨λp' hp'=>?_,vV _ _ C.wk λz=>?_,ac6 C.rg hd ⟨p,hp,hwp⟩⟩
   ·by_cases e':p'=p
    ·subst e'
     refine⟨b,?_⟩
     cases w with
     | look q =>
       have J:=I.amW hD none (λz=>by cases z)
       rw[zV,akl]
       have er:y=if decide (y=.wr)=true then Rt.wr else Rt.rd:=by rcases hn with z | z<;>subst z<;>rfl
       dsimp only
       unfold c7
       rw[List.map_singleton,tV]
       show PV.Inv {S.pv x p' with D:=aG (S.pv x p').D d (r.filterMap (dnP p')),rt:=aG (S.pv x p').rt d (((S.ds d).hold p' y k).rt p'),cp:=aG (S.pv x p').cp d (((S.ds d).hold p' y k).nm p'),U:=aG (S.pv x p').U d ((S.pv x p').U d++[]),wt:=aG (S.pv x p').wt d none,cur:=nF x S.row p'} b
       rw[DS.qC,DS.vL,List.append_nil,eE]
       unfold PV.jb at J
       rw[<-er]at J
       exact J
     | put q u =>
       have hq:q=(p':Int):=hwp
       subst hq
       have J:=I.amW hD (some u) (λ_=>hiw.symm)
       rw[zV,akl]
       have er:y=if decide (y=.wr)=true then Rt.wr else Rt.rd:=by rcases hn with z | z<;>subst z<;>rfl
       dsimp only
       unfold c7
       rw[List.map_singleton,tV]
       show PV.Inv {S.pv x p' with D:=aG (S.pv x p').D d (r.filterMap (dnP p')),rt:=aG (S.pv x p').rt d ((((S.ds d).hold p' y k).hold p' (((S.ds d).hold p' y k).rt p') u).rt p'),cp:=aG (S.pv x p').cp d ((((S.ds d).hold p' y k).hold p' (((S.ds d).hold p' y k).rt p') u).nm p'),U:=aG (S.pv x p').U d ((S.pv x p').U d++[]),wt:=aG (S.pv x p').wt d none,cur:=if(p':Int)=p' then u else nF x S.row p'} b
       rw[DS.qC,DS.vL,DS.qC,List.append_nil,eE,if_pos rfl]
       unfold PV.jb at J
       rw[<-er]at J
       exact J
    ·have o:=other p' e'
     rw[Ig (S:={S with dn:=aG S.dn d r}) ?_ ?_ rfl ?_ ?_,arM e (Ne.symm o)]
     ·exact C.pv p' hp'
     ·cases w with
      | look q=>exact DS.qG (S.ds d) y k o
      | put q u=>exact(DS.qG _ _ _ (by rw[show q=(p:Int)from hwp];exact o)).trans (DS.qG (S.ds d) y k o)
     ·cases w with
      | look q=>exact DS.qH (S.ds d) y k o
      | put q u=>exact(DS.qH _ _ _ (by rw[show q=(p:Int)from hwp];exact o)).trans (DS.qH (S.ds d) y k o)
     ·show wsP p' (({(S.ds d).hold p y k with ws:=none}:DS).done w).ws=wsP p' (S.ds d).ws
      rw[hws,am0 (by rw[hwp];exact Ne.symm o)]
      cases w<;>rfl
     ·unfold c7
      rw[List.map_singleton,tV]
      exact akk (by show(p':Int)≠w.pg;rw[hwp];exact o)
   ·cases w with
    | put q u=>cases z
    | look q =>
      have hq:q=(p:Int):=hwp
      subst hq
      show((S.ds d).hold p y k).nm p=_
      rw[DS.vL];exact hc
 | back q y =>
   have hq:q=(p:Int):=hl
   subst hq
   have hD:(S.pv x p).D d=.back (decide (y=.rd))::r.filterMap (dnP p):=by show(S.dn d).filterMap (dnP p)=_;rw[e,List.filterMap_cons];simp[dnP]
   have ez:(S.ds d).ug (.back p y)=((S.ds d).down p y,[],[.ans p ((S.ds d).lz p)]):=rfl
   rw[ez]
   refine⟨λp' hp'=>?_,by show JN x (S.row++[]);rw[List.append_nil];exact C.wk,by show ∀e∈S.row++[],_;rw[List.append_nil];exact C.rg⟩
   by_cases e':p'=p
   ·subst e'
    refine⟨b,?_⟩
    have J:=I.atE hD
    rw[zV,akl]
    dsimp only
    unfold c7
    rw[List.map_nil,List.append_nil]
    have e1:((S.ds d).down p' y).rt p'=if(S.ds d).rt p'=.wr then(if decide (y=.rd)=true then Rt.rd else .no)else if decide (y=.rd)=true then(S.ds d).rt p' else .no:=by
     unfold DS.down
     split<;>rename_i h<;>rcases hn with z | z<;>subst z<;>cases e:(S.ds d).rt p'<;>simp[e,Rt.k,DS.qC]at h ⊢
    have e2:((S.ds d).down p' y).nm p'=(S.ds d).nm p':=by unfold DS.down;split<;>simp[DS.vL]
    have e3:((S.ds d).down p' y).ws=(S.ds d).ws:=by unfold DS.down;split<;>rfl
    rw[e1,e2,e3]
    show PV.Inv {S.pv x p' with D:=aG (S.pv x p').D d (r.filterMap (dnP p')),rt:=aG (S.pv x p').rt d (if(S.pv x p').rt d=.wr then(if decide (y=.rd)=true then Rt.rd else .no)else if decide (y=.rd)=true then(S.pv x p').rt d else .no),cp:=aG (S.pv x p').cp d ((S.pv x p').cp d),U:=aG (S.pv x p').U d ((S.pv x p').U d++[UL.ans p' ((S.ds d).lz p')].filterMap (Sg p')),wt:=aG (S.pv x p').wt d ((S.pv x p').wt d)} b
    rw[eE,eE]
    have e4:[UL.ans p' ((S.ds d).lz p')].filterMap (Sg p')=[.ans (if(S.pv x p').rt d=.wr then some ((S.pv x p').cp d)else none)]:=by simp[Sg];rfl
    rw[e4]
    exact J
   ·have o:=other p' e'
    rw[Ig (S:={S with dn:=aG S.dn d r}) ?_ ?_ ?_ ?_ ?_,arM e (Ne.symm o)]
    ·exact C.pv p' hp'
    ·show((S.ds d).down p y).rt p'=(S.ds d).rt p'
     unfold DS.down;split
     ·rfl
     ·exact DS.qG _ _ _ o
    ·show((S.ds d).down p y).nm p'=(S.ds d).nm p'
     unfold DS.down;split
     ·rfl
     ·exact DS.qH _ _ _ o
    ·rw[List.filterMap_cons,aiV (Ne.symm e')];rfl
    ·show wsP p' ((S.ds d).down p y).ws=wsP p' (S.ds d).ws
     unfold DS.down;split<;>rfl
    ·unfold c7;rw[List.map_nil,List.append_nil]
theorem awJ(S:TS)(d q:Nat)(r:List UL)(g:PG)(dn:Nat->List Let)(x:Int->Int)(p:Nat):({S with up:=aG S.up d r,pg:=aG S.pg q g,dn:=dn}:TS).pv x p=pj S.ds (aG S.up d r) dn (aG S.pg q g p) p (nF x S.row p):=rfl
theorem Xv.Xi{l:UL}{r:List UL}(C:Xv n m x S)(e:S.up d=l::r)(hp:l.pg<m)(hr:∀q y,l=.ask q y->y=.rd\/y=.wr)(hq:∀y∈(S.pg l.pg).ask,y.2=.rd\/y.2=.wr)(hm:0<=(S.pg l.pg).miss)(hs:∀y∈((S.pg l.pg).take l.pg d l).2,y.2.pg=(l.pg:Int)):Xv n m x (S.Xi d l r):=by
 refine⟨λp' hp'=>?_,C.wk,C.rg⟩
 unfold TS.Xi
 rw[awJ]
 by_cases e':p'=l.pg
 ·subst e'
  rw[aK]
  obtain⟨b,I⟩:=C.pv l.pg hp
  generalize hg:S.pg l.pg=g at hq hm hs
  have eI:S.pv x l.pg=pj S.ds S.up S.dn g l.pg (nF x S.row l.pg):=by unfold TS.pv;rw[hg]
  rw[eI]at I
  have eU:∀u,Sg l.pg l=some u->(pj S.ds S.up S.dn g l.pg (nF x S.row l.pg)).U d=u::r.filterMap (Sg l.pg):=λu hu=>by show(S.up d).filterMap _=_;rw[e,List.filterMap_cons,hu]
  have eP:∀g',pj S.ds (aG S.up d r) S.dn g' l.pg (nF x S.row l.pg)={pj S.ds S.up S.dn g' l.pg (nF x S.row l.pg)with U:=aG (pj S.ds S.up S.dn g' l.pg (nF x S.row l.pg)).U d (r.filterMap (Sg l.pg))}:=λg'=>by unfold pj;dsimp only;rw[nD]
  have m0:(pj S.ds S.up S.dn g l.pg (nF x S.row l.pg)).ms=g.miss.toNat:=rfl
  cases l with
  | ask p y =>
    obtain⟨J1,J2⟩:=I.asked (eU (.ask (decide (y=.wr))) (by simp[Sg,UL.pg]))
    have hy:=hr p y rfl
    have ea:PV.sO (pj S.ds S.up S.dn g p (nF x S.row p)) d (decide (y=.wr)) (r.filterMap (Sg p))=pj S.ds (aG S.up d r) S.dn {g with ask:=g.ask++[(d,y)]} p (nF x S.row p):=by
     rw[show(p:Nat)=(UL.ask p y).pg from rfl,eP];unfold PV.sO pj qP;simp
    show ∃b,PV.Inv (pj S.ds (aG S.up d r) (post S.dn (if g.ask=[]then PG.serve {g with ask:=[(d,y)]} p else({g with ask:=g.ask++[(d,y)]},[])).2) (if g.ask=[]then PG.serve {g with ask:=[(d,y)]} p else({g with ask:=g.ask++[(d,y)]},[])).1 p (nF x S.row p)) b
    by_cases h0:g.ask=[]
    ·rw[if_pos h0]
     refine Xu _ _ _ rfl (λz hz=>by rw[List.mem_singleton.mp hz];exact hy) ?_
     have:(pj S.ds S.up S.dn g p (nF x S.row p)).ms=0:=Classical.byContradiction λz=>I.s1 z (by show qP g.ask=[];rw[h0];rfl)
     have J:=J1 this
     rw[show(UL.ask p y).pg=p from rfl,ea,h0]at J
     exact J
    ·rw[if_neg h0]
     have:(pj S.ds S.up S.dn g p (nF x S.row p)).ms≠0:=λz=>h0 (List.map_eq_nil_iff.mp (I.s0 z))
     have J:=J2 this
     rw[show(UL.ask p y).pg=p from rfl,ea]at J
     exact⟨_,J⟩
  | ans p o =>
    obtain⟨J1,J2⟩:=I.answered (eU (.ans o) (by simp[Sg,UL.pg]))
    have ea:PV.pW (pj S.ds S.up S.dn g p (nF x S.row p)) d o (r.filterMap (Sg p))=pj S.ds (aG S.up d r) S.dn {g with num:=o.getD g.num,miss:=g.miss - 1} p (nF x S.row p):=by
     rw[show(p:Nat)=(UL.ans p o).pg from rfl,eP]
     unfold PV.pW pj
     have:(g.miss - 1).toNat=g.miss.toNat - 1:=by lia
     simp[this]
    rw[show(UL.ans p o).pg=p from rfl]at *
    rw[ea]at J1 J2
    generalize hg2:({g with num:=o.getD g.num,miss:=g.miss - 1}:PG)=g2 at *
    have hpos:g.miss≠0:=λz=>by
     have h1:=I.c1 d
     have h2:=I.len
     rw[m0,z]at h2
     rw[List.length_eq_zero_iff.mp h2,eU (.ans o) (by simp[Sg,UL.pg]),List.countP_cons]at h1
     simp[PV.Up.mV]at h1
    show ∃b,PV.Inv (pj S.ds (aG S.up d r) (post S.dn (g.take p d (.ans p o)).2) (g.take p d (.ans p o)).1 p (nF x S.row p)) b
    unfold PG.take
    dsimp only
    rw[hg2]
    by_cases h0:g.miss - 1=0
    ·rw[if_pos h0]
     obtain⟨a,w,rest,e1,J⟩:=J1 (by rw[m0];lia)
     have eq2:g2.ask=g.ask:=by rw[<-hg2]
     obtain⟨⟨a',y⟩,q,e2⟩:∃z q,g2.ask=z::q:=by
      have e1':qP g.ask=(a,w)::rest:=e1
      rw[<-eq2]at e1'
      cases h:g2.ask with
      | nil=>rw[h]at e1';cases e1'
      | cons z q=>exact⟨z,q,rfl⟩
     have e3:(a',decide (y=Rt.wr))::qP q=(a,w)::rest:=by
      have e1':qP g.ask=(a,w)::rest:=e1
      rw[<-eq2,e2]at e1'
      exact e1'
     injection e3 with e4 e5
     injection e4 with e6 e7
     subst e6 e7 e5
     rw[akj e2]at J
     dsimp only
     rw[jX]
     refine Xu _ _ _ rfl (λz hz=>hq z ?_) J
     rw[<-eq2]
     unfold PG.lent at hz
     rw[e2]at hz ⊢
     dsimp only at hz
     split at hz<;>exact List.mem_cons_of_mem _ hz
    ·rw[if_neg h0]
     exact J2 (by rw[m0];lia)
  | gave p y =>
    have J:=I.gave (eU (.gave y) (by simp[Sg,UL.pg]))
    refine⟨b,?_⟩
    rw[show(UL.gave p y).pg=p from rfl]at *
    show PV.Inv (pj S.ds (aG S.up d r) S.dn {g with num:=y,wr:=if g.wr=some d then none else g.wr} p (nF x S.row p)) b
    rw[eP]
    exact J
 ·rw[aW _ _ e']
  have o:∀y∈((S.pg l.pg).take l.pg d l).2,y.2.pg≠(p':Int):=λy hy z=>e' (by have:=hs y hy;lia)
  have:pj S.ds (aG S.up d r) (post S.dn ((S.pg l.pg).take l.pg d l).2) (S.pg p') p' (nF x S.row p')=S.pv x p':=by
   unfold TS.pv pj
   rw[aki _ _ o,nD]
   have:r.filterMap (Sg p')=(S.up d).filterMap (Sg p'):=by rw[e,List.filterMap_cons,aiV (Ne.symm e')]
   rw[this,eE (λj=>(S.up j).filterMap (Sg p'))]
  rw[this]
  exact C.pv p' hp'
theorem Xv.step(C:Xv n m x S)(I:jy n m S)(y:cB):Xv n m x (S.step n m y).1:=by
 cases y with
 | up d =>
   simp only[TS.step]
   split
   ·rename_i h
    have hd:d.toNat<n:=by unfold inR at h;lia
    unfold TS.upD
    cases e:S.up d.toNat with
    | nil=>exact C
    | cons l r =>
      obtain⟨_,hp,_,ho⟩:=I.take hd e
      have hc:=I.ct l.pg hp
      exact C.Xi e hp (I.up _ hd l (by rw[e];simp)).2 (λz hz=>((I.pn l.pg hp).q z hz).2) (by lia) λz hz=>(ho z hz).2.1
   ·exact C
 | down d =>
   simp only[TS.step]
   split
   ·rename_i h
    have hd:d.toNat<n:=by unfold inR at h;lia
    unfold TS.Xj
    cases e:S.dn d.toNat with
    | nil=>exact C
    | cons l r =>
      obtain⟨p,hp,h1,h2⟩:=I.dn _ hd l (by rw[e];simp)
      exact C.Ik hd e hp h1 h2
   ·exact C
 | rest d p =>
   simp only[TS.step]
   split
   ·rename_i h
    split
    ·rename_i h2
     split
     ·exact C
     ·rename_i h3
      have ep:((p.toNat:Nat):Int)=p:=by unfold inR at h2;lia
      exact C.lB (by unfold inR at h;lia) (by unfold inR at h2;lia) (by rw[ep];exact h3)
    ·exact C
   ·exact C
 | look d p =>
   simp only[TS.step]
   split
   ·rename_i h
    split
    ·rename_i h2
     unfold TS.wish
     split
     ·exact C
     ·rename_i h3
      exact C.want (by unfold inR at h;lia) (by unfold inR at h2;lia) (by show p=_;unfold inR at h2;lia) h3
    ·exact C
   ·exact C
 | put d p x =>
   simp only[TS.step]
   split
   ·rename_i h
    split
    ·rename_i h2
     unfold TS.wish
     split
     ·exact C
     ·rename_i h3
      exact C.want (by unfold inR at h;lia) (by unfold inR at h2;lia) (by show p=_;unfold inR at h2;lia) h3
    ·exact C
   ·exact C
end
end gB
namespace L2
open PySem PySem.Spec PyProof.Rows
section
variable{X:Cx}
theorem Xw{x:V}:∀{xs:List V} {us:List Value},Vals xs us->xs.all vI=true->us.countP (eqU x)=xs.countP λy=>eqV y x
 | _,_,.nil,_=>rfl
 | y::xs,u::us,.cons r t,f=>by
   rw[List.all_cons,Bool.and_eq_true]at f
   rw[List.countP_cons,List.countP_cons,aiy r f.1,Xw t f.2]
def atG:V->List V->Hp->VK->Prop:=λx vs H Q=>∃l xs y,x=.ref l/\vs=[y]/\H l=some (.lst xs)/\vI y=true/\xs.all vI=true/\Q (.int ((xs.countP λz=>eqV z y:Nat):Int)) H
theorem am1:MtM X "list.count" atG:=by
 intro pins s σ H x vs v us Q I rx rv h
 obtain⟨l,xs,y,rfl,rfl,hH,fy,fs,q⟩:=h
 cases rx
 obtain⟨u,rfl,ru⟩:=rv.one
 obtain⟨z,its,n,r,hl,e⟩:=I.afZ hH
 refine call_meets F.slot_list_count ⟨_,e,rfl⟩ F.entry_list_count (F.args_list_count_2 _ _) (SeqAt.list_countAt l its.toArray n none #[] u (eqU y)) ⟨e,λw hw=>LR ru fy r fs w (by simpa using hw),?_⟩
 refine⟨.int ((xs.countP λz=>eqV z y:Nat):Int),H,I.tok _,⟨_,by rw[<-Xw r fs]⟩,q⟩
end
end L2
namespace gB
open PySem L2
def top(i:Nat):Stmt:=PySem.Challenge.pw_copydesks_k03_whole_who_may.main.body.getD i (.Pass ⟨0,0,0,0⟩)
abbrev akm:Stmt:=top 0
abbrev zW:Stmt:=top 12
abbrev rA:Stmt:=top 13
abbrev xf:Stmt:=top 14
abbrev xg:Stmt:=top 15
abbrev xj:Stmt:=top 16
abbrev Fi:Stmt:=top 19
abbrev uq:Stmt:=top 20
abbrev Fj:Stmt:=inClass (top 21) 0
abbrev rB:Stmt:=inClass (top 21) 1
abbrev zX:Stmt:=inClass (top 21) 2
abbrev Fl:Stmt:=inClass (top 21) 3
abbrev Fo:Stmt:=inClass (top 21) 4
abbrev Fp:Stmt:=inClass (top 21) 5
abbrev xm:Stmt:=inClass (top 21) 6
abbrev ur:Stmt:=inClass (top 21) 7
abbrev pX:Stmt:=inClass (top 21) 8
abbrev ux:Stmt:=inClass (top 21) 9
abbrev jz:Stmt:=inClass (top 21) 10
abbrev Fq:Stmt:=inClass (top 21) 11
abbrev pY:Stmt:=inClass (top 23) 0
abbrev j7:Stmt:=inClass (top 23) 1
abbrev je:Stmt:=inClass (top 23) 2
abbrev jA:Stmt:=inClass (top 23) 3
abbrev nJ:Stmt:=inClass (top 23) 4
abbrev gY:Stmt:=inClass (top 23) 5
abbrev pZ:Stmt:=inClass (top 23) 6
abbrev jB:Stmt:=inClass (top 23) 7
abbrev j8:Stmt:=inClass (top 23) 8
abbrev Ft:Stmt:=inClass (top 24) 0
abbrev Fv:Stmt:=inClass (top 24) 1
abbrev Fw:Stmt:=inClass (top 28) 0
abbrev uy:Stmt:=inClass (top 28) 1
abbrev nM:Stmt:=inClass (top 28) 2
abbrev nO:Stmt:=inClass (top 28) 3
abbrev uz:Stmt:=inClass (top 28) 4
abbrev xn:Stmt:=inClass (top 28) 5
abbrev uA:Stmt:=inClass (top 28) 6
abbrev rC:Stmt:=inClass (top 28) 7
abbrev nP:Stmt:=inClass (top 28) 8
abbrev lC:Stmt:=inClass (top 28) 9
abbrev p6:Stmt:=inClass (top 28) 10
abbrev nQ:Stmt:=inClass (top 28) 11
abbrev p7:Stmt:=inClass (top 28) 12
abbrev qI:Stmt:=inClass (top 28) 13
abbrev Fx:Stmt:=top 30
abbrev uB:Stmt:=top 31
abbrev QC:Stmt:=top 33
abbrev aiW:Stmt:=top 34
abbrev Xx:Stmt:=top 35
abbrev Fy:Stmt:=top 36
abbrev ac7:Stmt:=top 37
abbrev zY:Stmt:=top 38
abbrev QD:Stmt:=top 39
abbrev Fz:Stmt:=top 40
abbrev JP:Stmt:=top 41
abbrev xq:Stmt:=top 42
abbrev xr:Stmt:=top 43
abbrev uC:Stmt:=top 44
abbrev zZ:Stmt:=top 45
abbrev uD:Stmt:=top 46
abbrev rD:Stmt:=top 47
abbrev z6:Stmt:=top 48
abbrev QF:Stmt:=top 49
abbrev am2:Stmt:=top 50
theorem aaN:bB ["page","right"] ["page","right"] (aN zW):=⟨rfl,rfl,rfl,by decide +kernel,rfl,by decide +kernel,by decide +kernel⟩
theorem QG:bB ["page","number"] ["page","number"] (aN rA):=⟨rfl,rfl,rfl,by decide +kernel,rfl,by decide +kernel,by decide +kernel⟩
theorem Xy:bB ["page","number"] ["page","number"] (aN xf):=⟨rfl,rfl,rfl,by decide +kernel,rfl,by decide +kernel,by decide +kernel⟩
theorem Xz:bB ["page","right","number"] ["page","right","number"] (aN xg):=⟨rfl,rfl,rfl,by decide +kernel,rfl,by decide +kernel,by decide +kernel⟩
theorem XC:bB ["page","right"] ["page","right"] (aN xj):=⟨rfl,rfl,rfl,by decide +kernel,rfl,by decide +kernel,by decide +kernel⟩
theorem ac8:bB ["right","needed"] ["right","needed"] (aN Fi):=⟨rfl,rfl,rfl,by decide +kernel,rfl,by decide +kernel,by decide +kernel⟩
theorem Uj:bB ["wish"] ["wish"] (aN uq):=⟨rfl,rfl,rfl,by decide +kernel,rfl,by decide +kernel,by decide +kernel⟩
theorem ac9:bB ["self"] ["self"] (aN Fj):=⟨rfl,rfl,rfl,by decide +kernel,rfl,by decide +kernel,by decide +kernel⟩
theorem QH:bB ["self","page"] ["self","page"] (aN rB):=⟨rfl,rfl,rfl,by decide +kernel,rfl,by decide +kernel,by decide +kernel⟩
theorem aaO:bB ["self"] ["self"] (aN zX):=⟨rfl,rfl,rfl,by decide +kernel,rfl,by decide +kernel,by decide +kernel⟩
theorem ada:bB ["self","wish"] ["self","wish"] (aN Fl):=⟨rfl,rfl,rfl,by decide +kernel,rfl,by decide +kernel,by decide +kernel⟩
theorem adb:bB ["self","letter"] ["self","letter"] (aN Fo):=⟨rfl,rfl,rfl,by decide +kernel,rfl,by decide +kernel,by decide +kernel⟩
theorem Mr:bB ["self","page","number"] ["self","page"] (aN Fp):=⟨rfl,rfl,rfl,by decide +kernel,rfl,by decide +kernel,by decide +kernel⟩
theorem XD:bB ["self","wish"] ["self","wish"] (aN xm):=⟨rfl,rfl,rfl,by decide +kernel,rfl,by decide +kernel,by decide +kernel⟩
theorem BZ:bB ["self","wish","page"] ["self","wish"] (aN ur):=⟨rfl,rfl,rfl,by decide +kernel,rfl,by decide +kernel,by decide +kernel⟩
theorem vW:bB ["self","page","right","number","wish"] ["self","page","right","number"] (aN pX):=⟨rfl,rfl,rfl,by decide +kernel,rfl,by decide +kernel,by decide +kernel⟩
theorem Ca:bB ["self","page","right","number"] ["self","page","right"] (aN ux):=⟨rfl,rfl,rfl,by decide +kernel,rfl,by decide +kernel,by decide +kernel⟩
theorem z7:bB ["self","page"] ["self","page"] (aN jz):=⟨rfl,rfl,rfl,by decide +kernel,rfl,by decide +kernel,by decide +kernel⟩
theorem ade:bB ["self","page","right","number"] ["self","page","right","number"] (aN Fq):=⟨rfl,rfl,rfl,by decide +kernel,rfl,by decide +kernel,by decide +kernel⟩
theorem Ms:bB ["self","page","number"] ["self","page","number"] (aN pY):=⟨rfl,rfl,rfl,by decide +kernel,rfl,by decide +kernel,by decide +kernel⟩
theorem Dj:bB ["self","desk","right"] ["self","desk","right"] (aN j7):=⟨rfl,rfl,rfl,by decide +kernel,rfl,by decide +kernel,by decide +kernel⟩
theorem xu:bB ["self","number"] ["self","number"] (aN je):=⟨rfl,rfl,rfl,by decide +kernel,rfl,by decide +kernel,by decide +kernel⟩
theorem z8:bB ["self","desk","number"] ["self","desk","number"] (aN jA):=⟨rfl,rfl,rfl,by decide +kernel,rfl,by decide +kernel,by decide +kernel⟩
theorem lZ:bB ["self","sent","bids"] ["self"] (aN nJ):=⟨rfl,rfl,rfl,by decide +kernel,rfl,by decide +kernel,by decide +kernel⟩
theorem eQ:bB ["self","asking","right","bids"] ["self"] (aN gY):=⟨rfl,rfl,rfl,by decide +kernel,rfl,by decide +kernel,by decide +kernel⟩
theorem vX:bB ["self","first"] ["self"] (aN pZ):=⟨rfl,rfl,rfl,by decide +kernel,rfl,by decide +kernel,by decide +kernel⟩
theorem z9:bB ["self","desk"] ["self","desk"] (aN jB):=⟨rfl,rfl,rfl,by decide +kernel,rfl,by decide +kernel,by decide +kernel⟩
theorem Dk:bB ["self","desk"] ["self","desk"] (aN j8):=⟨rfl,rfl,rfl,by decide +kernel,rfl,by decide +kernel,by decide +kernel⟩
theorem adf:bB ["self","numbers"] ["self","numbers"] (aN Ft):=⟨rfl,rfl,rfl,by decide +kernel,rfl,by decide +kernel,by decide +kernel⟩
theorem Mt:bB ["self","desk","letter","loans"] ["self","desk","letter"] (aN Fv):=⟨rfl,rfl,rfl,by decide +kernel,rfl,by decide +kernel,by decide +kernel⟩
theorem adg:bB ["self","count","numbers"] ["self","count","numbers"] (aN Fw):=⟨rfl,rfl,rfl,by decide +kernel,rfl,by decide +kernel,by decide +kernel⟩
theorem lU:bB ["self","deed","word","desk","page"] ["self","deed"] (aN uy):=⟨rfl,rfl,rfl,by decide +kernel,rfl,by decide +kernel,by decide +kernel⟩
theorem JQ:bB ["self","desk"] ["self","desk"] (aN nM):=⟨rfl,rfl,rfl,by decide +kernel,rfl,by decide +kernel,by decide +kernel⟩
theorem JR:bB ["self","page"] ["self","page"] (aN nO):=⟨rfl,rfl,rfl,by decide +kernel,rfl,by decide +kernel,by decide +kernel⟩
theorem Cd:bB ["self","desk","page","done"] ["self","desk","page"] (aN uz):=⟨rfl,rfl,rfl,by decide +kernel,rfl,by decide +kernel,by decide +kernel⟩
theorem FJ:bB ["self","desk","page","number","done"] ["self","desk","page","number"] (aN xn):=⟨rfl,rfl,rfl,by decide +kernel,rfl,by decide +kernel,by decide +kernel⟩
theorem Uk:bB ["self","desk","page"] ["self","desk","page"] (aN uA):=⟨rfl,rfl,rfl,by decide +kernel,rfl,by decide +kernel,by decide +kernel⟩
theorem jf:bB ["self","desk","letter","pairs","receiver","sent"] ["self","desk"] (aN rC):=⟨rfl,rfl,rfl,by decide +kernel,rfl,by decide +kernel,by decide +kernel⟩
theorem uE:bB ["self","desk","letter"] ["self","desk"] (aN nP):=⟨rfl,rfl,rfl,by decide +kernel,rfl,by decide +kernel,by decide +kernel⟩
theorem FN:bB ["self","road"] ["self","road"] (aN lC):=⟨rfl,rfl,rfl,by decide +kernel,rfl,by decide +kernel,by decide +kernel⟩
theorem jM:bB ["self","desk","told","word","page","number"] ["self","desk","told"] (aN p6):=⟨rfl,rfl,rfl,by decide +kernel,rfl,by decide +kernel,by decide +kernel⟩
theorem JS:bB ["self"] ["self"] (aN nQ):=⟨rfl,rfl,rfl,by decide +kernel,rfl,by decide +kernel,by decide +kernel⟩
theorem Mu:bB ["self","desk"] ["self","desk"] (aN p7):=⟨rfl,rfl,rfl,by decide +kernel,rfl,by decide +kernel,by decide +kernel⟩
theorem adh:bB ["town","deed"] ["town","deed"] (aN Fx):=⟨rfl,rfl,rfl,by decide +kernel,rfl,by decide +kernel,by decide +kernel⟩
theorem lV:bB ["count","numbers","deeds","town","behind_each","deed"] ["count","numbers","deeds"] (aN uB):=⟨rfl,rfl,rfl,by decide +kernel,rfl,by decide +kernel,by decide +kernel⟩
theorem aiX:bB ["_law_found"] ["_law_found"] (aN QC):=⟨rfl,rfl,rfl,by decide +kernel,rfl,by decide +kernel,by decide +kernel⟩
theorem api:bB ["_law_script","_law_k"] ["_law_script","_law_k"] (aN aiW):=⟨rfl,rfl,rfl,by decide +kernel,rfl,by decide +kernel,by decide +kernel⟩
theorem yz:bB ["_law_found","_law_due","_law_left","_law_right","_law_one","_law_two"] ["_law_found","_law_due"] (aN Xx):=⟨rfl,rfl,rfl,by decide +kernel,rfl,by decide +kernel,by decide +kernel⟩
theorem sU:bB ["_law_count","_law_numbers","_law_town","_law_number","_law_shelf"] ["_law_count","_law_numbers"] (aN Fy):=⟨rfl,rfl,rfl,by decide +kernel,rfl,by decide +kernel,by decide +kernel⟩
theorem qJ:bB ["_law_town","_law_page","_law_shelf","_law_desk","_law_right","_law_bids","_law_one","_law_low"] ["_law_town","_law_page"] (aN ac7):=⟨rfl,rfl,rfl,by decide +kernel,rfl,by decide +kernel,by decide +kernel⟩
theorem lM:bB ["_law_town","_law_page","_law_shelf","_law_desk","_law_right","_law_letter"] ["_law_town","_law_page"] (aN zY):=⟨rfl,rfl,rfl,by decide +kernel,rfl,by decide +kernel,by decide +kernel⟩
theorem XF:bB ["_law_town","_law_page","_law_shelf"] ["_law_town","_law_page"] (aN QD):=⟨rfl,rfl,rfl,by decide +kernel,rfl,by decide +kernel,by decide +kernel⟩
theorem Aa:bB ["_law_town","_law_desk","_law_letter","_law_shelf"] ["_law_town","_law_desk"] (aN Fz):=⟨rfl,rfl,rfl,by decide +kernel,rfl,by decide +kernel,by decide +kernel⟩
theorem agw:bB ["_law_right","_law_wish"] ["_law_right","_law_wish"] (aN JP):=⟨rfl,rfl,rfl,by decide +kernel,rfl,by decide +kernel,by decide +kernel⟩
theorem FP:bB ["_law_town","_law_desk","_law_wish","_law_number"] ["_law_town","_law_desk","_law_wish"] (aN xq):=⟨rfl,rfl,rfl,by decide +kernel,rfl,by decide +kernel,by decide +kernel⟩
theorem gZ:bB ["_law_town","_law_desk","_law_letter","_law_page","_law_held","_law_wish","_law_number"] ["_law_town","_law_desk"] (aN xr):=⟨rfl,rfl,rfl,by decide +kernel,rfl,by decide +kernel,by decide +kernel⟩
theorem Ce:bB ["_law_town","_law_deed","_law_desk"] ["_law_town","_law_deed"] (aN uC):=⟨rfl,rfl,rfl,by decide +kernel,rfl,by decide +kernel,by decide +kernel⟩
theorem jx:bB ["_law_town","_law_deed","_law_word","_law_desk","_law_right","_law_wish","_law_number"] ["_law_town","_law_deed"] (aN zZ):=⟨rfl,rfl,rfl,by decide +kernel,rfl,by decide +kernel,by decide +kernel⟩
theorem rE:bB ["_law_cell","_law_pages","_law_far","_law_some"] ["_law_cell","_law_pages"] (aN uD):=⟨rfl,rfl,rfl,by decide +kernel,rfl,by decide +kernel,by decide +kernel⟩
theorem cU:bB ["_law_count","_law_cell","_law_last","_law_flush","_law_desk","_law_deeds"] ["_law_count","_law_cell"] (aN rD):=⟨rfl,rfl,rfl,by decide +kernel,rfl,by decide +kernel,by decide +kernel⟩
theorem cA:bB ["_law_cells","_law_count","_law_pages","_law_words","_law_asked","_law_k","_law_rest","_law_salt","_law_far","_law_word","_law_desk","_law_page","_law_odd","_law_number","_law_much"] ["_law_cells","_law_count","_law_pages"] (aN z6):=⟨rfl,rfl,rfl,by decide +kernel,rfl,by decide +kernel,by decide +kernel⟩
theorem XH:bB ["_law_rights","_law_page","_law_row"] ["_law_rights","_law_page"] (aN QF):=⟨rfl,rfl,rfl,by decide +kernel,rfl,by decide +kernel,by decide +kernel⟩
theorem mj:bB ["_law_script","_law_head","_law_count","_law_pages","_law_numbers","_law_asked","_law_ones","_law_handed","_law_found","_law_town","_law_due","_law_deed","_law_rights","_law_page"] ["_law_script"] (aN am2):=⟨rfl,rfl,rfl,by decide +kernel,rfl,by decide +kernel,by decide +kernel⟩
set_option genInjectivity false in
set_option genSizeOf false in
structure JT where
 bw:Addr
 bj:Addr
 aX:Addr
 aM:Addr
 aV:Addr
 aJ:Addr
 bL:Addr
 aD:Addr
 iu:Addr
 bA:Addr
 Ab:Addr
 agx:FuncData
 iG:Addr
 xx:FuncData
 fH:Addr
 p8:FuncData
 gH:Addr
 uF:FuncData
 gJ:Addr
 uG:FuncData
 gK:Addr
 uH:FuncData
 jh:Addr
 Ac:FuncData
 fY:Addr
 rF:FuncData
 iH:Addr
 Ad:FuncData
 eF:Addr
 qb:FuncData
 gD:Addr
 xF:FuncData
 iI:Addr
 Ae:FuncData
 iJ:Addr
 Af:FuncData
 iK:Addr
 Ag:FuncData
 fO:Addr
 uI:FuncData
 eZ:Addr
 rG:FuncData
 dM:Addr
 nR:FuncData
 fc:Addr
 rH:FuncData
 cI:Addr
 jn:FuncData
 iM:Addr
 Ai:FuncData
 dN:Addr
 nT:FuncData
 cP:Addr
 jC:FuncData
 cF:Addr
 iZ:FuncData
 cJ:Addr
 jo:FuncData
 dq:Addr
 mq:FuncData
 bV:Addr
 gF:FuncData
 dO:Addr
 nU:FuncData
 cL:Addr
 jq:FuncData
 cQ:Addr
 jD:FuncData
 iQ:Addr
 Aj:FuncData
 iR:Addr
 Ak:FuncData
 iT:Addr
 Al:FuncData
 fj:Addr
 rJ:FuncData
 dw:Addr
 my:FuncData
 dB:Addr
 mz:FuncData
 fu:Addr
 rK:FuncData
 fP:Addr
 uJ:FuncData
 fB:Addr
 rM:FuncData
 eG:Addr
 qg:FuncData
 dC:Addr
 mC:FuncData
 cT:Addr
 j9:FuncData
 dR:Addr
 nY:FuncData
 dD:Addr
 mD:FuncData
 dU:Addr
 nZ:FuncData
 cW:Addr
 pA:FuncData
 ji:Addr
 Am:FuncData
 fZ:Addr
 rN:FuncData
 mW:Addr
 JV:FuncData
 FQ:Addr
 adi:FuncData
 qK:Addr
 QJ:FuncData
 jj:Addr
 An:FuncData
 vY:Addr
 XJ:FuncData
 iU:Addr
 xG:FuncData
 mX:Addr
 JW:FuncData
 jl:Addr
 Ao:FuncData
 kh:Addr
 FT:FuncData
 gM:Addr
 uK:FuncData
 gO:Addr
 uL:FuncData
 f9:Addr
 rO:FuncData
 iV:Addr
 xH:FuncData
 gb:Addr
 rP:FuncData
 fJ:Addr
 qi:FuncData
 iW:Addr
 xJ:FuncData
 mY:Addr
 JX:FuncData
 XM:Addr
 aiY:FuncData
 sV:Addr
structure Txt(K:PySem.W.Frag)(w:World)(mg:Str->Option Value)(t:JT):Prop where
 arN:Exc K t.bw [.type "ValueError",.type "Exception",.type "BaseException",.type "object"]
 arO:mg "CopyError"=some (.ref t.bw)
 XN:Exc K t.bj [.ref t.bw,.type "ValueError",.type "Exception",.type "BaseException",.type "object"]
 agy:mg "NoDesk"=some (.ref t.bj)
 Mw:Exc K t.aX [.ref t.bw,.type "ValueError",.type "Exception",.type "BaseException",.type "object"]
 agz:mg "NoPage"=some (.ref t.aX)
 yC:Exc K t.aM [.ref t.bw,.type "ValueError",.type "Exception",.type "BaseException",.type "object"]
 acp:mg "Waiting"=some (.ref t.aM)
 yD:Exc K t.aV [.ref t.bw,.type "ValueError",.type "Exception",.type "BaseException",.type "object"]
 agA:mg "NoCopy"=some (.ref t.aV)
 mF:Exc K t.aJ [.ref t.bw,.type "ValueError",.type "Exception",.type "BaseException",.type "object"]
 XQ:mg "NoLetter"=some (.ref t.aJ)
 avz:Mj K t.bj
 rW:PySem.W.kitOne K (.ref t.bj) (.ref t.bw)=some true
 fC:t.bj≠t.bw
 yE:PySem.W.kitOne K (.ref t.bj) (.ref t.bj)=some true
 yF:PySem.W.kitOne K (.ref t.bj) (.ref t.aX)=some false
 qj:t.bj≠t.aX
 vZ:PySem.W.kitOne K (.ref t.bj) (.ref t.aM)=some false
 n6:t.bj≠t.aM
 yG:PySem.W.kitOne K (.ref t.bj) (.ref t.aV)=some false
 qm:t.bj≠t.aV
 uM:PySem.W.kitOne K (.ref t.bj) (.ref t.aJ)=some false
 mG:t.bj≠t.aJ
 qL:PySem.W.kitOne K (.ref t.bj) (.type "ValueError")=some true
 avA:Mj K t.aX
 rY:PySem.W.kitOne K (.ref t.aX) (.ref t.bw)=some true
 gn:t.aX≠t.bw
 yH:PySem.W.kitOne K (.ref t.aX) (.ref t.bj)=some false
 yI:t.aX≠t.bj
 yJ:PySem.W.kitOne K (.ref t.aX) (.ref t.aX)=some true
 v5:PySem.W.kitOne K (.ref t.aX) (.ref t.aM)=some false
 n8:t.aX≠t.aM
 yK:PySem.W.kitOne K (.ref t.aX) (.ref t.aV)=some false
 qp:t.aX≠t.aV
 uN:PySem.W.kitOne K (.ref t.aX) (.ref t.aJ)=some false
 mH:t.aX≠t.aJ
 qM:PySem.W.kitOne K (.ref t.aX) (.type "ValueError")=some true
 atH:Mj K t.aM
 qN:PySem.W.kitOne K (.ref t.aM) (.ref t.bw)=some true
 iY:t.aM≠t.bw
 v7:PySem.W.kitOne K (.ref t.aM) (.ref t.bj)=some false
 v8:t.aM≠t.bj
 v9:PySem.W.kitOne K (.ref t.aM) (.ref t.aX)=some false
 wg:t.aM≠t.aX
 uO:PySem.W.kitOne K (.ref t.aM) (.ref t.aM)=some true
 wj:PySem.W.kitOne K (.ref t.aM) (.ref t.aV)=some false
 oh:t.aM≠t.aV
 rZ:PySem.W.kitOne K (.ref t.aM) (.ref t.aJ)=some false
 lD:t.aM≠t.aJ
 pB:PySem.W.kitOne K (.ref t.aM) (.type "ValueError")=some true
 avB:Mj K t.aV
 su:PySem.W.kitOne K (.ref t.aV) (.ref t.bw)=some true
 lE:t.aV≠t.bw
 yL:PySem.W.kitOne K (.ref t.aV) (.ref t.bj)=some false
 yM:t.aV≠t.bj
 yN:PySem.W.kitOne K (.ref t.aV) (.ref t.aX)=some false
 yO:t.aV≠t.aX
 wu:PySem.W.kitOne K (.ref t.aV) (.ref t.aM)=some false
 wy:t.aV≠t.aM
 yP:PySem.W.kitOne K (.ref t.aV) (.ref t.aV)=some true
 uP:PySem.W.kitOne K (.ref t.aV) (.ref t.aJ)=some false
 mJ:t.aV≠t.aJ
 qO:PySem.W.kitOne K (.ref t.aV) (.type "ValueError")=some true
 arP:Mj K t.aJ
 pC:PySem.W.kitOne K (.ref t.aJ) (.ref t.bw)=some true
 pD:t.aJ≠t.bw
 uQ:PySem.W.kitOne K (.ref t.aJ) (.ref t.bj)=some false
 uR:t.aJ≠t.bj
 uT:PySem.W.kitOne K (.ref t.aJ) (.ref t.aX)=some false
 uU:t.aJ≠t.aX
 sE:PySem.W.kitOne K (.ref t.aJ) (.ref t.aM)=some false
 sG:t.aJ≠t.aM
 uV:PySem.W.kitOne K (.ref t.aJ) (.ref t.aV)=some false
 uW:t.aJ≠t.aV
 qQ:PySem.W.kitOne K (.ref t.aJ) (.ref t.aJ)=some true
 ou:PySem.W.kitOne K (.ref t.aJ) (.type "ValueError")=some true
 dG:Cls K t.bL
 adk:Mk K t.bL t.iH
 atJ:mg "Desk"=some (.ref t.bL)
 dZ:ir K t.bL "copies"
 jr:ir K t.bL "wish"
 aQ:Cls K t.aD
 Aq:Mk K t.aD t.dN
 agB:mg "PageLoans"=some (.ref t.aD)
 gh:ir K t.aD "page"
 fD:ir K t.aD "number"
 cj:ir K t.aD "writer"
 cX:ir K t.aD "readers"
 dh:ir K t.aD "asked"
 eO:ir K t.aD "awaited"
 aiZ:Cls K t.iu
 adl:Mk K t.iu t.iQ
 atL:mg "Hall"=some (.ref t.iu)
 qD:ir K t.iu "pages"
 dH:Cls K t.bA
 adm:Mk K t.bA t.iT
 atM:mg "Town"=some (.ref t.bA)
 g8:ir K t.bA "page_count"
 sW:ir K t.bA "hall"
 fQ:ir K t.bA "desks"
 gQ:ir K t.bA "roads_up"
 ie:ir K t.bA "roads_down"
 wz:ir K t.bA "row"
 ayF:jP K "_wall" "_wall" akm t.Ab t.agx
 ayG:Binds K t.agx ["k"] []
 ayH:mg "_wall"=some (.ref t.Ab)
 Mx:jP K "ask_letter" "ask_letter" zW t.iG t.xx
 adn:Binds K t.xx ["page","right"] []
 ado:mg "ask_letter"=some (.ref t.iG)
 Cg:jP K "answer_letter" "answer_letter" rA t.fH t.p8
 Ul:Binds K t.p8 ["page","number"] []
 Um:mg "answer_letter"=some (.ref t.fH)
 Iz:jP K "gave_letter" "gave_letter" xf t.gH t.uF
 aaP:Binds K t.uF ["page","number"] []
 aaQ:mg "gave_letter"=some (.ref t.gH)
 IK:jP K "lend_letter" "lend_letter" xg t.gJ t.uG
 aaR:Binds K t.uG ["page","right","number"] []
 aaS:mg "lend_letter"=some (.ref t.gJ)
 xK:jP K "back_letter" "back_letter" xj t.gK t.uH
 IV:Binds K t.uH ["page","right"] []
 IW:mg "back_letter"=some (.ref t.gK)
 FW:jP K "is_enough" "is_enough" Fi t.jh t.Ac
 Sh:Binds K t.Ac ["right","needed"] []
 Sq:mg "is_enough"=some (.ref t.jh)
 uX:jP K "right_needed" "right_needed" uq t.fY t.rF
 FZ:Binds K t.rF ["wish"] []
 Ga:mg "right_needed"=some (.ref t.fY)
 agC:jP K "__init__" "Desk.__init__" Fj t.iH t.Ad
 agD:Binds K t.Ad ["self"] []
 Uo:jP K "right_of" "Desk.right_of" rB t.eF t.qb
 iy:Binds K t.qb ["self","page"] []
 gU:Meth K t.bL "right_of" t.eF
 adp:jP K "waits" "Desk.waits" zX t.gD t.xF
 adq:Binds K t.xF ["self"] []
 aaT:Meth K t.bL "waits" t.gD
 agE:jP K "want" "Desk.want" Fl t.iI t.Ae
 Ss:Binds K t.Ae ["self","wish"] []
 My:Meth K t.bL "want" t.iI
 agF:jP K "take" "Desk.take" Fo t.iJ t.Af
 agG:Binds K t.Af ["self","letter"] []
 adt:Meth K t.bL "take" t.iJ
 agH:jP K "rest" "Desk.rest" Fp t.iK t.Ag
 agI:Binds K t.Ag ["self","page"] []
 adu:Meth K t.bL "rest" t.iK
 aaU:jP K "may_do" "Desk.may_do" xm t.fO t.uI
 Ja:Binds K t.uI ["self","wish"] []
 Gb:Meth K t.bL "may_do" t.fO
 XR:jP K "do_wish" "Desk.do_wish" ur t.eZ t.rG
 Gd:Binds K t.rG ["self","wish"] []
 Ci:Meth K t.bL "do_wish" t.eZ
 QK:jP K "take_loan" "Desk.take_loan" pX t.dM t.nR
 QL:Binds K t.nR ["self","page","right","number"] []
 Mz:Meth K t.bL "take_loan" t.dM
 XS:jP K "go_down" "Desk.go_down" ux t.fc t.rH
 XX:Binds K t.rH ["self","page","right"] []
 Uq:Meth K t.bL "go_down" t.fc
 Dl:jP K "number_to_tell" "Desk.number_to_tell" jz t.cI t.jn
 pF:Binds K t.jn ["self","page"] []
 oA:Meth K t.bL "number_to_tell" t.cI
 agJ:jP K "hold" "Desk.hold" Fq t.iM t.Ai
 wA:Binds K t.Ai ["self","page","right","number"] []
 sX:Meth K t.bL "hold" t.iM
 QM:jP K "__init__" "PageLoans.__init__" pY t.dN t.nT
 QQ:Binds K t.nT ["self","page","number"] []
 Ge:jP K "take_ask" "PageLoans.take_ask" j7 t.cP t.jC
 Gf:Binds K t.jC ["self","desk","right"] []
 Dm:Meth K t.aD "take_ask" t.cP
 yQ:jP K "take_answer" "PageLoans.take_answer" je t.cF t.iZ
 yR:Binds K t.iZ ["self","number"] []
 xM:Meth K t.aD "take_answer" t.cF
 Dp:jP K "take_gave" "PageLoans.take_gave" jA t.cJ t.jo
 Dq:Binds K t.jo ["self","desk","number"] []
 Ar:Meth K t.aD "take_gave" t.cJ
 MF:jP K "serve" "PageLoans.serve" nJ t.dq t.mq
 wB:Binds K t.mq ["self"] []
 uY:Meth K t.aD "serve" t.dq
 uZ:jP K "bids_for_first" "PageLoans.bids_for_first" gY t.bV t.gF
 u0:Binds K t.gF ["self"] []
 sY:Meth K t.aD "bids_for_first" t.bV
 QR:jP K "lend" "PageLoans.lend" pZ t.dO t.nU
 yS:Binds K t.nU ["self"] []
 wC:Meth K t.aD "lend" t.dO
 Dr:jP K "let_write" "PageLoans.let_write" jB t.cL t.jq
 Ds:Binds K t.jq ["self","desk"] []
 Av:Meth K t.aD "let_write" t.cL
 Gg:jP K "let_read" "PageLoans.let_read" j8 t.cQ t.jD
 Gh:Binds K t.jD ["self","desk"] []
 Dt:Meth K t.aD "let_read" t.cQ
 agK:jP K "__init__" "Hall.__init__" Ft t.iQ t.Aj
 agL:Binds K t.Aj ["self","numbers"] []
 agM:jP K "take" "Hall.take" Fv t.iR t.Ak
 agN:Binds K t.Ak ["self","desk","letter"] []
 adv:Meth K t.iu "take" t.iR
 agO:jP K "__init__" "Town.__init__" Fw t.iT t.Al
 agP:Binds K t.Al ["self","count","numbers"] []
 X3:jP K "do_deed" "Town.do_deed" uy t.fj t.rJ
 X4:Binds K t.rJ ["self","deed"] []
 Ur:Meth K t.bA "do_deed" t.fj
 MJ:jP K "check_desk" "Town.check_desk" nM t.dw t.my
 MK:Binds K t.my ["self","desk"] []
 JZ:Meth K t.bA "check_desk" t.dw
 MN:jP K "check_page" "Town.check_page" nO t.dB t.mz
 MP:Binds K t.mz ["self","page"] []
 J0:Meth K t.bA "check_page" t.dB
 X5:jP K "look_at" "Town.look_at" uz t.fu t.rK
 X6:Binds K t.rK ["self","desk","page"] []
 Us:Meth K t.bA "look_at" t.fu
 aaV:jP K "put_on" "Town.put_on" xn t.fP t.uJ
 aaW:Binds K t.uJ ["self","desk","page","number"] []
 X7:Meth K t.bA "put_on" t.fP
 X8:jP K "give_up" "Town.give_up" uA t.fB t.rM
 Yb:Binds K t.rM ["self","desk","page"] []
 Ut:Meth K t.bA "give_up" t.fB
 Uu:jP K "bring_up" "Town.bring_up" rC t.eG t.qg
 Uv:Binds K t.qg ["self","desk"] []
 QS:Meth K t.bA "bring_up" t.eG
 MT:jP K "bring_down" "Town.bring_down" nP t.dC t.mC
 M8:Binds K t.mC ["self","desk"] []
 J3:Meth K t.bA "bring_down" t.dC
 Il:jP K "first_letter" "Town.first_letter" lC t.cT t.j9
 sH:Binds K t.j9 ["self","road"] []
 qR:Meth K t.bA "first_letter" t.cT
 QT:jP K "carry_out" "Town.carry_out" p6 t.dR t.nY
 qt:Binds K t.nY ["self","desk","told"] []
 oE:Meth K t.bA "carry_out" t.dR
 M9:jP K "all_rights" "Town.all_rights" nQ t.dD t.mD
 Nb:Binds K t.mD ["self"] []
 J4:Meth K t.bA "all_rights" t.dD
 QV:jP K "rights_of" "Town.rights_of" p7 t.dU t.nZ
 QW:Binds K t.nZ ["self","desk"] []
 Nf:Meth K t.bA "rights_of" t.dU
 agQ:jP K "waiting_desks" "Town.waiting_desks" qI t.cW t.pA
 agR:Binds K t.pA ["self"] []
 afL:Meth K t.bA "waiting_desks" t.cW
 Su:jP K "answer_of" "answer_of" Fx t.ji t.Am
 agS:Binds K t.Am ["town","deed"] []
 agT:mg "answer_of"=some (.ref t.ji)
 Gj:jP K "rights_after" "rights_after" uB t.fZ t.rN
 Yc:Binds K t.rN ["count","numbers","deeds"] []
 Yd:mg "rights_after"=some (.ref t.fZ)
 acq:jP K "_law_whole" "_law_whole" QC t.mW t.JV
 ald:Binds K t.JV ["_law_found"] []
 ale:mg "_law_whole"=some (.ref t.mW)
 Ye:jP K "_law_at" "_law_at" aiW t.FQ t.adi
 adw:Binds K t.adi ["_law_script","_law_k"] []
 adx:mg "_law_at"=some (.ref t.FQ)
 Ng:jP K "_law_same" "_law_same" Xx t.qK t.QJ
 Yg:Binds K t.QJ ["_law_found","_law_due"] []
 Yh:mg "_law_same"=some (.ref t.qK)
 Sv:jP K "_law_town_of" "_law_town_of" Fy t.jj t.An
 agU:Binds K t.An ["_law_count","_law_numbers"] []
 agV:mg "_law_town_of"=some (.ref t.jj)
 akn:jP K "_law_bid" "_law_bid" ac7 t.vY t.XJ
 apj:Binds K t.XJ ["_law_town","_law_page"] []
 apk:mg "_law_bid"=some (.ref t.vY)
 Aw:jP K "_law_lend_out" "_law_lend_out" zY t.iU t.xG
 Nh:Binds K t.xG ["_law_town","_law_page"] []
 Ni:mg "_law_lend_out"=some (.ref t.iU)
 QX:jP K "_law_serve" "_law_serve" QD t.mX t.JW
 acr:Binds K t.JW ["_law_town","_law_page"] []
 acs:mg "_law_serve"=some (.ref t.mX)
 Sw:jP K "_law_came_up" "_law_came_up" Fz t.jl t.Ao
 agW:Binds K t.Ao ["_law_town","_law_desk"] []
 agX:mg "_law_came_up"=some (.ref t.jl)
 J5:jP K "_law_enough" "_law_enough" JP t.kh t.FT
 Yi:Binds K t.FT ["_law_right","_law_wish"] []
 Yj:mg "_law_enough"=some (.ref t.kh)
 xN:jP K "_law_fulfilled" "_law_fulfilled" xq t.gM t.uK
 Jb:Binds K t.uK ["_law_town","_law_desk","_law_wish"] []
 Jc:mg "_law_fulfilled"=some (.ref t.gM)
 Jd:jP K "_law_came_down" "_law_came_down" xr t.gO t.uL
 aaX:Binds K t.uL ["_law_town","_law_desk"] []
 aaY:mg "_law_came_down"=some (.ref t.gO)
 Gk:jP K "_law_refusal_of" "_law_refusal_of" uC t.f9 t.rO
 Yk:Binds K t.rO ["_law_town","_law_deed"] []
 Yl:mg "_law_refusal_of"=some (.ref t.f9)
 Nj:jP K "_law_answered" "_law_answered" zZ t.iV t.xH
 ady:Binds K t.xH ["_law_town","_law_deed"] []
 adz:mg "_law_answered"=some (.ref t.iV)
 Gm:jP K "_law_numbers_of" "_law_numbers_of" uD t.gb t.rP
 Ym:Binds K t.rP ["_law_cell","_law_pages"] []
 Yn:mg "_law_numbers_of"=some (.ref t.gb)
 Cj:jP K "_law_first_deeds" "_law_first_deeds" rD t.fJ t.qi
 Uw:Binds K t.qi ["_law_count","_law_cell"] []
 Ux:mg "_law_first_deeds"=some (.ref t.fJ)
 Nk:jP K "_law_asked_of" "_law_asked_of" z6 t.iW t.xJ
 adA:Binds K t.xJ ["_law_cells","_law_count","_law_pages"] []
 adB:mg "_law_asked_of"=some (.ref t.iW)
 acu:jP K "_law_alone" "_law_alone" QF t.mY t.JX
 alf:Binds K t.JX ["_law_rights","_law_page"] []
 alg:mg "_law_alone"=some (.ref t.mY)
 awK:jP K "law" "law" am2 t.XM t.aiY
 aBu:Binds K t.aiY ["_law_script"] []
 aBv:mg "law"=some (.ref t.XM)
 QZ:∃u,mg "NONE"=some (.str "none" u)
 ai0:∃u,mg "READ"=some (.str "read" u)
 WN:∃u,mg "WRITE"=some (.str "write" u)
 ako:mg "RANKS"=some (.ref t.sV)
 akp:KDict K w t.sV [("none",V.int 0),("read",V.int 1),("write",V.int 2)]
 am3:∃u,mg "DONE"=some (.str "done" u)
 akq:∃u,mg "WAITS"=some (.str "waits" u)
 yU:mg "len"=none
 agY:mg "enumerate"=none
 lr:mg "range"=none
 fU:mg "isinstance"=none
 Nm:mg "int"=none
 atN:mg "bool"=none
 Gn:mg "list"=none
 adC:mg "tuple"=none
 arQ:mg "str"=none
theorem agZ(r:Rt):([("none",V.int 0),("read",V.int 1),("write",V.int 2)]:List (Str×V)).lookup r.s=some (.int r.k):=by cases r<;>rfl
theorem alh{kvs:List (Key×V)}{k j:Key}:fW (yj kvs k) j=if j=k then none else fW kvs j:=by
 induction kvs with
 | nil=>simp[yj,fW]
 | cons p r ih =>
   by_cases e:p.1=k
   ·rw[ak2 e,ih]
    by_cases ej:j=k
    ·rw[if_pos ej,if_pos ej]
    ·rw[if_neg ej,if_neg ej]
     have:p.1≠j:=λz=>ej (z.symm.trans e)
     simp[fW,List.find?_cons,this]
   ·rw[ak3 e]
    by_cases ej:j=k
    ·rw[if_pos ej]
     subst ej
     rw[if_pos rfl]at ih
     simp only[fW,List.find?_cons,e,decide_false]at ih ⊢
     exact ih
    ·rw[if_neg ej]at ih ⊢
     by_cases ep:p.1=j
     ·simp[fW,List.find?_cons,ep]
     ·simp only[fW,List.find?_cons,ep,decide_false]at ih ⊢
      exact ih
section
variable{P:Program}{w:World}{K:PySem.W.Frag}{mg:Str->Option Value}{base:Heap}{t:JT}
theorem aaZ(T:Txt K w mg t):cZ P w K mg base oY 1 t.iG t.xx ["page","right"] (agg "ask"):=by
 refine T.Mx.ok aaN (λvs H Q E h=>?_) (λcdv A outer s H vs Q E hr h=>?_)
 ·obtain⟨x,y,rfl,_⟩:=h;rfl
 ·obtain⟨x,y,rfl,k⟩:=h
  refine⟨_,(aB (bf (cu (aa aC (aa (pv 0) (aa (pv 1) ao)))))),?_⟩
  try dsimp only[dm,Cx.lu]
  exact⟨_,rfl,_,rfl,zz3,λa ha=>k a ha⟩
theorem Q0(T:Txt K w mg t):cZ P w K mg base oY 1 t.fH t.p8 ["page","number"] (agg "answer"):=by
 refine T.Cg.ok QG (λvs H Q E h=>?_) (λcdv A outer s H vs Q E hr h=>?_)
 ·obtain⟨x,y,rfl,_⟩:=h;rfl
 ·obtain⟨x,y,rfl,k⟩:=h
  refine⟨_,(aB (bf (cu (aa aC (aa (pv 0) (aa (pv 1) ao)))))),?_⟩
  try dsimp only[dm,Cx.lu]
  exact⟨_,rfl,_,rfl,zz3,λa ha=>k a ha⟩
theorem Yo(T:Txt K w mg t):cZ P w K mg base oY 1 t.gH t.uF ["page","number"] (agg "gave"):=by
 refine T.Iz.ok Xy (λvs H Q E h=>?_) (λcdv A outer s H vs Q E hr h=>?_)
 ·obtain⟨x,y,rfl,_⟩:=h;rfl
 ·obtain⟨x,y,rfl,k⟩:=h
  refine⟨_,(aB (bf (cu (aa aC (aa (pv 0) (aa (pv 1) ao)))))),?_⟩
  try dsimp only[dm,Cx.lu]
  exact⟨_,rfl,_,rfl,zz3,λa ha=>k a ha⟩
theorem Np(T:Txt K w mg t):cZ P w K mg base oY 1 t.jh t.Ac ["right","needed"] amF:=by
 refine T.FW.ok ac8 (λvs H Q E h=>?_) (λcdv A outer s H vs Q E hr h=>?_)
 ·obtain⟨x,y,rfl,_⟩:=h;rfl
 ·obtain⟨r,n,rfl,k⟩:=h
  refine⟨_,(aB (bf (kO W2 (aj4 (by rfl) T.ako T.akp (pv 0) (λ_ _=>rfl)) (aj4 (by rfl) T.ako T.akp (pv 1) (λ_ _=>rfl)) (bu _)))),?_⟩
  try dsimp only[dm,Cx.lu]
  exact⟨_,rfl,_,_,rfl,agZ r,_,rfl,_,_,rfl,agZ n,_,_,rfl,rfl,k⟩
theorem Ck(T:Txt K w mg t):cZ P w K mg base oY 1 t.fY t.rF ["wish"] (as3 K):=by
 refine T.uX.ok Uj (λvs H Q E h=>?_) (λcdv A outer s H vs Q E hr h=>?_)
 ·obtain⟨x,y,rfl,_⟩:=h;rfl
 ·obtain⟨a,w,rfl,ha,k⟩:=h
  refine⟨_,(aB (bf (qF (aU cR (aO bC (pv 0) aA (λ_ _=>rfl)) aC (bu _)) (iC (by rfl) T.WN) (iC (by rfl) T.ai0)))),?_⟩
  try dsimp only[dm,Cx.lu]
  cases w with
  | look p =>
    refine zt rfl (dF.of ha) rfl ⟨rfl,_,rfl,?_⟩
    rw[dj (by decide +kernel)]
    exact w6 k
  | put p n =>
    refine zt rfl (dF.of ha) rfl ⟨rfl,_,rfl,?_⟩
    rw[fK]
    exact pQ k
theorem adD(T:Txt K w mg t):cZ P w K mg base oY 1 t.iH t.Ad ["self"] (as4 t.bL):=by
 refine T.agC.ok ac9 (λvs H Q E h=>?_) (λcdv A outer s H vs Q E hr h=>?_)
 ·obtain⟨x,y,rfl,_⟩:=h;rfl
 ·obtain⟨p,dx,rfl,hp,k⟩:=h
  refine⟨_,(ak (gA (pv 0) amo (by rfl))
   (aB (gA (pv 0) tX (by rfl)))),?_⟩
  try dsimp only[dm,Cx.lu]
  show let Z1:L2.TS:=_;let Z2:L2.TS:=_;let D0:Ends:=_;(aR Z1 (Z2)) D0 _ _
  intro Z1 Z2 D0
  intro d hd
  have npd:p≠d:=aF hp hd
  refine⟨_,rfl,p,t.bL,dx,[],rfl,(by rw[aq npd];exact hp),T.dG,T.dZ,(by show 0<1000;decide),_,rfl,p,t.bL,dx,_,rfl,aj,T.dG,T.jr,(by show 1<1000;decide),?_⟩
  refine k d _ hd ⟨⟨dx,.non,aj,rfl⟩,⟨[],by rw[aq npd.symm,aq npd.symm,aj],Nat.le_refl _,λn=>rfl⟩⟩ λb o e hb=>?_
  rw[aq hb,aq hb,aq (aF e hd)]
  exact e
theorem gW(T:Txt K w mg t):cZ P w K mg base oY 1 t.eF t.qb ["self","page"] (ao2 t.bL):=by
 refine T.Uo.ok QH (λvs H Q E h=>?_) (λcdv A outer s H vs Q E hr h=>?_)
 ·obtain⟨p,d,S,c,n,rfl,_⟩:=h;rfl
 ·obtain⟨p,d,S,c,n,rfl,DA,k⟩:=h
  have hu:=lG hr
  obtain⟨⟨dx,v,h1,_⟩,⟨kvs,h2,h3,h4⟩⟩:=id DA
  refine⟨_,(aB (bf (qF (wX (asG hu (pv 1) (cM (pv 0) (by rfl)))) (aO bC (bH hu (cM (pv 0) (by rfl)) (pv 1) (λ_ _=>rfl)) aA (λ_ _=>rfl)) (iC (by rfl) T.QZ)))),?_⟩
  try dsimp only[dm,Cx.lu]
  refine⟨_,rfl,_,rfl,p,_,dx,_,_,rfl,h1,T.dG,T.dZ,jV _ _,d,_,rfl,Ij.k (k:=Sum.inl n) h2,_,rfl,?_⟩
  have h5:=h4 n
  unfold ue at h5
  split at h5
  ·rename_i e
   rw[h5]
   refine w6 ?_
   rw[e]at k
   exact k
  ·rename_i e
   obtain⟨tt,e1,e2⟩:=h5
   rw[e1]
   refine pQ ?_
   exact⟨_,rfl,p,_,dx,_,_,rfl,h1,T.dG,T.dZ,jV _ _,_,rfl,d,.ref tt,rfl,(by rw[<-e1];exact Ij.k (k:=Sum.inl n) h2),tt,_,0,_,rfl,rfl,dF.of e2,rfl,k⟩
theorem W.at1(w:W):Qu w.vs 1=some (.int w.pg):=by cases w<;>rfl
theorem W.at0(w:W):Qu w.vs 0=some (.str w.tag):=by cases w<;>rfl
theorem Gp(T:Txt K w mg t):cZ P w K mg base oY 2 t.fO t.uI ["self","wish"] (awx t.bL):=by
 refine T.aaU.ok XD (λvs H Q E h=>?_) (λcdv A outer s H vs Q E hr h=>?_)
 ·obtain⟨p,d,S,c,a,w,rfl,_⟩:=h;rfl
 ·obtain⟨p,d,S,c,a,w,rfl,DA,ha,k⟩:=h
  have hu:=lG hr
  obtain⟨⟨dx,v,h1,_⟩,_⟩:=id DA
  refine⟨_,(aB (bf (cH (Np T) (hr.mono (by decide):bR 1 _) (by rfl) T.Sq T.FW.kp T.Sh .nil bW (aa (cC (pv 0) T.dG T.gU (gW T) (hr.mono (by decide):bR 1 _) T.iy .nil bW (aa (aO bC (pv 1) aA (λ_ _=>rfl)) ao)) (aa (cH (Ck T) (hr.mono (by decide):bR 1 _) (by rfl) T.Ga T.uX.kp T.FZ .nil bW (aa (pv 1) ao)) ao))))),?_⟩
  try dsimp only[dm,Cx.lu]
  exact⟨_,rfl,p,dx,_,rfl,h1,eX _ _ (by decide +kernel) (by decide +kernel),zt rfl (dF.of ha) (W.at1 w) ⟨p,d,S,c,w.pg,rfl,DA,_,rfl,a,w,rfl,ha,S.rt w.pg,w.need,rfl,k⟩⟩
theorem oF(T:Txt K w mg t):cZ P w K mg base oY 2 t.cI t.jn ["self","page"] (as5 t.bL):=by
 refine T.Dl.ok z7 (λvs H Q E h=>?_) (λcdv A outer s H vs Q E hr h=>?_)
 ·obtain⟨p,d,S,c,n,rfl,_⟩:=h;rfl
 ·obtain⟨p,d,S,c,n,rfl,DA,k⟩:=h
  have hu:=lG hr
  obtain⟨⟨dx,v,h1,_⟩,⟨kvs,h2,h3,h4⟩⟩:=id DA
  refine⟨_,(aB (bf (qF (aU cR (cC (pv 0) T.dG T.gU (gW T) (hr.mono (by decide):bR 1 _) T.iy .nil bW (aa (pv 1) ao)) (iC (by rfl) T.WN) (bu _)) (aO bC (bH hu (cM (pv 0) (by rfl)) (pv 1) (λ_ _=>rfl)) aA (λ_ _=>rfl)) tX))),?_⟩
  try dsimp only[dm,Cx.lu]
  refine⟨_,rfl,p,dx,_,rfl,h1,eX _ _ (by decide +kernel) (by decide +kernel),_,rfl,p,d,S,c,n,rfl,DA,rfl,_,rfl,?_⟩
  unfold DS.tell at k
  by_cases e:S.rt n=.wr
  ·have h5:=h4 n
   unfold ue at h5
   rw[e,if_neg (by intro z;cases z)]at h5
   rw[if_pos e]at k
   rw[e]
   obtain⟨tt,e1,e2⟩:=h5
   refine pQ ?_
   exact⟨_,rfl,p,_,dx,_,_,rfl,h1,T.dG,T.dZ,jV _ _,_,rfl,d,.ref tt,rfl,(by rw[<-e1];exact Ij.k (k:=Sum.inl n) h2),tt,_,1,_,rfl,rfl,dF.of e2,rfl,k⟩
  ·rw[if_neg e]at k
   exact aP (oZ (x:="write") (q:=.wr) rfl e) k
theorem sZ(T:Txt K w mg t):cZ P w K mg base oY 1 t.iM t.Ai ["self","page","right","number"] (as6 t.bL):=by
 refine T.agJ.ok ade (λvs H Q E h=>?_) (λcdv A outer s H vs Q E hr h=>?_)
 ·obtain⟨p,d,S,c,n,r,k,v,rfl,_⟩:=h;rfl
 ·obtain⟨p,d,S,c,n,r,z,v,rfl,DA,hc,hv,k⟩:=h
  have hu:=lG hr
  have npd:=DA.npd
  obtain⟨⟨dx,u,h1,hw⟩,⟨kvs,h2,h3,h4⟩⟩:=id DA
  refine⟨_,(aB (b8 (aU cR (pv 2) (iC (by rfl) T.QZ) (bu _)) (aB (bM (amq (cM (pv 0) (by rfl)) (pv 1) tX ⟨rfl,rfl,rfl,rfl⟩))) (aB (lQ hu (cM (pv 0) (by rfl)) (pv 1) (cu (aa (pv 2) (aa (pv 3) ao))) (by rfl))))),?_⟩
  try dsimp only[dm,Cx.lu]
  show let Z1:L2.TS:=_;let Z2:L2.TS:=_;let Z3:L2.TS:=di _ Z1 Z2;let D0:Ends:=_;(Z3) D0 _ _
  intro Z1 Z2 Z3 D0
  refine⟨_,rfl,rfl,_,rfl,?_⟩
  by_cases e:r=.no
  ·subst e
   refine pQ ?_
   have fin:∀kvs',kvs'.length<=c->(∀j:Int,fW kvs' (Sum.inl j:Key)=if(Sum.inl j:Key)=Sum.inl n then none else fW kvs (Sum.inl j:Key))->Q V.non (upd H d (.dK kvs')):=λkvs' hl hval=>by
    have ts:cg H (upd H d (.dK kvs')):=λb xs e=>by rw[aq (ju e h2 (by intro z;cases z))];exact e
    refine k _ ⟨⟨dx,u,by rw[aq npd];exact h1,hw.aZ ts⟩,⟨kvs',aj,Nat.le_succ_of_le hl,λj=>?_⟩⟩ λb o e hp hd=>by rw[aq hd];exact e
    rw[hval j]
    by_cases ej:j=n
    ·subst ej
     rw[DS.qC,DS.vL,if_pos rfl]
     unfold ue
     rw[if_pos rfl]
    ·have:=(h4 j).aZ ts
     rw[if_neg (λz=>ej (Sum.inl.inj z)),DS.qG _ _ _ ej,DS.qH _ _ _ ej]
     exact this
   refine⟨_,rfl,p,_,dx,_,_,rfl,h1,T.dG,T.dZ,jV _ _,d,rfl,.inl ⟨kvs,.inl h2⟩,_,rfl,kvs,Sum.inl n,h2,rfl,λv' hv'=>?_,λhn=>?_⟩
   ·exact fin _ (Nat.le_trans (af2 _ _) h3) λj=>alh
   ·have q:=fin kvs h3 λj=>by
     by_cases ej:(Sum.inl j:Key)=Sum.inl n
     ·rw[if_pos ej,ej];exact hn
     ·rw[if_neg ej]
    have eq:upd H d (.dK kvs)=H:=by
     funext b
     by_cases hb:b=d
     ·rw[hb,aj,h2]
     ·rw[aq hb]
    rw[eq]at q
    exact q
  ·refine aP (oZ (x:="none") (q:=.no) rfl e) ?_
   have hv':v=.int z:=hv.resolve_left e
   subst hv'
   refine⟨_,rfl,_,rfl,vC,λtt htt=>?_⟩
   have ntd:d≠tt:=aF h2 htt
   have ntp:p≠tt:=aF h1 htt
   refine⟨_,rfl,p,_,dx,_,_,rfl,(by rw[aq ntp];exact h1),T.dG,T.dZ,jV _ _,_,rfl,d,_,rfl,aiA.k (k:=Sum.inl n) (by rw[aq ntd];exact h2) (Nat.lt_of_le_of_lt (Nat.le_trans h3 hc) (by decide)),?_⟩
   have ts:cg H (upd (upd H tt (.tup [.str r.s,.int z])) d (.dK (putK kvs (Sum.inl n) (.ref tt)))):=λb xs e=>by
    rw[aq (ju e h2 (by intro z;cases z)),aq (aF e htt)]
    exact e
   refine k _ ⟨⟨dx,u,by rw[aq npd,aq ntp];exact h1,hw.aZ ts⟩,⟨_,aj,Nat.le_trans (vJ _ _ _) (Nat.succ_le_succ h3),λj=>?_⟩⟩ λb o e hp hd=>by rw[aq hd,aq (aF e htt)];exact e
   rw[amm]
   by_cases ej:j=n
   ·subst ej
    rw[DS.qC,DS.vL,if_pos rfl]
    unfold ue
    rw[if_neg e]
    exact⟨tt,rfl,by rw[aq ntd.symm,aj]⟩
   ·have:=(h4 j).aZ ts
    rw[if_neg (λz=>ej (Sum.inl.inj z)),DS.qG _ _ _ ej,DS.qH _ _ _ ej]
    exact this
theorem cz.new{C:Addr}{H:Hp}{p d a:Addr}{o:HO}{S:DS}{c:Nat}(D:cz C H p d S c)(h:H a=none):cz C (upd H a o) p d S c:=D.same (az h)
theorem cz.copy{C:Addr}{H:Hp}{p d:Addr}{S:DS}{c:Nat}(D:cz C H p d S c){n:Int}(h:S.rt n≠.no):∃kvs tt,H d=some (.dK kvs)/\fW kvs (Sum.inl n:Key)=some (.ref tt)/\H tt=some (.tup [.str (S.rt n).s,.int (S.nm n)]):=by
 obtain⟨_,⟨kvs,h2,_,h4⟩⟩:=D
 have h5:=h4 n
 unfold ue at h5
 rw[if_neg h]at h5
 obtain⟨tt,e1,e2⟩:=h5
 exact⟨kvs,tt,h2,e1,e2⟩
theorem DS.awL{S:DS}{w:W}(h:S.ok w):S.rt w.pg≠.no:=λe=>by
 unfold DS.ok at h
 rw[e]at h
 cases w<;>simp[W.need,Rt.k]at h
theorem DS.apl(S:DS)(w:W)(q:Int):(S.done w).rt q=S.rt q:=by
 cases w with
 | look p=>rfl
 | put p n=>show(if q=p then S.rt p else S.rt q)=S.rt q;split<;>simp_all
theorem DS.apm(S:DS)(w:W):(S.done w).nm w.pg=S.num w:=by
 cases w with
 | look p=>rfl
 | put p n=>show(if p=p then n else S.nm p)=n;rw[if_pos rfl]
theorem Cm(T:Txt K w mg t):cZ P w K mg base oY 2 t.eZ t.rG ["self","wish"] (azO t.bL):=by
 refine T.XR.ok BZ (λvs H Q E h=>?_) (λcdv A outer s H vs Q E hr h=>?_)
 ·obtain⟨p,d,S,c,a,w,rfl,_⟩:=h;rfl
 ·obtain⟨p,d,S,c,a,w,rfl,DA,hc,ha,hok,k⟩:=h
  have hu:=lG hr
  obtain⟨⟨dx,v,h1,_⟩,_⟩:=id DA
  refine⟨_,(ak (bz (i:=2) BZ.nd rfl (Or.inl rfl) (aO bC (pv 1) aA (λ_ _=>rfl)))
   (ak (b8 (aU cR (aO bC (pv 1) aA (λ_ _=>rfl)) aC (bu _)) (aB (bM (cC (pv 0) T.dG T.sX (sZ T) (hr.mono (by decide):bR 1 _) T.wA .nil bW (aa (pv 2) (aa (cC (pv 0) T.dG T.gU (gW T) (hr.mono (by decide):bR 1 _) T.iy .nil bW (aa (pv 2) ao)) (aa (aO bC (pv 1) aA (λ_ _=>rfl)) ao)))))) bD)
   (aB (bf (cu (aa (aO bC (pv 1) aA (λ_ _=>rfl)) (aa (pv 2) (aa (aO bC (bH hu (cM (pv 0) (by rfl)) (pv 2) (λ_ _=>rfl)) aA (λ_ _=>rfl)) ao)))))))),?_⟩
  try dsimp only[dm,Cx.lu]
  show let Z1:L2.TS:=_;let Z2:L2.TS:=_;let Z3:L2.TS:=di _ Z2 bN;let Z4:L2.TS:=_;let D0:Ends:=_;(aR Z1 (aR Z3 (Z4))) D0 _ _
  intro Z1 Z2 Z3 Z4 D0
  refine zt rfl (dF.of ha) (W.at1 w) (zt rfl (dF.of ha) (W.at0 w) ⟨rfl,_,rfl,?_⟩)
  have fin:∀H1:Hp,cz t.bL H1 p d (S.done w) (c+1)->DF H H1 p d->
   (asj (amc (mO (W0 (aiv K) (jm 1) (tC (.int 0))) (mO (jm 2) (mO (W0 (aiv K) (Xa (acV K (jm 0) "copies") (jm 2)) (tC (.int 1))) Ii)))))
     {nx:=λ_ H'=>Q .non H',rt:=Q} [some (.ref p),some (.ref a),some (.int w.pg)] H1:=λH1 D1 f1=>by
   have ha1:=(f1.tups DA) a _ ha
   obtain⟨⟨yg,v1,g1,_⟩,_⟩:=id D1
   have hno:(S.done w).rt w.pg≠.no:=by rw[DS.apl];exact DS.awL hok
   obtain⟨kvs,tt,h2,e1,e2⟩:=D1.copy hno
   refine zt rfl (dF.of ha1) (W.at0 w) ⟨_,rfl,_,rfl,p,_,yg,_,_,rfl,g1,T.dG,T.dZ,jV _ _,_,rfl,d,.ref tt,rfl,(by rw[<-e1];exact Ij.k (k:=Sum.inl w.pg) h2),tt,_,1,.int (S.num w),rfl,rfl,dF.of e2,(by rw[DS.apm];rfl),zz3,λu hu=>?_⟩
   exact k u _ (D1.new hu) (f1.trans (DF.new hu)) aj
  cases w with
  | look q =>
    refine aP (dj (show("look":Str)≠"put" by decide +kernel)) ?_
    exact fin H (DA.mono (Nat.le_succ _)) (DF.refl _ _ _)
  | put q n =>
    refine bI fK ?_
    refine⟨_,rfl,p,dx,_,rfl,h1,eX _ _ (by decide +kernel) (by decide +kernel),_,rfl,_,rfl,p,dx,_,rfl,h1,eX _ _ (by decide +kernel) (by decide +kernel),_,rfl,p,d,S,c,q,rfl,DA,zt rfl (dF.of ha) rfl ⟨p,d,S,c,q,S.rt q,n,.int n,rfl,DA,hc,.inr rfl,λH1 D1 f1=>?_⟩⟩
    exact fin H1 D1 f1
theorem Nq(T:Txt K w mg t):cZ P w K mg base oY 3 t.dM t.nR ["self","page","right","number"] (as7 t.bL):=by
 refine T.QK.ok vW (λvs H Q E h=>?_) (λcdv A outer s H vs Q E hr h=>?_)
 ·obtain⟨p,d,S,c,n,r,z,rfl,_⟩:=h;rfl
 ·obtain⟨p,d,S,c,n,r,z,rfl,DA,hc,k⟩:=h
  have hu:=lG hr
  obtain⟨⟨dx,v,h1,_⟩,_⟩:=id DA
  refine⟨_,(ak (bM (cC (pv 0) T.dG T.sX (sZ T) (hr.mono (by decide):bR 1 _) T.wA .nil bW (aa (pv 1) (aa (pv 2) (aa (pv 3) ao)))))
   (ak (bz (i:=4) vW.nd rfl (Or.inl rfl) (cM (pv 0) (by rfl)))
   (ak (b8 (PW.pt (vH (wX (aii (pv 4))) (vH (aU BR (aO bC (pv 4) aA (λ_ _=>rfl)) (pv 1) (bu _)) (pP (wY (lW (cC (pv 0) T.dG T.Gb (Gp T) (hr.mono (by decide):bR 2 _) T.Ja .nil bW (aa (pv 4) ao)))))))) (aB (bf (bO ao))) bD)
   (ak (gA (pv 0) tX (by rfl))
   (aB (bf (bO (aa (cC (pv 0) T.dG T.Ci (Cm T) (hr.mono (by decide):bR 2 _) T.Gd .nil bW (aa (pv 4) ao)) ao)))))))),?_⟩
  try dsimp only[dm,Cx.lu]
  show let Z1:L2.TS:=_;let Z2:L2.TS:=_;let Z3:L2.TS:=_;let Z4:L2.TS:=di _ Z3 bN;let Z5:L2.TS:=_;let Z6:L2.TS:=_;let D0:Ends:=_;(aR Z1 (aR Z2 (aR Z4 (aR Z5 (Z6))))) D0 _ _
  intro Z1 Z2 Z3 Z4 Z5 Z6 D0
  refine⟨_,rfl,p,dx,_,rfl,h1,eX _ _ (by decide +kernel) (by decide +kernel),_,rfl,_,rfl,_,rfl,p,d,S,c,n,r,z,.int z,rfl,DA,by lia,.inr rfl,λH1 D1 f1=>?_⟩
  obtain⟨⟨yg,v1,g1,gw⟩,⟨azV,g2,g3,g4⟩⟩:=id D1
  have npd:=D1.npd
  refine⟨_,rfl,p,_,yg,_,_,rfl,g1,T.dG,T.jr,acf _ _,?_⟩
  have gw':ud H1 v1 S.ws:=gw
  have none_:(S.gC n r z).2=[]->(S.gC n r z).1=S.hold n r z->∀l,H1 l=none->Q (.ref l) (upd H1 l (.lst [])):=λe1 e2 l hl=>by
   refine k _ _ ?_ (f1.trans (DF.new hl)) ?_
   ·rw[e2];exact(D1.new hl).mono (Nat.le_succ _)
   ·rw[e1];exact jW ((f1.kept DA D1).free hl) hl (by simp only[aH])
  cases hws:S.ws with
  | none =>
    rw[hws]at gw'
    have ev:v1=.non:=gw'
    subst ev
    have e:S.gC n r z=(S.hold n r z,[]):=by unfold DS.gC;rw[hws]
    refine⟨_,rfl,_,rfl,?_⟩
    refine bI rfl (pQ ?_)
    exact⟨Dg,λl hl=>none_ (by rw[e]) (by rw[e]) l hl⟩
  | some w =>
    rw[hws]at gw'
    obtain⟨a,ev,ha⟩:=gw'
    subst ev
    refine⟨_,rfl,_,rfl,?_⟩
    refine aP (decide_eq_false λz=>by cases z) ?_
    refine zt rfl (dF.of ha) (W.at1 w) ⟨_,rfl,rfl,_,rfl,?_⟩
    by_cases epg:w.pg=n
    ·refine aP (by rw[epg];simp) ?_
     refine⟨_,rfl,p,yg,_,rfl,g1,eX _ _ (by decide +kernel) (by decide +kernel),_,rfl,p,d,_,_,a,w,rfl,D1,ha,_,rfl,?_⟩
     by_cases hok:(S.hold n r z).ok w
     ·refine aP (by rw[decide_eq_true hok];rfl) ?_
      refine⟨_,rfl,p,_,yg,_,rfl,g1,T.dG,T.jr,(by rw[agf];show 2<1000;decide),?_⟩
      rw[age]
      have D2:cz t.bL (upd H1 p (.ins t.bL yg (Di d .non))) p d ({S.hold n r z with ws:=none}) (c+1):=by
       have ts:cg H1 (upd H1 p (.ins t.bL yg (Di d .non))):=λb xs e=>by rw[aq (ju e g1 (by intro z;cases z))];exact e
       exact⟨⟨yg,.non,aj,rfl⟩,⟨azV,by rw[aq npd.symm];exact g2,g3,λj=>(g4 j).aZ ts⟩⟩
      have f2:DF H1 (upd H1 p (.ins t.bL yg (Di d .non))) p d:=λb o e hp hd=>by rw[aq hp];exact e
      have ha2:=(f2.tups D1) a _ ha
      obtain⟨⟨dx2,v2,k1,_⟩,_⟩:=id D2
      refine⟨_,rfl,p,dx2,_,rfl,k1,eX _ _ (by decide +kernel) (by decide +kernel),_,rfl,p,d,_,_,a,w,rfl,D2,by lia,ha2,hok,λu H3 D3 f3 hu3=>?_⟩
      refine⟨zz1,λl hl=>?_⟩
      have e:S.gC n r z=(({S.hold n r z with ws:=none}:DS).done w,[.t [.s w.tag,.i w.pg,.i ((S.hold n r z).num w)]]):=by
       unfold DS.gC
       rw[hws]
       dsimp only
       rw[if_pos ⟨epg,hok⟩]
      refine k _ _ ?_ ((f1.trans f2).trans (f3.trans (DF.new hl))) ?_
      ·rw[e];exact D3.new hl
      ·rw[e]
       have k3:=((f1.trans f2).trans f3).kept DA D3
       refine jW (k3.free hl) hl ?_
       simp only[aH,Rep]
       refine⟨_,_,rfl,⟨u,_,rfl,Xg hu3 (k3.tup hu3),_,_,rfl,rfl,_,_,rfl,rfl,_,_,rfl,?_,rfl⟩,rfl⟩
       cases w<;>rfl
     ·refine bI (by rw[decide_eq_false hok];rfl) ?_
      have e:S.gC n r z=(S.hold n r z,[]):=by
       unfold DS.gC
       rw[hws]
       dsimp only
       rw[if_neg λq=>hok q.2]
      exact⟨Dg,λl hl=>none_ (by rw[e]) (by rw[e]) l hl⟩
    ·refine bI (by rw[decide_eq_false λz=>epg (V.int.inj z)];rfl) (pQ ?_)
     have e:S.gC n r z=(S.hold n r z,[]):=by
      unfold DS.gC
      rw[hws]
      dsimp only
      rw[if_neg λq=>epg q.1]
     exact⟨Dg,λl hl=>none_ (by rw[e]) (by rw[e]) l hl⟩
theorem am4(H:Hp)(S:DS)(n:Int):Rep H (S.tell n) (Xh (S.tell n)):=by
 unfold DS.tell
 split<;>simp[Rep,Xh]
theorem Uy(T:Txt K w mg t):cZ P w K mg base oY 3 t.fc t.rH ["self","page","right"] (as8 t.bL):=by
 refine T.XS.ok Ca (λvs H Q E h=>?_) (λcdv A outer s H vs Q E hr h=>?_)
 ·obtain⟨p,d,S,c,n,r,rfl,_⟩:=h;rfl
 ·obtain⟨p,d,S,c,n,r,rfl,DA,hc,k⟩:=h
  have hu:=lG hr
  obtain⟨⟨dx,v,h1,_⟩,_⟩:=id DA
  refine⟨_,(ak (bz (i:=3) Ca.nd rfl (Or.inl rfl) (cC (pv 0) T.dG T.oA (oF T) (hr.mono (by decide):bR 2 _) T.pF .nil bW (aa (pv 1) ao)))
   (ak (b8 (wY (lW (cH (Np T) (hr.mono (by decide):bR 1 _) (by rfl) T.Sq T.FW.kp T.Sh .nil bW (aa (pv 2) (aa (cC (pv 0) T.dG T.gU (gW T) (hr.mono (by decide):bR 1 _) T.iy .nil bW (aa (pv 1) ao)) ao))))) (aB (bM (cC (pv 0) T.dG T.sX (sZ T) (hr.mono (by decide):bR 1 _) T.wA .nil bW (aa (pv 1) (aa (pv 2) (aa (aO bC (bH hu (cM (pv 0) (by rfl)) (pv 1) (λ_ _=>rfl)) aA (λ_ _=>rfl)) ao)))))) bD)
   (aB (bf (cH (Q0 T) (hr.mono (by decide):bR 1 _) (by rfl) T.Um T.Cg.kp T.Ul .nil bW (aa (pv 1) (aa (pv 3) ao))))))),?_⟩
  try dsimp only[dm,Cx.lu]
  show let Z1:L2.TS:=_;let Z2:L2.TS:=_;let Z3:L2.TS:=di _ Z2 bN;let Z4:L2.TS:=_;let D0:Ends:=_;(aR Z1 (aR Z3 (Z4))) D0 _ _
  intro Z1 Z2 Z3 Z4 D0
  refine⟨_,rfl,p,dx,_,rfl,h1,eX _ _ (by decide +kernel) (by decide +kernel),_,rfl,p,d,S,c,n,rfl,DA,?_⟩
  refine⟨_,rfl,_,rfl,p,dx,_,rfl,h1,eX _ _ (by decide +kernel) (by decide +kernel),_,rfl,p,d,S,c,n,rfl,DA,r,S.rt n,rfl,_,rfl,?_⟩
  have fin:∀H1:Hp,cz t.bL H1 p d (S.down n r) (c+1)->DF H H1 p d->∀a,H1 a=none->Q (.ref a) (upd H1 a (.tup [.str "answer",.int n,S.tell n])):=λH1 D1 f1 a ha=>by
   refine k _ _ ((D1.new ha).mono (Nat.le_succ _)) (f1.trans (DF.new ha)) (ao1 ha ?_)
   simp only[aH]
   exact⟨_,_,rfl,by simp only[Rep],_,_,rfl,by simp only[Rep],_,_,rfl,am4 _ _ _,rfl⟩
  by_cases e:(S.rt n).k<=r.k
  ·refine aP (by rw[decide_eq_true e];rfl) ?_
   exact⟨_,rfl,_,rfl,_,_,rfl,fin H (by unfold DS.down;rw[if_pos e];exact DA.mono (Nat.le_succ _)) (DF.refl _ _ _)⟩
  ·refine bI (by rw[decide_eq_false e];rfl) ?_
   have hno:S.rt n≠.no:=λz=>by rw[z]at e;cases r<;>simp[Rt.k]at e
   obtain⟨kvs,tt,h2,e1,e2⟩:=DA.copy hno
   refine⟨_,rfl,p,dx,_,rfl,h1,eX _ _ (by decide +kernel) (by decide +kernel),_,rfl,_,rfl,_,rfl,p,_,dx,_,_,rfl,h1,T.dG,T.dZ,jV _ _,_,rfl,d,.ref tt,rfl,(by rw[<-e1];exact Ij.k (k:=Sum.inl n) h2),tt,_,1,_,rfl,rfl,dF.of e2,rfl,p,d,S,c,n,r,S.nm n,.int (S.nm n),rfl,DA,by lia,.inr rfl,λH1 D1 f1=>?_⟩
   exact⟨_,rfl,_,rfl,_,_,rfl,fin H1 (by unfold DS.down;rw[if_neg e];exact D1) f1⟩
theorem adE(T:Txt K w mg t):cZ P w K mg base oY 4 t.iJ t.Af ["self","letter"] (as9 t.bL):=by
 refine T.agF.ok adb (λvs H Q E h=>?_) (λcdv A outer s H vs Q E hr h=>?_)
 ·obtain⟨p,d,S,c,a,l,rfl,_⟩:=h;rfl
 ·obtain⟨p,d,S,c,a,l,rfl,DA,hc,ha,k⟩:=h
  have hu:=lG hr
  obtain⟨⟨dx,v,h1,_⟩,_⟩:=id DA
  refine⟨_,(ak (b8 (aU cR (aO bC (pv 1) aA (λ_ _=>rfl)) aC (bu _)) (aB (bf (cu (aa (cC (pv 0) T.dG T.Mz (Nq T) (hr.mono (by decide):bR 3 _) T.QL .nil bW (aa (aO bC (pv 1) aA (λ_ _=>rfl)) (aa (aO bC (pv 1) aA (λ_ _=>rfl)) (aa (aO bC (pv 1) aA (λ_ _=>rfl)) ao)))) (aa (bO ao) ao))))) bD)
   (aB (bf (cu (aa (bO ao) (aa (bO (aa (cC (pv 0) T.dG T.Uq (Uy T) (hr.mono (by decide):bR 3 _) T.XX .nil bW (aa (aO bC (pv 1) aA (λ_ _=>rfl)) (aa (aO bC (pv 1) aA (λ_ _=>rfl)) ao))) ao)) ao)))))),?_⟩
  try dsimp only[dm,Cx.lu]
  show let Z1:L2.TS:=_;let Z2:L2.TS:=di _ Z1 bN;let Z3:L2.TS:=_;let D0:Ends:=_;(aR Z2 (Z3)) D0 _ _
  intro Z1 Z2 Z3 D0
  cases l with
  | lend n r z =>
    refine zt rfl (dF.of ha) rfl ⟨rfl,_,rfl,?_⟩
    refine bI fK ?_
    refine⟨_,rfl,p,dx,_,rfl,h1,eX _ _ (by decide +kernel) (by decide +kernel),zt rfl (dF.of ha) rfl (zt rfl (dF.of ha) rfl (zt rfl (dF.of ha) rfl ⟨p,d,S,c,n,r,z,rfl,DA,hc,λv H1 D1 f1 r1=>?_⟩))⟩
    refine⟨Dg,λl hl=>⟨vC,λu hu=>?_⟩⟩
    refine k _ _ ((D1.new hl).new hu) (f1.trans ((DF.new hl).trans (DF.new hu))) ?_
    have k1:=f1.kept DA D1
    refine yp ((k1.new hl).free hu) hu ?_
    simp only[aH]
    exact⟨_,_,rfl,r1.mono (vN (vM hl)),_,_,rfl,jW (k1.free hl) hl (by simp only[aH]),rfl⟩
  | back n r =>
    refine zt rfl (dF.of ha) rfl ⟨rfl,_,rfl,?_⟩
    refine aP (dj (by decide +kernel)) ?_
    refine⟨Dg,λl hl=>?_⟩
    have D0:=DA.new (o:=.lst []) hl
    obtain⟨⟨dx0,v0,h10,_⟩,_⟩:=id D0
    have ha0:upd H l (.lst []) a=some (.tup (Let.vs (.back n r))):=ac2 hl a _ ha
    refine⟨_,rfl,p,dx0,_,rfl,h10,eX _ _ (by decide +kernel) (by decide +kernel),zt rfl (dF.of ha0) rfl (zt rfl (dF.of ha0) rfl ⟨p,d,S,c,n,r,rfl,D0,hc,λv H1 D1 f1 r1=>?_⟩)⟩
    refine⟨zz1,λl2 hl2=>⟨vC,λu hu=>?_⟩⟩
    refine k _ _ ((D1.new hl2).new hu) ((DF.new hl).trans (f1.trans ((DF.new hl2).trans (DF.new hu)))) ?_
    have k0:Kept H (upd H l (.lst [])):=(Kept.refl H).new hl
    have k1:Kept H H1:=((DF.new hl).trans f1).kept DA D1
    refine yp ((k1.new hl2).free hu) hu ?_
    simp only[aH]
    have rl:Rep (nw H (upd H l (.lst []))) (.ref l) (.l []):=jW hl hl (by simp only[aH])
    refine⟨_,_,rfl,(rl.mono (vN (f1.seqs D0))).mono (vN (vM hl2)),_,_,rfl,jW (k1.free hl2) hl2 ?_,rfl⟩
    simp only[aH]
    refine⟨_,_,rfl,?_,rfl⟩
    simp only[Rep,aH]at r1 ⊢
    obtain⟨b,xs,e1,e2,e3⟩:=r1
    refine⟨b,xs,e1,Xg e2 (k1.tup e2),?_⟩
    obtain⟨v1,q1,e4,e5,v2,q2,e6,e7,v3,q3,e8,e9,e10⟩:=e3
    refine⟨v1,q1,e4,e5,v2,q2,e6,e7,v3,q3,e8,?_,e10⟩
    unfold DS.tell at e9 ⊢
    split
    ·rename_i z;rw[if_pos z]at e9;simpa only[Xh,Rep] using e9
    ·rename_i z;rw[if_neg z]at e9;simpa only[Xh,Rep] using e9
theorem aa0(T:Txt K w mg t):cZ P w K mg base oY 1 t.gD t.xF ["self"] (ao3 t.bL):=by
 refine T.adp.ok aaO (λvs H Q E h=>?_) (λcdv A outer s H vs Q E hr h=>?_)
 ·obtain⟨p,d,S,c,rfl,_⟩:=h;rfl
 ·obtain⟨p,d,S,c,rfl,DA,k⟩:=h
  have hu:=lG hr
  obtain⟨⟨dx,v,h1,hw⟩,_⟩:=id DA
  refine⟨_,(aB (bf (al5 (vG (cM (pv 0) (by rfl)))))),?_⟩
  try dsimp only[dm,Cx.lu]
  refine⟨_,rfl,p,_,dx,_,_,rfl,h1,T.dG,T.jr,acf _ _,?_⟩
  have e:(!decide (v=V.non))=S.ws.isSome:=by
   cases hws:S.ws with
   | none=>rw[hws]at hw;have e:v=.non:=hw;rw[e];rfl
   | some w'=>rw[hws]at hw;obtain⟨a,e,_⟩:=hw;rw[e];rfl
  rw[<-e]at k
  exact k
theorem Nr(T:Txt K w mg t):cZ P w K mg base (CX1 P w) 3 t.iI t.Ae ["self","wish"] (ape t.bL t.aM):=by
 refine T.agE.okX ada (λvs H Q E h=>?_) (λcdv A outer s H vs Q E hr h=>?_)
 ·obtain⟨p,d,S,c,a,w,rfl,_⟩:=h;rfl
 ·obtain⟨p,d,S,c,a,w,rfl,DA,hc,ha,k⟩:=h
  have hu:=lG hr
  obtain⟨⟨dx,v,h1,hw⟩,⟨kvs,h2,h3,h4⟩⟩:=id DA
  have npd:=DA.npd
  refine⟨_,(ak (b8 (lW (t7 (pv 0) T.dG T.aaT (aa0 T) (hr.mono (by decide):bR 1 _) T.adq .nil bW)) (aB (Ez T.yC (by rfl) T.acp rfl Mh (aa aC ao))) bD)
   (ak (b8 (lW (cC (pv 0) T.dG T.Gb (Gp T) (hr.mono (by decide):bR 2 _) T.Ja .nil bW (aa (pv 1) ao))) (aB (bf (cu (aa (bO (aa (cC (pv 0) T.dG T.Ci (Cm T) (hr.mono (by decide):bR 2 _) T.Gd .nil bW (aa (pv 1) ao)) ao)) (aa (bO ao) ao))))) bD)
   (ak (gA (pv 0) (pv 1) (by rfl))
   (aB (bf (cu (aa (bO ao) (aa (bO (aa (cH (aaZ T) (hr.mono (by decide):bR 1 _) (by rfl) T.ado T.Mx.kp T.adn .nil bW (aa (aO bC (pv 1) aA (λ_ _=>rfl)) (aa (cH (Ck T) (hr.mono (by decide):bR 1 _) (by rfl) T.Ga T.uX.kp T.FZ .nil bW (aa (pv 1) ao)) ao))) ao)) ao)))))))),?_⟩
  try dsimp only[dm,Cx.lu]
  show let Z1:L2.TS:=_;let Z2:L2.TS:=di _ Z1 bN;let Z3:L2.TS:=_;let Z4:L2.TS:=di _ Z3 bN;let Z5:L2.TS:=_;let Z6:L2.TS:=_;let D0:Ends:=_;(aR Z2 (aR Z4 (aR Z5 (Z6)))) D0 _ _
  intro Z1 Z2 Z3 Z4 Z5 Z6 D0
  refine⟨_,rfl,p,dx,_,rfl,h1,eX _ _ (by decide +kernel) (by decide +kernel),p,d,S,c,rfl,DA,_,rfl,?_⟩
  cases hws:S.ws with
  | some w' =>
    rw[hws]at hw k
    obtain⟨a',ev,_⟩:=hw
    subst ev
    refine pQ ?_
    exact⟨zz1,k⟩
  | none =>
    rw[hws]at hw k
    have ev:v=.non:=hw
    subst ev
    refine w6 ?_
    refine⟨_,rfl,p,dx,_,rfl,h1,eX _ _ (by decide +kernel) (by decide +kernel),_,rfl,p,d,S,c,a,w,rfl,DA,ha,_,rfl,?_⟩
    by_cases hok:S.ok w
    ·refine bI (decide_eq_true hok) ?_
     refine⟨_,rfl,p,dx,_,rfl,h1,eX _ _ (by decide +kernel) (by decide +kernel),_,rfl,p,d,S,c,a,w,rfl,DA,by lia,ha,hok,λu H1 D1 f1 hu1=>?_⟩
     refine⟨zz1,λl hl=>⟨Dg,λl2 hl2=>⟨vC,λz hz=>?_⟩⟩⟩
     refine k _ _ ?_ (f1.trans ((DF.new hl).trans ((DF.new hl2).trans (DF.new hz)))) ?_
     ·unfold DS.want;rw[if_pos hok];exact(((D1.new hl).new hl2).new hz).mono (Nat.le_succ _)
     ·unfold DS.want
      rw[if_pos hok]
      have k1:=f1.kept DA D1
      refine yp (((k1.new hl).new hl2).free hz) hz ?_
      simp only[aH]
      refine⟨_,_,rfl,(jW (k1.free hl) hl ?_).mono (vN (vM hl2)),_,_,rfl,jW ((k1.new hl).free hl2) hl2 (by simp only[aH]),rfl⟩
      simp only[aH,Rep]
      exact⟨_,_,rfl,⟨u,_,rfl,Xg hu1 (k1.tup hu1),_,_,rfl,rfl,_,_,rfl,rfl,_,_,rfl,rfl,rfl⟩,rfl⟩
    ·refine aP (decide_eq_false hok) ?_
     refine⟨_,rfl,_,rfl,p,_,dx,_,rfl,h1,T.dG,T.jr,(by rw[agf];show 2<1000;decide),?_⟩
     rw[age]
     have ts:cg H (upd H p (.ins t.bL dx (Di d (.ref a)))):=λb xs e=>by rw[aq (ju e h1 (by intro z;cases z))];exact e
     have ha1:=ts a _ ha
     have D1:cz t.bL (upd H p (.ins t.bL dx (Di d (.ref a)))) p d {S with ws:=some w} c :=
      ⟨⟨dx,.ref a,aj,a,rfl,ha1⟩,⟨kvs,by rw[aq npd.symm];exact h2,h3,λj=>(h4 j).aZ ts⟩⟩
     have f1:DF H (upd H p (.ins t.bL dx (Di d (.ref a)))) p d:=λb o e hp hd=>by rw[aq hp];exact e
     refine⟨Dg,λl hl=>?_⟩
     have ha2:upd (upd H p (.ins t.bL dx (Di d (.ref a)))) l (.lst []) a=some (.tup w.vs):=ac2 hl a _ ha1
     refine zt rfl (dF.of ha2) (W.at1 w) ⟨_,rfl,a,w,rfl,ha2,_,_,rfl,λz hz=>?_⟩
     refine⟨zz1,λl2 hl2=>⟨vC,λy hy=>?_⟩⟩
     refine k _ _ ?_ (f1.trans ((DF.new hl).trans ((DF.new hz).trans ((DF.new hl2).trans (DF.new hy))))) ?_
     ·unfold DS.want;rw[if_neg hok];exact((((D1.new hl).new hz).new hl2).new hy).mono (by lia)
     ·unfold DS.want
      rw[if_neg hok]
      have k1:=f1.kept DA D1
      refine yp ((((k1.new hl).new hz).new hl2).free hy) hy ?_
      simp only[aH]
      refine⟨_,_,rfl,((jW (k1.free hl) hl (by simp only[aH])).mono (vN (vM hz))).mono (vN (vM hl2)),_,_,rfl,jW (((k1.new hl).new hz).free hl2) hl2 ?_,rfl⟩
      simp only[aH]
      refine⟨_,_,rfl,yp ((k1.new hl).free hz) hz ?_,rfl⟩
      simp only[aH,Rep]
      exact⟨_,_,rfl,rfl,_,_,rfl,rfl,_,_,rfl,rfl,rfl⟩
theorem adF(T:Txt K w mg t):cZ P w K mg base (CX1 P w) 3 t.iK t.Ag ["self","page"] (apf t.bL t.aV):=by
 refine T.agH.okX Mr (λvs H Q E h=>?_) (λcdv A outer s H vs Q E hr h=>?_)
 ·obtain⟨p,d,S,c,n,rfl,_⟩:=h;rfl
 ·obtain⟨p,d,S,c,n,rfl,DA,hc,k⟩:=h
  have hu:=lG hr
  obtain⟨⟨dx,v,h1,_⟩,_⟩:=id DA
  refine⟨_,(ak (b8 (aU cR (cC (pv 0) T.dG T.gU (gW T) (hr.mono (by decide):bR 1 _) T.iy .nil bW (aa (pv 1) ao)) (iC (by rfl) T.QZ) (bu _)) (aB (Ez T.yD (by rfl) T.agA rfl Mh (aa aC ao))) bD)
   (ak (bz (i:=2) Mr.nd rfl (Or.inl rfl) (cC (pv 0) T.dG T.oA (oF T) (hr.mono (by decide):bR 2 _) T.pF .nil bW (aa (pv 1) ao)))
   (ak (bM (cC (pv 0) T.dG T.sX (sZ T) (hr.mono (by decide):bR 1 _) T.wA .nil bW (aa (pv 1) (aa (iC (by rfl) T.QZ) (aa tX ao)))))
   (aB (bf (qF (wX (aii (pv 2))) (bO ao) (bO (aa (cH (Yo T) (hr.mono (by decide):bR 1 _) (by rfl) T.aaQ T.Iz.kp T.aaP .nil bW (aa (pv 1) (aa (pv 2) ao))) ao)))))))),?_⟩
  try dsimp only[dm,Cx.lu]
  show let Z1:L2.TS:=_;let Z2:L2.TS:=di _ Z1 bN;let Z3:L2.TS:=_;let Z4:L2.TS:=_;let Z5:L2.TS:=_;let D0:Ends:=_;(aR Z2 (aR Z3 (aR Z4 (Z5)))) D0 _ _
  intro Z1 Z2 Z3 Z4 Z5 D0
  refine⟨_,rfl,p,dx,_,rfl,h1,eX _ _ (by decide +kernel) (by decide +kernel),_,rfl,p,d,S,c,n,rfl,DA,rfl,_,rfl,?_⟩
  by_cases e:S.rt n=.no
  ·rw[if_pos e]at k
   rw[e]
   refine pQ ?_
   exact⟨zz1,k⟩
  ·rw[if_neg e]at k
   refine aP (oZ (x:="none") (q:=.no) rfl e) ?_
   refine⟨_,rfl,p,dx,_,rfl,h1,eX _ _ (by decide +kernel) (by decide +kernel),_,rfl,p,d,S,c,n,rfl,DA,?_⟩
   refine⟨_,rfl,p,dx,_,rfl,h1,eX _ _ (by decide +kernel) (by decide +kernel),_,rfl,p,d,S,c,n,.no,S.nm n,.non,rfl,DA,by lia,.inl rfl,λH1 D1 f1=>?_⟩
   refine⟨_,rfl,_,rfl,?_⟩
   by_cases ew:S.rt n=.wr
   ·have et:S.tell n=.int (S.nm n):=by unfold DS.tell;rw[if_pos ew]
    rw[et]
    refine w6 ?_
    refine⟨_,rfl,_,rfl,_,_,rfl,λz hz=>⟨zz1,λl hl=>?_⟩⟩
    refine k _ _ (((D1.new hz).new hl).mono (Nat.le_succ _)) (f1.trans ((DF.new hz).trans (DF.new hl))) ?_
    unfold DS.rest
    rw[if_pos ew]
    have k1:=f1.kept DA D1
    refine jW ((k1.new hz).free hl) hl ?_
    simp only[aH]
    refine⟨_,_,rfl,yp (k1.free hz) hz ?_,rfl⟩
    simp only[aH,Rep]
    exact⟨_,_,rfl,rfl,_,_,rfl,rfl,_,_,rfl,rfl,rfl⟩
   ·have et:S.tell n=.non:=by unfold DS.tell;rw[if_neg ew]
    rw[et]
    refine pQ ?_
    refine⟨Dg,λl hl=>?_⟩
    refine k _ _ ((D1.new hl).mono (Nat.le_succ _)) (f1.trans (DF.new hl)) ?_
    unfold DS.rest
    rw[if_neg ew]
    exact jW ((f1.kept DA D1).free hl) hl (by simp only[aH])
theorem Gq(T:Txt K w mg t):cZ P w K mg base oY 1 t.gK t.uH ["page","right"] (agg "back"):=by
 refine T.xK.ok XC (λvs H Q E h=>?_) (λcdv A outer s H vs Q E hr h=>?_)
 ·obtain⟨x,y,rfl,_⟩:=h;rfl
 ·obtain⟨x,y,rfl,k⟩:=h
  refine⟨_,(aB (bf (cu (aa aC (aa (pv 0) (aa (pv 1) ao)))))),?_⟩
  try dsimp only[dm,Cx.lu]
  exact⟨_,rfl,_,rfl,zz3,λa ha=>k a ha⟩
theorem Yp(T:Txt K w mg t):cZ P w K mg base oY 1 t.gJ t.uG ["page","right","number"] aka:=by
 refine T.IK.ok Xz (λvs H Q E h=>?_) (λcdv A outer s H vs Q E hr h=>?_)
 ·obtain⟨x,y,z,rfl,_⟩:=h;rfl
 ·obtain⟨x,y,z,rfl,k⟩:=h
  refine⟨_,(aB (bf (cu (aa aC (aa (pv 0) (aa (pv 1) (aa (pv 2) ao))))))),?_⟩
  try dsimp only[dm,Cx.lu]
  exact⟨_,rfl,_,rfl,_,rfl,zz4,λa ha=>k a ha⟩
theorem Nt(T:Txt K w mg t):cZ P w K mg base oY 1 t.dN t.nT ["self","page","number"] (amK t.aD):=by
 refine T.QM.ok Ms (λvs H Q E h=>?_) (λcdv A outer s H vs Q E hr h=>?_)
 ·obtain⟨x,y,p,n,rfl,_⟩:=h;rfl
 ·obtain⟨a,dx,p,n,rfl,hp,k⟩:=h
  refine⟨_,(ak (gA (pv 0) (pv 1) (by rfl))
   (ak (gA (pv 0) (pv 2) (by rfl))
   (ak (gA (pv 0) tX (by rfl))
   (ak (gA (pv 0) (bO ao) (by rfl))
   (ak (gA (pv 0) (bO ao) (by rfl))
   (aB (gA (pv 0) aA (by rfl)))))))),?_⟩
  try dsimp only[dm,Cx.lu]
  show let Z1:L2.TS:=_;let Z2:L2.TS:=_;let Z3:L2.TS:=_;let Z4:L2.TS:=_;let Z5:L2.TS:=_;let Z6:L2.TS:=_;let D0:Ends:=_;(aR Z1 (aR Z2 (aR Z3 (aR Z4 (aR Z5 (Z6)))))) D0 _ _
  intro Z1 Z2 Z3 Z4 Z5 Z6 D0
  refine⟨_,rfl,_,rfl,a,t.aD,dx,[],rfl,hp,T.aQ,T.gh,(by show 0<1000;decide),?_⟩
  refine⟨_,rfl,_,rfl,a,t.aD,dx,_,rfl,aj,T.aQ,T.fD,(by show 1<1000;decide),?_⟩
  refine⟨_,rfl,a,t.aD,dx,_,rfl,aj,T.aQ,T.cj,(by show 2<1000;decide),?_⟩
  rw[ajK,ajK]
  refine⟨Dg,λr hr1=>?_⟩
  have nra:a≠r:=λz=>by rw[z,aj]at hr1;cases hr1
  have hr0:H r=none:=by rw[<-hr1,aq nra.symm]
  refine⟨_,rfl,a,t.aD,dx,_,rfl,(by rw[aq nra];exact aj),T.aQ,T.cX,(by show 3<1000;decide),?_⟩
  refine⟨Dg,λq hq1=>?_⟩
  have nqa:a≠q:=λz=>by rw[z,aj]at hq1;cases hq1
  have nqr:r≠q:=λz=>by rw[z,aq nqa.symm,aj]at hq1;cases hq1
  have hq0:H q=none:=by rw[<-hq1,aq nqa.symm,aq nqr.symm,aq nqa.symm]
  refine⟨_,rfl,a,t.aD,dx,_,rfl,(by rw[aq nqa];exact aj),T.aQ,T.dh,(by show 4<1000;decide),?_⟩
  refine⟨_,rfl,a,t.aD,dx,_,rfl,aj,T.aQ,T.eO,(by show 5<1000;decide),?_⟩
  rw[amI]
  refine k r q _ hr0 hq0 ⟨⟨dx,aj⟩,?_,⟨[],?_,by simp[aH]⟩,nqr⟩ (λb o e hb=>?_) ?_
  ·rw[aq nra.symm,aq nra.symm,aq nqr,aq nra.symm,aj];rfl
  ·rw[aq nqa.symm,aq nqa.symm,aj]
  ·rw[aq hb,aq hb,aq (aF e hq0),aq hb,aq (aF e hr0),aq hb];exact e
  ·exact Lv.upd.trans (Lv.upd.trans (Lv.upd.trans (Lv.upd.trans (Lv.upd.trans Lv.upd))))
theorem Ax(T:Txt K w mg t):cZ P w K mg base oY 1 t.cL t.jq ["self","desk"] (atj t.aD):=by
 refine T.Dr.ok z9 (λvs H Q E h=>?_) (λcdv A outer s H vs Q E hr h=>?_)
 ·obtain⟨a,r,q,p,g,d,rfl,_⟩:=h;rfl
 ·obtain⟨a,r,q,p,g,d,rfl,PA,k⟩:=h
  have nar:=PA.nar
  have naq:=PA.naq
  obtain⟨⟨dx,h1⟩,h2,⟨vs,h3,h4⟩,h5⟩:=id PA
  refine⟨_,(ak (gA (pv 0) (pv 1) (by rfl))
   (aB (gA (pv 0) (bO ao) (by rfl)))),?_⟩
  try dsimp only[dm,Cx.lu]
  show let Z1:L2.TS:=_;let Z2:L2.TS:=_;let D0:Ends:=_;(aR Z1 (Z2)) D0 _ _
  intro Z1 Z2 D0
  refine⟨_,rfl,_,rfl,a,_,dx,_,rfl,h1,T.aQ,T.cj,vP,?_⟩
  rw[ao7]
  refine⟨Dg,λr' hr1=>?_⟩
  have nra:a≠r':=λz=>by rw[z,aj]at hr1;cases hr1
  have hr0:H r'=none:=by rw[<-hr1,aq nra.symm]
  refine⟨_,rfl,a,_,dx,_,rfl,(by rw[aq nra];exact aj),T.aQ,T.cX,vP,?_⟩
  rw[atb (l:=[])]
  have nqr:q≠r':=aF h3 hr0
  refine k r' _ hr0 ⟨⟨dx,aj⟩,?_,⟨vs,?_,?_⟩,nqr.symm⟩ ⟨λb o e ha hb hq=>?_,Lv.upd.trans (Lv.upd.trans Lv.upd)⟩
  ·rw[aq nra.symm,aj];rfl
  ·rw[aq naq.symm,aq nqr,aq naq.symm];exact h3
  ·refine h4.aZ (λb xs e=>?_) (lg _)
   have hb:b≠a:=ju e h1 (by intro z;cases z)
   rw[aq hb,aq (aF e hr0),aq hb];exact e
  ·rw[aq ha,aq (aF e hr0),aq ha];exact e
theorem akr(d:Nat)(l:List Nat):inV (.int d) (l.map nV)=decide (d∈l):=by
 unfold inV
 induction l with
 | nil=>rfl
 | cons x l ih =>
   rw[List.map_cons,List.any_cons,ih]
   show((x:Int) == (d:Int) || _)=_
   by_cases e:d=x
   ·subst e;simp
   ·have:((x:Int) == (d:Int))=false:=by simp;lia
    rw[this];simp[e]
theorem ag0(l:List Nat):(l.map nV).all vI=true:=by simp[vI,nV]
theorem Du(T:Txt K w mg t):cZ P w K mg base oY 1 t.cQ t.jD ["self","desk"] (ati t.aD):=by
 refine T.Gg.ok Dk (λvs H Q E h=>?_) (λcdv A outer s H vs Q E hr h=>?_)
 ·obtain⟨a,r,q,p,g,d,rfl,_⟩:=h;rfl
 ·obtain⟨a,r,q,p,g,d,rfl,PA,hl,k⟩:=h
  have sl:sizeLine=16777216:=by decide
  refine⟨_,(ak (b8 (wX (vG (cM (pv 0) (by rfl)))) (ak (bM (eN PySem.F.plainAttrs_list PySem.F.slot_list_append PySem.F.type_list_append cD (cM (pv 0) (by rfl)) (aa (cM (pv 0) (by rfl)) ao)))
   (aB (gA (pv 0) tX (by rfl)))) bD)
   (aB (b8 (aU zM (pv 1) (cM (pv 0) (by rfl)) (by rfl)) (aB (bM (eN PySem.F.plainAttrs_list PySem.F.slot_list_append PySem.F.type_list_append cD (cM (pv 0) (by rfl)) (aa (pv 1) ao)))) bD))),?_⟩
  try dsimp only[dm,Cx.lu]
  show let Z1:L2.TS:=_;let Z2:L2.TS:=_;let Z3:L2.TS:=aR Z1 (Z2);let Z4:L2.TS:=di _ Z3 bN;let Z5:L2.TS:=_;let Z6:L2.TS:=di _ Z5 bN;let D0:Ends:=_;(aR Z4 (Z6)) D0 _ _
  intro Z1 Z2 Z3 Z4 Z5 Z6 D0
  have fin:∀H1,gj t.aD H1 a r q p {g with wr:=none,rd:=g.rd++g.wr.toList}->PF H H1 a r q->
   (di (afU (W0 (rIn K true) (jm 1) (acV K (jm 0) "readers"))) (ajM (tBM K "list" Ma (acV K (jm 0) "readers") (mO (jm 1) Ii))) bN) {nx:=λ_ H'=>Q .non H',rt:=Q} [some (.ref a),some (.int d)] H1:=λH1 P1 f1=>by
   obtain⟨⟨dx,h1⟩,h2,_,_⟩:=id P1
   refine⟨_,rfl,_,rfl,a,_,dx,_,_,rfl,h1,T.aQ,T.cX,vO,r,_,rfl,.inl (bZ.of h2),rfl,ag0 _,_,rfl,?_⟩
   have e0:(if true=true then !inV (.int d) ((g.rd++g.wr.toList).map nV)else inV (.int d) ((g.rd++g.wr.toList).map nV)) = !decide (d∈g.rd++g.wr.toList):=by rw[if_pos rfl,akr]
   rw[e0]
   by_cases e:d∈g.rd++g.wr.toList
   ·refine aP (by rw[decide_eq_true e];rfl) ?_
    refine k H1 ?_ f1
    unfold kZ
    rw[if_pos e]
    exact P1
   ·refine bI (by rw[decide_eq_false e];rfl) ?_
    refine⟨_,rfl,a,_,dx,_,_,rfl,h1,T.aQ,T.cX,vO,.inl ⟨rfl,_,bZ.of h2⟩,_,rfl,r,_,_,rfl,rfl,h2,?_,?_⟩
    ·have hw:g.wr.toList.length<=1:=by cases g.wr<;>simp
     rw[List.length_map,List.length_append];lia
    ·refine k _ ?_ (f1.trans PF.wrR)
     have:=P1.wrR (l:=g.rd++g.wr.toList++[d])
     unfold kZ
     rw[if_neg e]
     rw[List.map_append (l₂:=[d])]at this
     exact this
  obtain⟨⟨dx,h1⟩,h2,⟨vs,h3,h4⟩,h5⟩:=id PA
  refine⟨_,rfl,a,_,dx,_,_,rfl,h1,T.aQ,T.cj,uh,_,rfl,?_⟩
  cases hw:g.wr with
  | none =>
    refine aP rfl ?_
    refine fin H ?_ (PF.refl _ _ _ _)
    have e:({g with wr:=none,rd:=g.rd++g.wr.toList}:PG)=g:=by rw[hw];cases g;simp_all
    rw[e];exact PA
  | some x =>
    refine bI rfl ?_
    have l1:(BX p g r q).lookup ("writer":Str)=some (.int x):=by rw[uh,hw];rfl
    refine⟨_,rfl,a,_,dx,_,_,rfl,h1,T.aQ,T.cX,vO,.inl ⟨rfl,_,bZ.of h2⟩,_,rfl,a,_,dx,_,_,rfl,h1,T.aQ,T.cj,l1,r,_,_,rfl,rfl,h2,(by rw[List.length_map];lia),?_⟩
    have P1:=PA.wrR (l:=g.rd++[x])
    rw[List.map_append]at P1
    obtain⟨⟨yg,g1⟩,_⟩:=id P1
    refine⟨_,rfl,a,_,yg,_,rfl,g1,T.aQ,T.cj,vP,?_⟩
    rw[aj8]
    refine fin _ ?_ (PF.trans PF.wrR PF.wr)
    rw[hw]
    exact P1.wr rfl rfl
theorem wD(T:Txt K w mg t):cZ P w K mg base oY 2 t.dO t.nU ["self"] (ao8 t.aD):=by
 refine T.QR.ok vX (λvs H Q E h=>?_) (λcdv A outer s H vs Q E hr h=>?_)
 ·obtain⟨a,r,q,p,g,d,x,l,rfl,_⟩:=h;rfl
 ·obtain⟨a,r,q,p,g,d,x,l,rfl,PA,ha,hx,hl,k⟩:=h
  refine⟨_,(ak (bz (i:=1) vX.nd rfl (Or.inl rfl) (eN PySem.F.plainAttrs_list PySem.F.slot_list_pop PySem.F.type_list_pop Ey (cM (pv 0) (by rfl)) (aa aA ao)))
   (ak (b8 (aU cR (aO bC (pv 1) aA (λ_ _=>rfl)) (iC (by rfl) T.WN) (bu _)) (aB (bM (cC (pv 0) T.aQ T.Av (Ax T) (hr.mono (by decide):bR 1 _) T.Ds .nil bW (aa (aO bC (pv 1) aA (λ_ _=>rfl)) ao)))) (aB (bM (cC (pv 0) T.aQ T.Dt (Du T) (hr.mono (by decide):bR 1 _) T.Gh .nil bW (aa (aO bC (pv 1) aA (λ_ _=>rfl)) ao)))))
   (aB (bf (cu (aa (aO bC (pv 1) aA (λ_ _=>rfl)) (aa (cH (Yp T) (hr.mono (by decide):bR 1 _) (by rfl) T.aaS T.IK.kp T.aaR .nil bW (aa (cM (pv 0) (by rfl)) (aa (aO bC (pv 1) aA (λ_ _=>rfl)) (aa (cM (pv 0) (by rfl)) ao)))) ao))))))),?_⟩
  try dsimp only[dm,Cx.lu]
  show let Z1:L2.TS:=_;let Z2:L2.TS:=_;let Z3:L2.TS:=_;let Z4:L2.TS:=di _ Z2 Z3;let Z5:L2.TS:=_;let D0:Ends:=_;(aR Z1 (aR Z4 (Z5))) D0 _ _
  intro Z1 Z2 Z3 Z4 Z5 D0
  obtain⟨⟨dx,h1⟩,h2,⟨vs,h3,h4⟩,h5⟩:=id PA
  rw[ha]at h4
  obtain⟨tt,us,rfl,h6,h7⟩:=HY h4
  refine⟨_,rfl,a,_,dx,_,_,rfl,h1,T.aQ,T.dh,tR,.inl ⟨rfl,_,bZ.of h3⟩,q,_,0,0,_,rfl,rfl,h3,(by decide),(by decide),amH _ _,rfl,?_⟩
  have P1:=PA.wrQ (l:=l) (vs:=us) h7
  have t1:(upd H q (.lst us)) tt=some (.tup [.int d,.str x.s]):=by rw[aq (ju h6 h3 (by intro z;cases z))];exact h6
  have fin:∀r' H1,(r'=r\/H r'=none)->gj t.aD H1 a r' q p g.lent->PF H H1 a r q->g.lent.num=g.num->
   (asj (amc (mO (W0 (aiv K) (jm 1) (tC (.int 0))) (mO (amd aka [] E0 (mO (acV K (jm 0) "page") (mO (W0 (aiv K) (jm 1) (tC (.int 1))) (mO (acV K (jm 0) "number") Ii)))) Ii)))) {nx:=λ_ H'=>Q .non H',rt:=Q} [some (.ref a),some (.ref tt)] H1:=λr' H1 hr' P2 f2 en=>by
   have t2:=(f2.tups PA) tt _ h6
   obtain⟨⟨dx2,g1⟩,_⟩:=id P2
   refine zt rfl (dF.of t2) rfl ⟨_,rfl,a,_,dx2,_,_,rfl,g1,T.aQ,T.gh,Xk,zt rfl (dF.of t2) rfl ⟨_,rfl,a,_,dx2,_,_,rfl,g1,T.aQ,T.fD,aiJ,_,_,_,rfl,λb hb=>?_⟩⟩
   refine⟨vC,λc hc=>?_⟩
   refine k _ r' _ hr' ((P2.new hb).new hc) (f2.trans' ((PF.new hb).trans (PF.new hc)) hr') ?_
   simp only[pairD,Let.d,Rep,aH]
   refine⟨c,_,rfl,aj,_,_,rfl,rfl,_,_,rfl,⟨b,[.str "lend",.int p,.str x.s,.int g.lent.num],rfl,?_,_,_,rfl,rfl,_,_,rfl,rfl,_,_,rfl,rfl,_,_,rfl,?_,rfl⟩,rfl⟩
   ·rw[aq,aj];intro z;rw[z,aj]at hc;cases hc
   ·rw[en]
  have yV:g.lent=if x=.wr then lJ {g with ask:=l} d else kZ {g with ask:=l} d:=by unfold PG.lent;rw[ha]
  obtain⟨⟨yg,g1⟩,_⟩:=id P1
  refine zt rfl (dF.of t1) rfl ⟨rfl,_,rfl,?_⟩
  rcases hx with hx | hx
  ·subst hx
   refine aP (oZ (x:="write") (q:=.wr) rfl (by intro z;cases z)) ?_
   refine⟨_,rfl,a,yg,_,rfl,g1,atd,zt rfl (dF.of t1) rfl ⟨a,r,q,p,_,d,rfl,P1,hl,λH2 P2 f2=>?_⟩⟩
   refine fin r H2 (.inl rfl) ?_ (PF.wrQ.trans f2) (by rw[yV];rfl)
   rw[yV,if_neg (by intro z;cases z)]
   exact P2
  ·subst hx
   refine bI fK ?_
   refine⟨_,rfl,a,yg,_,rfl,g1,atc,zt rfl (dF.of t1) rfl ⟨a,r,q,p,_,d,rfl,P1,λr' H2 hr' P2 f2=>?_⟩⟩
   have nq:r'≠q:=by intro z;rw[z,aj]at hr';cases hr'
   refine fin r' H2 (.inr (by rw[<-hr',aq nq])) ?_ (PF.wrQ.trans f2) (by rw[yV];rfl)
   rw[yV,if_pos rfl]
   exact P2
theorem J6{H:Hp}{b c:Addr}{d p:Nat}{x:Rt}{vs:List V}(hc:H c=some (.tup [.int d,.ref b]))(hb:H b=some (.tup [.str "back",.int p,.str x.s])):Rep H (.ref c) (pairD (d,.back p x)):=by
 simp only[pairD,Let.d,Rep,aH]
 exact⟨c,_,rfl,hc,_,_,rfl,rfl,_,_,rfl,⟨b,_,rfl,hb,_,_,rfl,rfl,_,_,rfl,rfl,_,_,rfl,rfl,rfl⟩,rfl⟩
theorem Yq{g:PG}{p d:Nat}{x:Rt}(h:g.wr=none):ph g p d x=[]:=by unfold ph;rw[h]
theorem acw{g:PG}{p d:Nat}{x:Rt}(h:g.wr=some d):ph g p d x=[]:=by unfold ph;rw[h];simp
theorem Sx{g:PG}{p d wv:Nat}{x:Rt}(h:g.wr=some wv)(hn:wv≠d):ph g p d x=[(wv,.back p (low x))]:=by unfold ph;rw[h];simp[hn]
theorem tu(T:Txt K w mg t):cZ P w K mg base oY 2 t.bV t.gF ["self"] (atk t.aD):=by
 refine T.uZ.ok eQ (λvs H Q E h=>?_) (λcdv A outer s H vs Q E hr h=>?_)
 ·obtain⟨a,r,q,p,g,d,x,l,rfl,_⟩:=h;rfl
 ·obtain⟨a,r,q,p,g,d,x,l,rfl,PA,ha,hx,hl,k⟩:=h
  refine⟨_,(ak (bz (i:=1) eQ.nd rfl (Or.inr rfl) (aO bC (aO bF (cM (pv 0) (by rfl)) aA (λ_ _=>rfl)) aA (λ_ _=>rfl)))
   (ak (bz (i:=2) eQ.nd rfl (Or.inl rfl) (aO bC (aO bF (cM (pv 0) (by rfl)) aA (λ_ _=>rfl)) aA (λ_ _=>rfl)))
   (ak (bz (i:=3) eQ.nd rfl (Or.inl rfl) (bO ao))
   (ak (b8 (PW.pt (Qp (wX (vG (cM (pv 0) (by rfl)))) (Lx (aU BR (cM (pv 0) (by rfl)) (pv 1) (bu _))))) (aB (bM (eN PySem.F.plainAttrs_list PySem.F.slot_list_append PySem.F.type_list_append cD (pv 3) (aa (cu (aa (cM (pv 0) (by rfl)) (aa (cH (Gq T) (hr.mono (by decide):bR 1 _) (by rfl) T.IW T.xK.kp T.IV .nil bW (aa (cM (pv 0) (by rfl)) (aa (qF (aU cR (pv 2) (iC (by rfl) T.ai0) (bu _)) (iC (by rfl) T.ai0) (iC (by rfl) T.QZ)) ao))) ao))) ao)))) bD)
   (ak (b8 (aU cR (pv 2) (iC (by rfl) T.WN) (bu _)) (aB (bM (eN PySem.F.plainAttrs_list PySem.F.slot_list_extend PySem.F.type_list_extend lX (pv 3) (aa (jJ (fM (xs:=["desk"]) (ys:=["self","asking"]) (js:=[0,1]) rfl (by decide +kernel) (by decide +kernel) (by decide +kernel) (by rfl) ⟨⟨rfl,Or.inl rfl⟩,⟨⟨rfl,Or.inl rfl⟩,trivial⟩⟩) rfl (lO (cM (pv 0) (by rfl))) (λ_ _ _ _ _=>(cN (i:=0) (show List.Nodup ((["desk"]:List Str)++(["self","asking"]:List Str):List Str)by decide +kernel) rfl (Or.inl rfl))) (λ_ _ _ _ _=>(aj2 (aU BR (pv 0) (pv 2) (bu _)))) (λ_ _ _ _ _=>(cu (aa (pv 0) (aa (cH (Gq T) (hr.mono (by decide):bR 1 _) (by rfl) T.IW T.xK.kp T.IV .nil bW (aa (apb (K:=K) rfl (pv 1) (by rfl)) (aa (iC (by rfl) T.QZ) ao))) ao))))) ao)))) bD)
   (aB (bf (pv 3)))))))),?_⟩
  try dsimp only[dm,Cx.lu]
  show let Z1:L2.TS:=_;let Z2:L2.TS:=_;let Z3:L2.TS:=_;let Z4:L2.TS:=_;let Z5:L2.TS:=di _ Z4 bN;let Z6:L2.TS:=_;let Z7:L2.TS:=di _ Z6 bN;let Z8:L2.TS:=_;let D0:Ends:=_;(aR Z1 (aR Z2 (aR Z3 (aR Z5 (aR Z7 (Z8)))))) D0 _ _
  intro Z1 Z2 Z3 Z4 Z5 Z6 Z7 Z8 D0
  have sl:sizeLine=16777216:=by decide
  obtain⟨⟨dx,h1⟩,h2,⟨vs,h3,h4⟩,h5⟩:=id PA
  rw[ha]at h4
  obtain⟨tt,us,rfl,h6,h7⟩:=HY h4
  refine⟨_,rfl,a,_,dx,_,_,rfl,h1,T.aQ,T.dh,tR,q,_,0,_,rfl,rfl,bZ.of h3,atm _ _,tt,_,0,_,rfl,rfl,dF.of h6,rfl,?_⟩
  refine⟨_,rfl,a,_,dx,_,_,rfl,h1,T.aQ,T.dh,tR,q,_,0,_,rfl,rfl,bZ.of h3,atm _ _,tt,_,1,_,rfl,rfl,dF.of h6,rfl,?_⟩
  refine⟨Dg,λbl hb=>?_⟩
  have hbl:g.cO p=ph g p d x++pq g p d x:=by unfold PG.cO;rw[ha]
  have s0:=az (o:=.lst []) hb
  try dsimp only
  refine gf (λσ' H'=>σ'=[some (.ref a),some (.int d),some (.str x.s),some (.ref bl)]/\bJ H H'/\∃us,H' bl=some (.lst us)/\us.length<=1/\aH H' us ((ph g p d x).map pairD)) (λN hN=>?_) ?_
  ·have l0:=s0 a _ h1
   refine⟨_,rfl,a,_,dx,_,_,rfl,l0,T.aQ,T.cj,uh,_,rfl,?_⟩
   cases hw:g.wr with
   | none =>
     refine aP rfl (w6 ?_)
     exact hN _ _ ⟨rfl,s0,[],aj,Nat.zero_le _,by rw[Yq hw];simp[aH]⟩
   | some wv =>
     have l1:(BX p g r q).lookup ("writer":Str)=some (.int wv):=by rw[uh,hw];rfl
     refine bI rfl ?_
     refine⟨_,rfl,a,_,dx,_,_,rfl,l0,T.aQ,T.cj,l1,_,rfl,rfl,_,rfl,?_⟩
     by_cases e:wv=d
     ·subst e
      refine aP (by simp) ?_
      exact hN _ _ ⟨rfl,s0,[],aj,Nat.zero_le _,by rw[acw hw];simp[aH]⟩
     ·refine bI (by rw[decide_eq_false λz=>e (by have:=V.int.inj z;lia)];rfl) ?_
      have go:∀c,(∀z:Rt,z=low x->c=V.str z.s)->(tBM K "list" Ma (jm 3) (mO (amc (mO (acV K (jm 0) "writer") (mO (amd (agg "back") [] E0 (mO (acV K (jm 0) "page") (mO (tC c) Ii))) Ii))) Ii)) [some (.ref a),some (.int d),some (.str x.s),some (.ref bl)] (upd H bl (.lst [])) λ_ H'=>N [some (.ref a),some (.int d),some (.str x.s),some (.ref bl)] H':=λc hcc=>by
       obtain rfl:=hcc _ rfl
       refine⟨_,rfl,.inl ⟨rfl,_,bZ.of aj⟩,_,rfl,a,_,dx,_,_,rfl,l0,T.aQ,T.cj,l1,_,rfl,a,_,dx,_,_,rfl,l0,T.aQ,T.gh,Xk,_,_,rfl,λb hb1=>?_⟩
       refine⟨vC,λcc hc1=>?_⟩
       have nb:bl≠b:=λz=>by rw[<-z,aj]at hb1;cases hb1
       have nc:bl≠cc:=λz=>by rw[<-z,aq nb,aj]at hc1;cases hc1
       have ncb:b≠cc:=λz=>by rw[z,aj]at hc1;cases hc1
       refine⟨bl,[],_,rfl,rfl,(by rw[aq nc,aq nb,aj]),(by show 0<sizeLine;decide),?_⟩
       refine hN _ _ ⟨rfl,?_,_,aj,Nat.le_refl _,?_⟩
       ·exact dX ((s0.trans (az hb1)).trans (az hc1)) hb
       ·rw[Sx hw e]
        simp only[List.map_cons,List.map_nil,aH]
        refine⟨_,_,rfl,J6 (b:=b) (vs:=[]) (by rw[aq nc.symm,aj]) (by rw[aq nb.symm,aq ncb,aj]),rfl⟩
      rcases hx with hx | hx
      ·subst hx
       have:=go (.str "read") (λz hz=>by rw[hz];rfl)
       obtain⟨v0,e0,ty,a1⟩:=this
       refine⟨v0,e0,ty,?_⟩
       obtain⟨v1,e1,a',C',dx',fs',v',a2⟩:=a1
       obtain⟨i1,i2,i3,i4,i5,v2,e2,a'',C'',atO,atQ,v'',j1,j2,j3,j4,j5,a3⟩:=a2
       refine⟨v1,e1,a',C',dx',fs',v',i1,i2,i3,i4,i5,v2,e2,a'',C'',atO,atQ,v'',j1,j2,j3,j4,j5,?_⟩
       refine⟨_,rfl,rfl,_,rfl,?_⟩
       exact bI fK a3
      ·subst hx
       have:=go (.str "none") (λz hz=>by rw[hz];rfl)
       obtain⟨v0,e0,ty,a1⟩:=this
       refine⟨v0,e0,ty,?_⟩
       obtain⟨v1,e1,a',C',dx',fs',v',a2⟩:=a1
       obtain⟨i1,i2,i3,i4,i5,v2,e2,a'',C'',atO,atQ,v'',j1,j2,j3,j4,j5,a3⟩:=a2
       refine⟨v1,e1,a',C',dx',fs',v',i1,i2,i3,i4,i5,v2,e2,a'',C'',atO,atQ,v'',j1,j2,j3,j4,j5,?_⟩
       refine⟨_,rfl,rfl,_,rfl,?_⟩
       exact aP (oZ (r:=.wr) (x:="read") (q:=.rd) rfl (by intro z;cases z)) a3
  ·rintro σ' H1 ⟨rfl,s1,us1,hb1,hl1,rp1⟩
   have l0:=s1 a _ h1
   try dsimp only
   refine gf (λσ' H'=>σ'=[some (.ref a),some (.int d),some (.str x.s),some (.ref bl)]/\bJ H H'/\∃us,H' bl=some (.lst us)/\aH H' us ((g.cO p).map pairD)) (λN hN=>?_) ?_
   ·refine⟨_,rfl,rfl,_,rfl,?_⟩
    rcases hx with hx | hx
    ·subst hx
     refine aP (oZ (x:="write") (q:=.wr) rfl (by intro z;cases z)) ?_
     refine hN _ _ ⟨rfl,s1,us1,hb1,?_⟩
     rw[hbl]
     have:pq g p d .rd=[]:=by unfold pq;rw[if_neg (by intro z;cases z)]
     rw[this,List.append_nil]
     exact rp1
    ·subst hx
     refine bI fK ?_
     refine⟨_,rfl,.inl ⟨rfl,_,bZ.of hb1⟩,?_⟩
     refine⟨_,rfl,a,_,dx,_,_,rfl,l0,T.aQ,T.cX,vO,r,rfl,⟨_,bZ.of (s1 _ _ h2)⟩,λacc hacc=>?_⟩
     have nbl:bl≠acc:=aF hb1 hacc
     have azZ:bJ H1 (upd H1 acc (.lst [])):=az hacc
     let PV1:Nat->List V->St->Hp->Prop:=λi zs σ' H'=>(∃o,σ'=[o,some (.ref a),some (.int d)])/\bJ H1 H'/\H' acc=some (.lst zs)/\zs.length<=i/\aH H' zs ((((g.rd.take i).filter λe=>decide (e≠d)).map λe=>(e,Let.back p .no)).map pairD)
     refine yo (xs:=g.rd.map nV) PV1 ?_ ?_ ?_ ?_
     ·exact⟨⟨_,rfl⟩,azZ,aj,Nat.le_refl _,by simp[aH]⟩
     ·rintro i zs σ' H' _ ⟨_,s',ha',_⟩
      exact⟨bZ.of (s' _ _ (s1 _ _ h2)),ha'⟩
     ·rintro i y zs σ' H' hy hi ⟨⟨o,rfl⟩,s',ha',hz,rp⟩
      rw[List.length_map]at hi
      have hy':y=.int (g.rd[i]:Nat):=by
       rw[List.getElem?_map,List.getElem?_eq_getElem hi]at hy
       exact(Option.some.inj hy).symm
      subst hy'
      have htk:g.rd.take (i+1)=g.rd.take i++[g.rd[i]]:=by rw[List.take_add_one,List.getElem?_eq_getElem hi];rfl
      refine⟨_,rfl,_,rfl,rfl,_,rfl,?_⟩
      by_cases e:g.rd[i]=d
      ·refine aP (by rw[e];simp) (Xf.mk (by rw[List.length_map];exact hi) ?_)
       refine⟨⟨_,rfl⟩,s',ha',by lia,?_⟩
       rw[htk,List.filter_append,List.filter_cons_of_neg (by simp[e])]
       simpa using rp
      ·refine bI (by rw[decide_eq_false λz=>e (by have:=V.int.inj z;lia)];rfl) ?_
       refine⟨_,rfl,_,rfl,a,_,dx,_,_,rfl,s' _ _ l0,T.aQ,T.gh,Xk,_,_,rfl,λb hb2=>?_⟩
       refine⟨vC,λcc hc2=>?_⟩
       have nb:acc≠b:=aF ha' hb2
       have nc:acc≠cc:=λz=>by rw[<-z,aq nb]at hc2;rw[hc2]at ha';cases ha'
       have ncb:b≠cc:=λz=>by rw[z,aj]at hc2;cases hc2
       have h6':upd (upd H' b (.tup [.str "back",.int p,.str "none"])) cc (.tup [.int (g.rd[i]:Nat),.ref b]) acc=some (.lst zs):=by rw[aq nc,aq nb];exact ha'
       have hz2:zs.length<sizeLine:=by lia
       refine t8.mk (by rw[List.length_map];exact hi) h6' hz2 ?_
       have sup:bJ H' (upd (upd H' b (.tup [.str "back",.int p,.str "none"])) cc (.tup [.int (g.rd[i]:Nat),.ref b])):=(az hb2).trans (az hc2)
       refine⟨⟨_,rfl⟩,?_,aj,by rw[List.length_append];simp;lia,?_⟩
       ·exact dX (s'.trans sup) hacc
       ·rw[htk,List.filter_append,List.filter_cons_of_pos (by simp[e]),List.filter_nil,List.map_append,List.map_append]
        have tm:=jK (vs:=zs++[.ref cc]) h6'
        refine aH.snoc ((rp.aZ (bh sup) (dg _)).aZ tm (dg _)) ?_
        exact J6 (b:=b) (x:=.no) (vs:=[]) (by rw[aq nc.symm,aj]) (by rw[aq nb.symm,aq ncb,aj];rfl)
     ·rintro zs σ' H' ⟨_,s',ha',hz,rp⟩
      rw[List.length_map]at hz rp
      rw[List.take_length]at rp
      have hb':=s' _ _ hb1
      refine⟨bl,acc,us1,zs,rfl,rfl,hb',.inl (bZ.of ha'),by lia,?_⟩
      have hbn:H bl=none:=hb
      refine hN _ _ ⟨rfl,dX (s1.trans s') hbn,_,aj,?_⟩
      have tm:=jK (vs:=us1++zs) hb'
      have hrb:pq g p d .wr=(g.rd.filter λe=>decide (e≠d)).map λe=>(e,Let.back p .no):=by unfold pq;rw[if_pos rfl]
      rw[hbl,List.map_append,hrb]
      exact aH.append ((rp1.aZ (bh s') (dg _)).aZ tm (dg _)) (rp.aZ tm (dg _))
   ·rintro σ' H2 ⟨rfl,s2,us2,hb2,rp2⟩
    exact⟨_,rfl,k bl us2 H2 hb s2 hb2 rp2⟩
theorem aH.cons_inv{H:Hp}{vs:List V}{d:D}{ds:List D}(h:aH H vs (d::ds)):∃v r,vs=v::r/\Rep H v d/\aH H r ds:=by simpa only[aH] using h
theorem aH.nil_inv{H:Hp}{vs:List V}(h:aH H vs []):vs=[]:=by simpa only[aH] using h
theorem aH.isEmpty{H:Hp}{vs:List V}{ds:List D}(h:aH H vs ds):vs.isEmpty=ds.isEmpty:=by
 have:=h.length
 cases vs<;>cases ds<;>simp_all
theorem gj.zT{C:Addr}{H:Hp}{a r q l:Addr}{p:Nat}{g:PG}{vs:List V}(PA:gj C H a r q p g)(h:H l=some (.lst vs)):l≠a:=by
 obtain⟨⟨dx,h1⟩,_⟩:=PA
 exact ju h h1 (by intro z;cases z)
theorem gj.wrL{C:Addr}{H:Hp}{a r q l:Addr}{p:Nat}{g:PG}{us vs:List V}(PA:gj C H a r q p g)(h:H l=some (.lst us))(nr:l≠r)(nq:l≠q):gj C (upd H l (.lst vs)) a r q p g :=
 PA.keep (jK h) (λo e=>by rw[aq (PA.zT h).symm];exact e) (λo e=>by rw[aq nr.symm];exact e) λo e=>by rw[aq nq.symm];exact e
theorem ali(g:PG)(p d:Nat)(x:Rt):(ph g p d x).length<=1:=by
 unfold ph
 split
 ·split<;>simp
 ·simp
theorem Yr(g:PG)(p:Nat):(g.cO p).length<=g.rd.length+1:=by
 unfold PG.cO
 split
 ·simp
 ·rename_i a r l _
  rw[List.length_append]
  have h1:=ali g p a r
  have h2:(pq g p a r).length<=g.rd.length:=by
   unfold pq
   split
   ·rw[List.length_map];exact List.length_filter_le _ _
   ·simp
  lia
theorem yW:∀(k:Nat) (g:PG) (p:Nat),(pR k g p).2.length<=k+g.mu+1
 | 0,g,p=>by simp[pR]
 | k+1,g,p=>by
   rw[pR]
   split
   ·have:=yW k g.lent p
    have h2:=g.sS
    have h3:(g.dW p).length<=1:=by unfold PG.dW;split<;>simp
    simp only[List.length_append]
    lia
   ·have:=Yr g p
    simp only
    unfold PG.mu
    lia
theorem PG.yW(g:PG)(p:Nat):(g.serve p).2.length<=2*g.mu+1:=by
 have:=gB.yW g.ask.length g p
 unfold PG.serve
 have h2:g.ask.length<=g.mu:=by unfold PG.mu;lia
 lia
theorem u6(T:Txt K w mg t):cZ P w K mg base oY 3 t.dq t.mq ["self"] (ao9 t.aD):=by
 refine T.MF.ok lZ (λvs H Q E h=>?_) (λcdv A outer s H vs Q E hr h=>?_)
 ·obtain⟨a,r,q,p,g,rfl,_⟩:=h;rfl
 ·obtain⟨a,r,q,p,g0,rfl,PA,hrw,hmu,k⟩:=h
  have sl:sizeLine=16777216:=by decide
  refine⟨_,(ak (bz (i:=1) lZ.nd rfl (Or.inl rfl) (bO ao))
   (ak (WX PassesOwn.never (Ex (cM (pv 0) (by rfl)) (λ_=>rfl)) (ak (bz (i:=2) lZ.nd rfl (Or.inl rfl) (t7 (pv 0) T.aQ T.sY (tu T) (hr.mono (by decide):bR 2 _) T.u0 .nil bW))
   (ak (b8 (Ex (pv 2) (λ_=>rfl)) (ak (gA (pv 0) (dI dJ (by rfl) T.yU PySem.boot_len (aa (pv 2) ao)) (by rfl))
   (aB (bf (bG m6 (pv 1) (pv 2))))) bD)
   (aB (bM (eN PySem.F.plainAttrs_list PySem.F.slot_list_append PySem.F.type_list_append cD (pv 1) (aa (t7 (pv 0) T.aQ T.wC (wD T) (hr.mono (by decide):bR 2 _) T.yS .nil bW) ao)))))))
   (aB (bf (pv 1))))),?_⟩
  try dsimp only[dm,Cx.lu]
  show let Z1:L2.TS:=_;let Z2:L2.TS:=_;let Z3:L2.TS:=_;let Z4:L2.TS:=_;let Z5:L2.TS:=aR Z3 (Z4);let Z6:L2.TS:=di _ Z5 bN;let Z7:L2.TS:=_;let Z8:L2.TS:=aR Z2 (aR Z6 (Z7));let Z9:L2.TS:=acT _ Z8;let Cp:L2.TS:=_;let D0:Ends:=_;(aR Z1 (aR Z9 (Cp))) D0 _ _
  intro Z1 Z2 Z3 Z4 Z5 Z6 Z7 Z8 Z9 Cp D0
  refine⟨Dg,λl hl=>?_⟩
  have nlr:l≠r:=(aF PA.rl hl).symm
  have nlq:l≠q:=by obtain⟨_,_,⟨vs,h3,_⟩,_⟩:=PA;exact(aF h3 hl).symm
  refine⟨λm σ H1=>∃o g r1 vs acc,σ=[some (.ref a),some (.ref l),o]/\(r1=r\/H r1=none)/\l≠r1/\gj t.aD H1 a r1 q p g/\PF H H1 a r q/\H1 l=some (.lst vs)/\aH H1 vs (acc.map pairD)/\Rw g.ask/\g.mu<=1000000/\acc.length+g.ask.length<=g0.ask.length/\
   (g0.serve p).1=(g.serve p).1/\(g0.serve p).2=acc++(g.serve p).2/\m=g.ask.length,⟨_,none,g0,r,[],[],rfl,.inl rfl,nlr,PA.new hl,PF.new hl,aj,by simp[aH],hrw,hmu,by simp,rfl,by simp,rfl⟩,?_⟩
  rintro m σ H1 ⟨o,g,r1,vs,acc,rfl,hr1,nl1,P1,f1,hl1,rp,rw1,mu1,Mp,se1,se2,rfl⟩
  have aBB:g0.ask.length<=1000000:=by unfold PG.mu at hmu;lia
  have hvl:vs.length=acc.length:=by rw[rp.length,List.length_map]
  obtain⟨⟨dx,h1⟩,h2,⟨us,h3,h4⟩,h5⟩:=id P1
  refine⟨_,rfl,a,_,dx,_,_,rfl,h1,T.aQ,T.dh,tR,_,.inl ⟨us,bZ.of h3,rfl⟩,?_⟩
  cases xO:g.ask with
  | nil =>
    rw[xO]at h4
    have:=aH.nil_inv (by simpa using h4)
    subst this
    refine aP rfl ?_
    refine⟨_,rfl,k l r1 vs H1 hl hr1 nl1 ?_ f1 hl1 ?_⟩
    ·rw[se1,yr xO];exact P1
    ·rw[se2,yr xO,List.append_nil];exact rp
  | cons x0 q0 =>
    obtain⟨d,x⟩:=x0
    have hx:x=.rd\/x=.wr:=rw1 (d,x) (by rw[xO];simp)
    have hne:g.ask≠[]:=by rw[xO];simp
    have hlen:us.length=g.ask.length:=by rw[h4.length,List.length_map]
    have am6:g.rd.length<=1000000:=by unfold PG.mu at mu1;lia
    refine bI (by cases us with | nil=>rw[xO]at hlen;simp at hlen | cons _ _=>rfl) ?_
    refine⟨λσ' H'=>∃m',m'<q0.length+1/\∃o g r1 vs acc,σ'=[some (.ref a),some (.ref l),o]/\(r1=r\/H r1=none)/\l≠r1/\gj t.aD H' a r1 q p g/\PF H H' a r q/\H' l=some (.lst vs)/\aH H' vs (acc.map pairD)/\Rw g.ask/\g.mu<=1000000/\acc.length+g.ask.length<=g0.ask.length/\
     (g0.serve p).1=(g.serve p).1/\(g0.serve p).2=acc++(g.serve p).2/\m'=g.ask.length,λσ' H' z=>z,?_⟩
    refine⟨_,rfl,a,dx,_,rfl,h1,amJ,a,r1,q,p,g,d,x,q0,rfl,P1,xO,hx,am6,λb bs H2 hb s2 hb2 rpb=>?_⟩
    have P2:=P1.same s2
    have hl2:=s2 _ _ hl1
    have nbl:b≠l:=(aF hl1 hb).symm
    obtain⟨⟨dx2,g1⟩,_⟩:=id P2
    have hbl:bs.length=(g.cO p).length:=by rw[rpb.length,List.length_map]
    refine⟨_,rfl,_,.inl ⟨bs,bZ.of hb2,rfl⟩,?_⟩
    by_cases he:g.cO p=[]
    ·have e0:bs=[]:=by rw[he]at hbl;exact List.length_eq_zero_iff.mp hbl
     subst e0
     refine aP rfl ?_
     refine⟨_,rfl,.inl ⟨rfl,_,bZ.of hl2⟩,_,rfl,a,dx2,_,rfl,g1,agj,a,r1,q,p,g,d,x,q0,rfl,P2,xO,hx,am6,λv r2 H3 hr2 P3 f3 rv=>?_⟩
     have nq:l≠q:=nlq
     have hl3:H3 l=some (.lst vs):=f3.kp l _ hl2 (P2.zT hl2) nl1 nq
     have nl2:l≠r2:=by
      rcases hr2 with z | z
      ·rw[z];exact nl1
      ·exact aF hl2 z
     have t3:=f3.tups P2
     refine⟨l,vs,v,rfl,rfl,hl3,by lia,?_⟩
     refine⟨_,?_,_,g.lent,r2,vs++[v],acc++[(d,.lend p x g.num)],rfl,?_,nl2,P3.wrL hl3 nl2 nq,?_,aj,?_,?_,Nat.le_trans g.sS mu1,?_,?_,?_,rfl⟩
     ·rw[PG.yq,xO];simp
     ·rcases hr2 with z | z
      ·rw[z];exact hr1
      ·exact .inr (f1.lv _ (Lv.same s2 _ z))
     ·refine⟨λb' o' e' h1' h2' h3'=>?_,f1.lv.trans ((Lv.same s2).trans (f3.lv.trans Lv.upd))⟩
      have e2':=s2 _ _ (f1.kp b' o' e' h1' h2' h3')
      have e3':=f3.kp b' o' e2' h1' (by
       rcases hr1 with z | z
       ·rw[z];exact h2'
       ·exact aF e' z) h3'
      rw[aq (aF e' hl)]
      exact e3'
     ·rw[List.map_append]
      exact aH.snoc (((rp.aZ (bh s2) (dg _)).aZ t3 (dg _)).aZ (jK hl3) (dg _)) (rv.aZ (jK hl3) (by simp[pairD,D.flat,D.flats];exact Let.flat _))
     ·have:g.lent.ask=q0:=by unfold PG.lent;rw[xO];dsimp only;split<;>rfl
      rw[this]
      intro y hy
      exact rw1 y (by rw[xO];exact List.mem_cons_of_mem _ hy)
     ·rw[PG.yq,xO,List.length_append]
      rw[xO]at Mp
      simp at Mp ⊢
      lia
     ·rw[se1,uf hne he]
     ·rw[se2,uf hne he]
      have:g.dW p=[(d,.lend p x g.num)]:=by unfold PG.dW;rw[xO]
      rw[this,List.append_assoc]
    ·refine bI (by cases bs with | nil=>exact absurd (List.length_eq_zero_iff.mp hbl.symm) he | cons _ _=>rfl) ?_
     refine⟨_,rfl,b,bs,rfl,.inl (bZ.of hb2),_,rfl,a,_,dx2,_,rfl,g1,T.aQ,T.eO,vP,?_⟩
     rw[agi]
     have P3:=P2.wr (dx:=dx2) (g':={g with miss:=(bs.length:Int)}) rfl rfl
     have hl3:upd H2 a (.ins t.aD dx2 (BX p {g with miss:=(bs.length:Int)} r1 q)) l=some (.lst vs):=by rw[aq (P2.zT hl2)];exact hl2
     have hb3:upd H2 a (.ins t.aD dx2 (BX p {g with miss:=(bs.length:Int)} r1 q)) b=some (.lst bs):=by rw[aq (P2.zT hb2)];exact hb2
     have t3:cg H2 (upd H2 a (.ins t.aD dx2 (BX p {g with miss:=(bs.length:Int)} r1 q))):=λb' xs e=>by rw[aq (ju e g1 (by intro z;cases z))];exact e
     have bl2:=Yr g p
     refine⟨_,rfl,_,rfl,l,b,vs,bs,rfl,rfl,hl3,hb3,by lia,λc hc=>?_⟩
     have hcl:H c=none:=f1.lv _ (Lv.same s2 _ (Lv.upd _ hc))
     refine k c r1 (vs++bs) _ hcl hr1 ?_ ?_ ?_ aj ?_
     ·exact(aF P3.rl hc).symm
     ·rw[se1,yt hne he,<-hbl];exact P3.new hc
     ·refine⟨λb' o' e' h1' h2' h3'=>?_,f1.lv.trans ((Lv.same s2).trans (Lv.upd.trans Lv.upd))⟩
      have e2':=s2 _ _ (f1.kp b' o' e' h1' h2' h3')
      rw[aq (aF e' hcl),aq h1']
      exact e2'
     ·rw[se2,yt hne he,List.map_append]
      have tc:=bh (az (o:=.lst (vs++bs)) hc)
      exact aH.append (((rp.aZ (bh s2) (dg _)).aZ t3 (dg _)).aZ tc (dg _)) ((rpb.aZ t3 (dg _)).aZ tc (dg _))
theorem Ay(T:Txt K w mg t):cZ P w K mg base oY 1 t.cJ t.jo ["self","desk","number"] (atl t.aD):=by
 refine T.Dp.ok z8 (λvs H Q E h=>?_) (λcdv A outer s H vs Q E hr h=>?_)
 ·obtain⟨a,r,q,p,g,d,n,rfl,_⟩:=h;rfl
 ·obtain⟨a,r,q,p,g,d,n,rfl,PA,k⟩:=h
  refine⟨_,(ak (gA (pv 0) (pv 2) (by rfl))
   (ak (b8 (aU cR (cM (pv 0) (by rfl)) (pv 1) (bu _)) (aB (gA (pv 0) tX (by rfl))) bD)
   (aB (bf (bO ao))))),?_⟩
  try dsimp only[dm,Cx.lu]
  show let Z1:L2.TS:=_;let Z2:L2.TS:=_;let Z3:L2.TS:=di _ Z2 bN;let Z4:L2.TS:=_;let D0:Ends:=_;(aR Z1 (aR Z3 (Z4))) D0 _ _
  intro Z1 Z2 Z3 Z4 D0
  obtain⟨⟨dx,h1⟩,_⟩:=id PA
  refine⟨_,rfl,_,rfl,a,_,dx,_,rfl,h1,T.aQ,T.fD,vP,?_⟩
  rw[aj7]
  have P1:=PA.wr (dx:=dx) (g':={g with num:=n}) rfl rfl
  have f1:PF H (upd H a (.ins t.aD dx (BX p {g with num:=n} r q))) a r q:=PF.wr
  generalize upd H a (.ins t.aD dx (BX p {g with num:=n} r q))=H1 at P1 f1
  try dsimp only[bN]
  refine gf (λσ' H'=>σ'=[some (.ref a),some (.int d),some (.int n)]/\gj t.aD H' a r q p {g with num:=n,wr:=if g.wr=some d then none else g.wr}/\PF H H' a r q) (λN hN=>?_) ?_
  ·obtain⟨⟨yg,g1⟩,_⟩:=id P1
   have sc:asr (wrV g.wr) (.int d)=true:=by cases g.wr<;>rfl
   refine⟨_,rfl,a,_,yg,_,_,rfl,g1,T.aQ,T.cj,uh,_,rfl,sc,_,rfl,?_⟩
   by_cases e:g.wr=some d
   ·refine bI (by show decide (wrV g.wr=V.int d)=true;rw[e];exact decide_eq_true rfl) ?_
    refine⟨_,rfl,a,_,yg,_,rfl,g1,T.aQ,T.cj,vP,?_⟩
    rw[aj8]
    refine hN _ _ ⟨rfl,?_,f1.trans PF.wr⟩
    rw[if_pos e]
    exact P1.wr rfl rfl
   ·refine aP (decide_eq_false λz=>e ?_) ?_
    ·cases hw:g.wr with
     | none=>rw[hw]at z;cases z
     | some x=>rw[hw]at z;have:=V.int.inj z;exact congrArg some (by lia)
    ·refine hN _ _ ⟨rfl,?_,f1⟩
     rw[if_neg e]
     exact P1
  ·rintro σ' H2 ⟨rfl,P2,f2⟩
   refine⟨Dg,λl hl=>?_⟩
   exact k l r [] _ (f2.lv _ hl) (.inl rfl) (aF P2.rl hl).symm (P2.new hl) (f2.trans (PF.new hl)) aj (by simp[PG.take,aH])
theorem Dv(T:Txt K w mg t):cZ P w K mg base oY 4 t.cP t.jC ["self","desk","right"] (awA t.aD):=by
 refine T.Ge.ok Dj (λvs H Q E h=>?_) (λcdv A outer s H vs Q E hr h=>?_)
 ·obtain⟨a,r,q,p,g,x,d,rfl,_⟩:=h;rfl
 ·obtain⟨a,r,q,p,g,x,d,rfl,PA,hx,hrw,hmu,k⟩:=h
  have sl:sizeLine=16777216:=by decide
  refine⟨_,(ak (bM (eN PySem.F.plainAttrs_list PySem.F.slot_list_append PySem.F.type_list_append cD (cM (pv 0) (by rfl)) (aa (cu (aa (pv 1) (aa (pv 2) ao))) ao)))
   (aB (bf (qF (aU cR (dI dJ (by rfl) T.yU PySem.boot_len (aa (cM (pv 0) (by rfl)) ao)) aA (bu _)) (t7 (pv 0) T.aQ T.uY (u6 T) (hr.mono (by decide):bR 3 _) T.wB .nil bW) (bO ao))))),?_⟩
  try dsimp only[dm,Cx.lu]
  show let Z1:L2.TS:=_;let Z2:L2.TS:=_;let D0:Ends:=_;(aR Z1 (Z2)) D0 _ _
  intro Z1 Z2 D0
  obtain⟨⟨dx,h1⟩,h2,⟨vs,h3,h4⟩,h5⟩:=id PA
  have hvl:vs.length=g.ask.length:=by rw[h4.length,List.length_map]
  have hal:g.ask.length<=900000:=by unfold PG.mu at hmu;lia
  refine⟨_,rfl,a,_,dx,_,_,rfl,h1,T.aQ,T.dh,tR,.inl ⟨rfl,_,bZ.of h3⟩,_,rfl,_,rfl,vC,λtt ht=>?_⟩
  have s1:=az (o:=.tup [.int d,.str x.s]) ht
  refine⟨q,vs,_,rfl,rfl,s1 _ _ h3,by lia,?_⟩
  have rp:aH (upd H tt (.tup [.int d,.str x.s])) (vs++[.ref tt]) ((g.ask++[(d,x)]).map sO):=by
   rw[List.map_append]
   refine aH.snoc (h4.aZ (bh s1) (lg _)) ?_
   simp only[sO,Rep,aH]
   exact⟨tt,_,rfl,aj,_,_,rfl,rfl,_,_,rfl,rfl,rfl⟩
  have P1:=(PA.same s1).wrQ (l:=g.ask++[(d,x)]) rp
  have f1:PF H (upd (upd H tt (.tup [.int d,.str x.s])) q (.lst (vs++[.ref tt]))) a r q:=(PF.new ht).trans PF.wrQ
  generalize upd (upd H tt (.tup [.int d,.str x.s])) q (.lst (vs++[.ref tt]))=H1 at P1 f1
  obtain⟨⟨yg,g1⟩,_,⟨us,g3,g4⟩,_⟩:=id P1
  have hul:us.length=g.ask.length+1:=by rw[g4.length,List.length_map];simp
  refine⟨_,rfl,a,_,yg,_,_,rfl,g1,T.aQ,T.dh,tR,q,us,rfl,.inl (bZ.of g3),rfl,_,rfl,?_⟩
  by_cases e:g.ask=[]
  ·refine bI (decide_eq_true (by rw[hul,e];rfl)) ?_
   refine⟨_,rfl,a,yg,_,rfl,g1,ach,a,r,q,p,_,rfl,P1,?_,?_,λl r' ws H' hl hr' nl P' f' hl' rp'=>?_⟩
   ·intro y hy
    rcases List.mem_append.mp hy with hy | hy
    ·exact hrw y hy
    ·have:y=(d,x):=by simpa using hy
     rw[this];exact hx
   ·unfold PG.mu at hmu ⊢;simp;lia
   ·have ek:g.take p d (.ask p x)=PG.serve {g with ask:=g.ask++[(d,x)]} p:=by simp only[PG.take];rw[if_pos e,e];rfl
    refine k l r' ws H' (f1.lv _ hl) ?_ nl ?_ (f1.trans f') hl' ?_
    ·rcases hr' with z | z
     ·exact .inl z
     ·exact .inr (f1.lv _ z)
    ·rw[ek];exact P'
    ·rw[ek];exact rp'
  ·refine aP (decide_eq_false ?_) ?_
   ·intro z
    have z1:=V.int.inj z
    have:g.ask.length≠0:=λy=>e (List.length_eq_zero_iff.mp y)
    lia
   refine⟨Dg,λl hl=>?_⟩
   have ek:g.take p d (.ask p x)=({g with ask:=g.ask++[(d,x)]},[]):=by simp only[PG.take];rw[if_neg e]
   exact k l r [] _ (f1.lv _ hl) (.inl rfl) (aF P1.rl hl).symm (by rw[ek];exact P1.new hl) (f1.trans (PF.new hl)) aj (by rw[ek];simp[aH])
theorem xP(T:Txt K w mg t):cZ P w K mg base oY 4 t.cF t.iZ ["self","number"] (awB t.aD):=by
 refine T.yQ.ok xu (λvs H Q E h=>?_) (λcdv A outer s H vs Q E hr h=>?_)
 ·obtain⟨a,r,q,p,g,o,d,rfl,_⟩:=h;rfl
 ·obtain⟨a,r,q,p,g,o,d,rfl,PA,hms,hrw,hmu,k⟩:=h
  have sl:sizeLine=16777216:=by decide
  refine⟨_,(ak (b8 (wX (vG (pv 1))) (aB (gA (pv 0) (pv 1) (by rfl))) bD)
   (ak (akU (pv 0) aA asu)
   (ak (b8 (aU BR (cM (pv 0) (by rfl)) aA (bu _)) (aB (bf (bO ao))) bD)
   (aB (bf (bG m6 (bO (aa (t7 (pv 0) T.aQ T.wC (wD T) (hr.mono (by decide):bR 2 _) T.yS .nil bW) ao)) (t7 (pv 0) T.aQ T.uY (u6 T) (hr.mono (by decide):bR 3 _) T.wB .nil bW))))))),?_⟩
  try dsimp only[dm,Cx.lu]
  show let Z1:L2.TS:=_;let Z2:L2.TS:=di _ Z1 bN;let Z3:L2.TS:=_;let Z4:L2.TS:=_;let Z5:L2.TS:=di _ Z4 bN;let Z6:L2.TS:=_;let D0:Ends:=_;(aR Z2 (aR Z3 (aR Z5 (Z6)))) D0 _ _
  intro Z1 Z2 Z3 Z4 Z5 Z6 D0
  try dsimp only[bN]
  refine gf (λσ' H'=>σ'=[some (.ref a),some (oV o)]/\gj t.aD H' a r q p {g with num:=o.getD g.num}/\PF H H' a r q) (λN hN=>?_) ?_
  ·obtain⟨⟨dx,h1⟩,_⟩:=id PA
   refine⟨_,rfl,_,rfl,?_⟩
   cases o with
   | none =>
     refine aP rfl ?_
     exact hN _ _ ⟨rfl,PA,PF.refl _ _ _ _⟩
   | some n =>
     refine bI rfl ?_
     refine⟨_,rfl,_,rfl,a,_,dx,_,rfl,h1,T.aQ,T.fD,vP,?_⟩
     show N _ (upd H a (.ins _ dx (gk "number" (.int n) _)))
     rw[aj7]
     exact hN _ _ ⟨rfl,PA.wr rfl rfl,PF.wr⟩
  ·rintro σ' H1 ⟨rfl,P1,f1⟩
   obtain⟨⟨dx,h1⟩,_⟩:=id P1
   refine⟨_,rfl,a,_,dx,_,_,rfl,h1,T.aQ,T.eO,R9,_,_,rfl,rfl,dx,_,h1,vP,?_⟩
   rw[agi]
   have P2:=P1.wr (dx:=dx) (g':={g with num:=o.getD g.num,miss:=g.miss - 1}) rfl rfl
   have f2:PF H (upd H1 a (.ins t.aD dx (BX p {g with num:=o.getD g.num,miss:=g.miss - 1} r q))) a r q:=f1.trans PF.wr
   generalize upd H1 a (.ins t.aD dx (BX p {g with num:=o.getD g.num,miss:=g.miss - 1} r q))=H2 at P2 f2
   generalize hg:({g with num:=o.getD g.num,miss:=g.miss - 1}:PG)=g2 at P2
   have hga:g2.ask=g.ask:=by rw[<-hg]
   have hgr:g2.rd=g.rd:=by rw[<-hg]
   have hgm:g2.miss=g.miss - 1:=by rw[<-hg]
   obtain⟨⟨dx2,g1⟩,_⟩:=id P2
   refine⟨_,rfl,a,_,dx2,_,_,rfl,g1,T.aQ,T.eO,R9,rfl,_,rfl,?_⟩
   have ek:g.take p d (.ans p o)=if g.miss - 1=0 then((g2.lent.serve p).1,g2.dW p++(g2.lent.serve p).2)else(g2,[]):=by simp only[PG.take];rw[hg]
   by_cases e:g.miss - 1=0
   ·refine aP (by rw[hgm,e];rfl) ?_
    rw[if_pos e]at ek
    cases xO:g2.ask with
    | nil=>exact absurd (hga▸xO) (hms e)
    | cons x0 q0 =>
      obtain⟨d0,x⟩:=x0
      have hx:x=.rd\/x=.wr:=hrw (d0,x) (by rw[<-hga,xO];simp)
      have hrl:g2.rd.length<=1000000:=by rw[hgr];unfold PG.mu at hmu;lia
      refine⟨_,rfl,a,dx2,_,rfl,g1,agj,a,r,q,p,g2,d0,x,q0,rfl,P2,xO,hx,hrl,λv r1 H3 hr1 P3 f3 rv=>?_⟩
      refine⟨zz1,λl1 hl1=>?_⟩
      have P4:=P3.new (o:=.lst [v]) hl1
      have f4:PF H2 (upd H3 l1 (.lst [v])) a r q:=f3.trans (PF.new hl1)
      have nl1:l1≠r1:=(aF P3.rl hl1).symm
      have nq1:l1≠q:=by obtain⟨_,_,⟨us,g3,_⟩,_⟩:=P3;exact(aF g3 hl1).symm
      have hv1:upd H3 l1 (.lst [v]) l1=some (.lst [v]):=aj
      have rv1:=Rep.aZ (bh (az (o:=.lst [v]) hl1)) (show(pairD (d0,.lend p x g2.num)).flat by simp only[pairD,D.flat,D.flats];exact⟨trivial,Let.flat _,trivial⟩) rv
      have aC9:=f3.lv _ hl1
      generalize upd H3 l1 (.lst [v])=H4 at P4 f4 hv1 rv1
      obtain⟨⟨dx4,k1⟩,_⟩:=id P4
      have hla:g2.lent.ask=q0:=by unfold PG.lent;rw[xO];dsimp only;split<;>rfl
      refine⟨_,rfl,a,dx4,_,rfl,k1,ach,a,r1,q,p,_,rfl,P4,?_,?_,λl r' ws H5 hl hr' nl P5 f5 hl5 rp5=>?_⟩
      ·rw[hla];intro y hy;exact hrw y (by rw[<-hga,xO];exact List.mem_cons_of_mem _ hy)
      ·refine Nat.le_trans g2.sS ?_
       unfold PG.mu at hmu ⊢;rw[hga,hgr];lia
      ·have az1:H5 l1=some (.lst [v]):=f5.kp l1 _ hv1 (P4.zT hv1) nl1 nq1
       have wl:ws.length<=3000000:=by
        rw[rp5.length,List.length_map]
        have h8:=g2.lent.yW p
        have h9:=g2.sS
        have h10:g2.mu<=900000:=by unfold PG.mu at hmu ⊢;rw[hga,hgr];lia
        lia
       refine⟨l1,l,[v],ws,rfl,rfl,az1,hl5,(by simp only[List.length_singleton];lia),λc hc=>?_⟩
       have fr1:r1=r\/H r1=none:=by
        rcases hr1 with z | z
        ·exact .inl z
        ·exact .inr (f2.lv _ z)
       refine k c r' ([v]++ws) _ (f2.lv _ (f4.lv _ (f5.lv _ hc))) ?_ (aF P5.rl hc).symm (by rw[ek];exact P5.new hc) ((f2.trans f4).trans' (f5.trans' (PF.new hc) hr') fr1) aj ?_
       ·rcases hr' with z | z
        ·rw[z];exact fr1
        ·exact .inr (f2.lv _ (f4.lv _ z))
       ·rw[ek]
        have h11:g2.dW p=[(d0,.lend p x g2.num)]:=by unfold PG.dW;rw[xO]
        rw[h11,List.map_append]
        have tc:=bh (az (o:=.lst ([v]++ws)) hc)
        refine aH.append ?_ (rp5.aZ tc (dg _))
        simp only[List.map_cons,List.map_nil,aH]
        have hfl:(pairD (d0,.lend p x g2.num)).flat:=by simp only[pairD,D.flat,D.flats];exact⟨trivial,Let.flat _,trivial⟩
        exact⟨v,[],rfl,Rep.aZ tc hfl (Rep.aZ (f5.tups P4) hfl rv1),rfl⟩
   ·refine bI (by rw[hgm];rw[decide_eq_false λz=>e (V.int.inj z)];rfl) ?_
    rw[if_neg e]at ek
    refine⟨Dg,λl hl=>?_⟩
    exact k l r [] _ (f2.lv _ hl) (.inl rfl) (aF P2.rl hl).symm (by rw[ek];exact P2.new hl) (f2.trans (PF.new hl)) aj (by rw[ek];simp[aH])
theorem adG(T:Txt K w mg t):cZ P w K mg base oY 5 t.iR t.Ak ["self","desk","letter"] (aiK t.iu t.aD):=by
 refine T.agM.ok Mt (λvs H Q E h=>?_) (λcdv A outer s H vs Q E hr h=>?_)
 ·obtain⟨A,m,G,b,l,d,rfl,_⟩:=h;rfl
 ·obtain⟨A0,m,G,b,l,d,rfl,HA,hb,hp,hg,hrw,hmu,k⟩:=h
  refine⟨_,(ak (bz (i:=3) Mt.nd rfl (Or.inl rfl) (aO bF (cM (pv 0) (by rfl)) (aO bC (pv 2) aA (λ_ _=>rfl)) (λ_ _=>rfl)))
   (ak (b8 (aU cR (aO bC (pv 2) aA (λ_ _=>rfl)) aC (bu _)) (aB (bf (cC (pv 3) T.aQ T.Dm (Dv T) (hr.mono (by decide):bR 4 _) T.Gf .nil bW (aa (pv 1) (aa (aO bC (pv 2) aA (λ_ _=>rfl)) ao))))) bD)
   (ak (b8 (aU cR (aO bC (pv 2) aA (λ_ _=>rfl)) aC (bu _)) (aB (bf (cC (pv 3) T.aQ T.xM (xP T) (hr.mono (by decide):bR 4 _) T.yR .nil bW (aa (aO bC (pv 2) aA (λ_ _=>rfl)) ao)))) bD)
   (aB (bf (cC (pv 3) T.aQ T.Ar (Ay T) (hr.mono (by decide):bR 1 _) T.Dq .nil bW (aa (pv 1) (aa (aO bC (pv 2) aA (λ_ _=>rfl)) ao)))))))),?_⟩
  try dsimp only[dm,Cx.lu]
  show let Z1:L2.TS:=_;let Z2:L2.TS:=_;let Z3:L2.TS:=di _ Z2 bN;let Z4:L2.TS:=_;let Z5:L2.TS:=di _ Z4 bN;let Z6:L2.TS:=_;let D0:Ends:=_;(aR Z1 (aR Z3 (aR Z5 (Z6)))) D0 _ _
  intro Z1 Z2 Z3 Z4 Z5 Z6 D0
  obtain⟨dx,h1⟩:=HA.ob
  have hpl:=HA.pl
  have PA:=HA.pg l.pg hp
  obtain⟨⟨yg,g1⟩,_⟩:=id PA
  refine⟨_,rfl,A0 .hall,_,dx,_,_,rfl,h1,T.aiZ,T.qD,ak9,zt rfl (dF.of hb) (UL.at1 l) ⟨A0 .pages,_,_,_,rfl,rfl,bZ.of hpl,bQ hp,?_⟩⟩
  have fin:∀lst r' vs H',H lst=none->(r'=A0 (.jc l.pg)\/H r'=none)->lst≠r'->gj t.aD H' (A0 (.gC l.pg)) r' (A0 (.jL l.pg)) l.pg ((G l.pg).take l.pg d l).1->PF H H' (A0 (.gC l.pg)) (A0 (.jc l.pg)) (A0 (.jL l.pg))->H' lst=some (.lst vs)->aH H' vs (((G l.pg).take l.pg d l).2.map pairD)->Q (.ref lst) H':=λlst r' vs H' hl hr' nl P' f' hl' rp=>by
   obtain⟨HA',hf⟩:=HA.page hp P' f' hr'
   refine k lst _ vs H' hl HA' hf (λx hx=>?_) (λx hx=>?_) (bK _ _ (by intro z;cases z)) hl' rp
   ·by_cases e:x=.jc l.pg
    ·rw[e,cY];exact hr'
    ·rw[bK _ _ e];exact .inl rfl
   ·by_cases e:x=.jc l.pg
    ·rw[e,cY];exact nl
    ·rw[bK _ _ e]
     intro z
     obtain⟨o,e1,_⟩:=HA.live x hx
     rw[<-z,hl]at e1;cases e1
  cases l with
  | ask p x =>
    refine zt rfl (dF.of hb) rfl ⟨rfl,_,rfl,?_⟩
    refine bI fK ?_
    refine⟨_,rfl,_,yg,_,rfl,g1,ate,_,rfl,zt rfl (dF.of hb) rfl ⟨_,_,_,p,G p,x,d,rfl,PA,hg,hrw,hmu,λlst r' vs H' hl hr' nl P' f' hl' rp=>fin lst r' vs H' hl hr' nl P' f' hl' rp⟩⟩
  | ans p o =>
    refine zt rfl (dF.of hb) rfl ⟨rfl,_,rfl,?_⟩
    refine aP (dj (by decide +kernel)) ?_
    refine zt rfl (dF.of hb) rfl ⟨rfl,_,rfl,?_⟩
    refine bI fK ?_
    refine⟨_,rfl,_,yg,_,rfl,g1,atf,zt rfl (dF.of hb) rfl ⟨_,_,_,p,G p,o,d,rfl,PA,hg,hrw,hmu,λlst r' vs H' hl hr' nl P' f' hl' rp=>fin lst r' vs H' hl hr' nl P' f' hl' rp⟩⟩
  | gave p n =>
    refine zt rfl (dF.of hb) rfl ⟨rfl,_,rfl,?_⟩
    refine aP (dj (by decide +kernel)) ?_
    refine zt rfl (dF.of hb) rfl ⟨rfl,_,rfl,?_⟩
    refine aP (dj (by decide +kernel)) ?_
    refine⟨_,rfl,_,yg,_,rfl,g1,atg,_,rfl,zt rfl (dF.of hb) rfl ⟨_,_,_,p,G p,d,n,rfl,PA,λlst r' vs H' hl hr' nl P' f' hl' rp=>fin lst r' vs H' hl hr' nl P' f' hl' rp⟩⟩
theorem adH(T:Txt K w mg t):cZ P w K mg base oY 3 t.iQ t.Aj ["self","numbers"] (aiM t.iu t.aD):=by
 refine T.agK.ok adf (λvs H Q E h=>?_) (λcdv A outer s H vs Q E hr h=>?_)
 ·obtain⟨h,dx,l,ns,rfl,_⟩:=h;rfl
 ·obtain⟨h,dx,l,ns,rfl,hh,hl,hns,k⟩:=h
  have sl:sizeLine=16777216:=by decide
  refine⟨_,(aB (gA (pv 0) (jJ (fM (xs:=["page","number"]) (ys:=[]) (js:=[]) rfl (by decide +kernel) (by decide +kernel) (by decide +kernel) (by rfl) trivial) rfl (ao0 (by rfl) T.agY (aa (pv 1) ao)) (λ_ _ _ _ _=>(apc (K:=K) (n:=2) rfl rfl (jd (cN (i:=0) (show List.Nodup ((["page","number"]:List Str)++([]:List Str):List Str)by decide +kernel) rfl (Or.inl rfl)) (jd (cN (i:=1) (show List.Nodup ((["page","number"]:List Str)++([]:List Str):List Str)by decide +kernel) rfl (Or.inl rfl)) HW)))) (λ_ _ _ _ _=>kY) (λ_ _ _ _ _=>(acW T.Aq (Nt T) (hr.mono (by decide):bR 2 _) (by rfl) T.agB T.QQ .nil bW (aa (pv 0) (aa (pv 1) ao))))) (by rfl))),?_⟩
  try dsimp only[dm,Cx.lu]
  refine⟨_,rfl,l,rfl,⟨_,bZ.of hl⟩,λacc hacc=>?_⟩
  have nha:h≠acc:=aF hh hacc
  refine ak8 (xs:=ns.map V.int) (λi zs σ' H'=>(∃o1 o2,σ'=[o1,o2])/\bJ H H'/\H' acc=some (.lst zs)/\∃A:Hb->Addr,A .pages=acc/\A .hall=h/\(∀x y:Hb,x.ok i->y.ok i->A x=A y->x=y)/\(∀x:Hb,x.ok i->x≠.hall->H (A x)=none)/\zs=(List.range i).map (λp=>V.ref (A (.gC p)))/\
   ∀p,p<i->gj t.aD H' (A (.gC p)) (A (.jc p)) (A (.jL p)) p (pg0 ns p)) ?_ ?_ ?_ ?_
  ·refine⟨⟨_,_,rfl⟩,az hacc,aj,λx=>if x=.hall then h else acc,rfl,rfl,?_,?_,rfl,λp hp=>absurd hp (Nat.not_lt_zero _)⟩
   ·intro x y hx hy e
    cases x<;>cases y<;>first
     | rfl
     | (exfalso;exact absurd hx (Nat.not_lt_zero _))
     | (exfalso;exact absurd hy (Nat.not_lt_zero _))
     | (exfalso;simp at e;exact nha e)
     | (exfalso;simp at e;exact nha e.symm)
   ·intro x hx hn
    show H (if x=.hall then h else acc)=none
    rw[if_neg hn];exact hacc
  ·rintro i zs σ' H' _ ⟨_,s',ha',_⟩
   exact⟨bZ.of (s' _ _ hl),ha'⟩
  ·rintro i y zs σ' H' b hy hi ⟨⟨o1,o2,rfl⟩,s',ha',A,eA,eh,inj,fr,rfl,pgs⟩ hb
   rw[List.length_map]at hi
   have hy':y=.int ns[i]:=by
    rw[List.getElem?_map,List.getElem?_eq_getElem hi]at hy
    exact(Option.some.inj hy).symm
   subst hy'
   refine⟨b,_,rfl,dF.of aj,rfl,_,_,rfl,_,_,rfl,rfl,?_⟩
   refine aj3 ?_
   refine⟨_,rfl,_,rfl,λx dx' hx hdx nx=>?_⟩
   have hx0:H' x=none:=Lv.upd _ hx
   have az2:H' dx'=none:=Lv.upd _ hdx
   refine⟨x,dx',i,ns[i],rfl,aj,λr q H3 hr3 hq3 P3 f3 lv3=>⟨rfl,?_⟩⟩
   have fb:∀c o,H' c=some o->H3 c=some o:=λc o e=>by
    refine f3 c o ?_ (aF e hx0)
    rw[aq (aF e hx0),aq (aF e az2),aq (aF e hb)]
    exact e
   have hr0:H' r=none:=Lv.upd _ (Lv.upd _ (Lv.upd _ hr3))
   have hq0:H' q=none:=Lv.upd _ (Lv.upd _ (Lv.upd _ hq3))
   have ha3:=fb _ _ ha'
   have live:∀z:Hb,z.ok i->∃o,H' (A z)=some o:=λz hz=>by
    cases z with
    | hall=>rw[eh];exact⟨_,s' _ _ hh⟩
    | pages=>rw[eA];exact⟨_,ha'⟩
    | gC p=>obtain⟨⟨dz,e⟩,_⟩:=pgs p hz;exact⟨_,e⟩
    | jc p=>exact⟨_,(pgs p hz).rl⟩
    | jL p=>obtain⟨vs,e,_⟩:=(pgs p hz).al;exact⟨_,e⟩
   have nxr:x≠r:=P3.nar
   have nxq:x≠q:=P3.naq
   have nrq:r≠q:=P3.ne
   have hzl:((List.range i).map λp=>V.ref (A (.gC p))).length<sizeLine:=by rw[List.length_map,List.length_range];lia
   refine t8.mk (by rw[List.length_map];exact hi) ha3 hzl ?_
   have sn:bJ H (upd H3 acc (.lst ((List.range i).map (λp=>V.ref (A (.gC p)))++[.ref x]))):=dX (λc o e=>fb c o (s' c o e)) hacc
   have tm:cg H' (upd H3 acc (.lst ((List.range i).map (λp=>V.ref (A (.gC p)))++[.ref x]))):=(λc xs e=>jK ha3 c xs (fb c _ e))
   have nn:∀(z:Hb) (a:Addr),z.ok i->H' a=none->A z≠a:=λz a hz e e2=>by
    obtain⟨o,e3⟩:=live z hz;rw[e2,e]at e3;cases e3
   refine⟨⟨_,_,rfl⟩,sn,aj,jO (jO (jO A (.gC i) x) (.jc i) r) (.jL i) q,?_,?_,?_,?_,?_,?_⟩
   ·rw[bK _ _ (by intro z;cases z),bK _ _ (by intro z;cases z),bK _ _ (by intro z;cases z)];exact eA
   ·rw[bK _ _ (by intro z;cases z),bK _ _ (by intro z;cases z),bK _ _ (by intro z;cases z)];exact eh
   ·refine WM (ok:=λz=>z=.jc i\/z=.gC i\/z.ok i) (WM (ok:=λz=>z=.gC i\/z.ok i) (WM inj (λz hz=>nn z x hz hx0) (λz hz=>hz)) ?_ (λz hz=>hz)) ?_ ?_
    ·intro z hz
     by_cases e:z=.gC i
     ·rw[e,cY];exact nxr
     ·rw[bK _ _ e];exact nn z r (hz.resolve_left e) hr0
    ·intro z hz
     by_cases e:z=.jc i
     ·rw[e,cY];exact nrq
     ·rw[bK _ _ e]
      by_cases e2:z=.gC i
      ·rw[e2,cY];exact nxq
      ·rw[bK _ _ e2];exact nn z q ((hz.resolve_left e).resolve_left e2) hq0
    ·intro z hz
     cases z with
     | hall=>exact .inr (.inr (.inr trivial))
     | pages=>exact .inr (.inr (.inr trivial))
     | gC p =>
       have hz':p<i+1:=hz
       by_cases e:p=i
       ·exact .inr (.inr (.inl (by rw[e])))
       ·exact .inr (.inr (.inr (show p<i by lia)))
     | jc p =>
       have hz':p<i+1:=hz
       by_cases e:p=i
       ·exact .inr (.inl (by rw[e]))
       ·exact .inr (.inr (.inr (show p<i by lia)))
     | jL p =>
       have hz':p<i+1:=hz
       by_cases e:p=i
       ·exact .inl (by rw[e])
       ·exact .inr (.inr (.inr (show p<i by lia)))
   ·intro z hz hn
    by_cases e1:z=.jL i
    ·rw[e1,cY];exact bJ.free s' hq0
    ·rw[bK _ _ e1]
     by_cases e2:z=.jc i
     ·rw[e2,cY];exact bJ.free s' hr0
     ·rw[bK _ _ e2]
      by_cases e3:z=.gC i
      ·rw[e3,cY];exact bJ.free s' hx0
      ·rw[bK _ _ e3]
       refine fr z ?_ hn
       cases z with
       | hall=>trivial
       | pages=>trivial
       | gC p=>have hz':p<i+1:=hz;exact show p<i from Nat.lt_of_le_of_ne (Nat.le_of_lt_succ hz') λy=>e3 (by rw[y])
       | jc p=>have hz':p<i+1:=hz;exact show p<i from Nat.lt_of_le_of_ne (Nat.le_of_lt_succ hz') λy=>e2 (by rw[y])
       | jL p=>have hz':p<i+1:=hz;exact show p<i from Nat.lt_of_le_of_ne (Nat.le_of_lt_succ hz') λy=>e1 (by rw[y])
   ·rw[List.range_succ,List.map_append]
    congr 1
    ·refine List.map_congr_left λp hp=>?_
     have hp':p<i:=List.mem_range.mp hp
     rw[bK _ _ (by intro z;cases z),bK _ _ (by intro z;cases z),bK _ _ (by intro z;cases z;exact Nat.lt_irrefl _ hp')]
    ·show [V.ref x]=[V.ref _]
     rw[bK _ _ (by intro z;cases z),bK _ _ (by intro z;cases z),cY]
   ·intro p hp
    have alj:∀(c:Addr) (o:HO),H3 c=some o->c≠acc->upd H3 acc (.lst ((List.range i).map (λp=>V.ref (A (.gC p)))++[.ref x])) c=some o:=λc o e n=>by rw[aq n];exact e
    by_cases e:p=i
    ·subst e
     rw[bK _ _ (by intro z;cases z),bK _ _ (by intro z;cases z),cY,bK _ _ (by intro z;cases z),cY,cY]
     have e0:pg0 ns p=⟨ns[p],none,[],[],0⟩:=by unfold pg0;rw[List.getElem?_eq_getElem hi];rfl
     rw[e0]
     exact P3.keep (jK ha3) (λo e=>alj _ o e (aF ha' hx0).symm) (λo e=>alj _ o e (aF ha' hr0).symm) λo e=>alj _ o e (aF ha' hq0).symm
    ·have hp':p<i:=by lia
     rw[bK _ _ (by intro z;cases z),bK _ _ (by intro z;cases z),bK _ _ (by intro z;cases z;exact e rfl),bK _ _ (by intro z;cases z),bK _ _ (by intro z;cases z;exact e rfl),bK _ _ (by intro z;cases z),bK _ _ (by intro z;cases z;exact e rfl),bK _ _ (by intro z;cases z),bK _ _ (by intro z;cases z)]
     have na:∀z:Hb,z.ok i->z≠.pages->A z≠acc:=λz hz hn e2=>hn (inj z .pages hz trivial (by rw[e2,eA]))
     exact(pgs p hp').keep tm (λo e=>alj _ o (fb _ o e) (na (.gC p) hp' (by intro z;cases z))) (λo e=>alj _ o (fb _ o e) (na (.jc p) hp' (by intro z;cases z))) λo e=>alj _ o (fb _ o e) (na (.jL p) hp' (by intro z;cases z))
  ·rintro zs σ' H' ⟨_,s',ha',A,eA,eh,inj,fr,rfl,pgs⟩
   rw[List.length_map]at inj fr ha' pgs
   refine⟨_,rfl,h,_,dx,[],rfl,s' _ _ hh,T.aiZ,T.qD,(by show 0<1000;decide),?_⟩
   rw[amM]
   have live:∀z:Hb,z.ok ns.length->z≠.hall->A z≠h:=λz hz hn e=>hn (inj z .hall hz trivial (by rw[e,eh]))
   have tm:cg H' (upd H' h (.ins t.iu dx (hfl acc))):=λc xs e=>by rw[aq (ju e (s' _ _ hh) (by intro z;cases z))];exact e
   have kk:∀z:Hb,z.ok ns.length->z≠.hall->∀o,H' (A z)=some o->upd H' h (.ins t.iu dx (hfl acc)) (A z)=some o:=λz hz hn o e=>by rw[aq (live z hz hn)];exact e
   refine k A _ eh fr ⟨inj,⟨dx,by rw[eh,eA,aj]⟩,?_,λp hp=>?_⟩ (λb o e hb=>by rw[aq hb];exact s' b o e) ((Lv.same s').trans Lv.upd)
   ·rw[eA,aq (by rw[<-eA];exact live .pages trivial (by intro z;cases z))];exact ha'
   ·exact(pgs p hp).keep tm (kk (.gC p) hp (by intro z;cases z)) (kk (.jc p) hp (by intro z;cases z)) (kk (.jL p) hp (by intro z;cases z))
theorem fG{H:Hp}{a:Addr}{kvs:List (Key×V)}{k:Key}{v:V}(h:H a=some (.dK kvs))(e:fW kvs k=some v):Ij H a (kV k) (some v):=by rw[<-e];exact Ij.k h
theorem dput{H:Hp}{a:Addr}{kvs kvs':List (Key×V)}{k:Key}{v:V}(h:H a=some (.dK kvs))(hl:kvs.length<sizeLine)(e:putK kvs k v=kvs'):aiA H a (kV k) v (upd H a (.dK kvs')):=by rw[<-e];exact aiA.k h hl
theorem awQ{x y:V}{c:Bool}:Qu [x,y] (if c then 1 else 0)=some (if c then y else x):=by cases c<;>rfl
def Cq(S:TS)(se:List (Nat×Let))(k:Nat):Prop:=(∀d,(S.dn d).length+k<=16000000)/\se.length+k<=16000000
def atX:Sp:=λvs H Q _=>∃A n m S se,∃p:Nat,∃d x l,vs=[.ref (A .bc),.int p]/\aY H A n m S se/\p<m/\(S.pg p).ask=(d,x)::l/\(x=.rd\/x=.wr)/\(∀q∈(S.pg p).cO p,q.1<n)/\(S.pg p).rd.length<=1000000/\Cq S se ((S.pg p).cO p).length/\
 ∀H',aY H' A n m {S with dn:=post S.dn ((S.pg p).cO p)} (se++(S.pg p).cO p)->nj H H' A n m->Q (.int ((S.pg p).cO p).length) H'
def Ys(x:Nat×Let):D:=match x.2 with
 | .back _ r=>.t [.i x.1,.s r.s]
 | .lend _ r _=>.t [.i x.1,.s r.s]
theorem tW(l:List (Nat×Let)):D.flats (l.map Ys):=bY (λx=>by obtain⟨d,l⟩:=x;cases l<;>simp[Ys,D.flat,D.flats]) l
def az3(p:Nat)(x:Nat×Let):Prop:=∃r,x.2=.back p r
theorem apq(g:PG)(p:Nat):∀q∈g.cO p,az3 p q:=by
 intro q hq
 unfold PG.cO at hq
 split at hq
 ·cases hq
 ·rename_i a r l _
  rcases List.mem_append.mp hq with h | h
  ·unfold ph at h
   split at h
   ·split at h
    ·cases h
    ·have this:=List.mem_singleton.mp h
     rw[this];exact⟨_,rfl⟩
   ·cases h
  ·unfold pq at h
   split at h
   ·obtain⟨d,_,e⟩:=List.mem_map.mp h
    rw[<-e];exact⟨_,rfl⟩
   ·cases h
theorem am8{H:Hp}{vs:List V}{l:List (Nat×Let)}{i:Nat}{v:V}(r:aH H vs (l.map Ys))(hv:vs[i]? = some v):∃x,l[i]? = some x/\Rep H v (Ys x):=by
 induction l generalizing vs i with
 | nil=>have:=aH.nil_inv (by simpa using r);subst this;simp at hv
 | cons x l ih =>
   obtain⟨u,us,rfl,r1,r2⟩:=aH.cons_inv (by simpa using r)
   cases i with
   | zero=>simp at hv;subst hv;exact⟨x,rfl,r1⟩
   | succ i=>simp at hv;obtain⟨y,h1,h2⟩:=ih r2 hv;exact⟨y,by simpa using h1,h2⟩
theorem am9(T:Txt K w mg t):cZ P w K mg base oY 1 t.vY t.XJ ["_law_town","_law_page"] atX:=by
 refine T.akn.ok qJ (λvs H Q E h=>?_) (λcdv A outer s H vs Q E hr h=>?_)
 ·obtain⟨A,n,m,S,se,p,d,x,l,rfl,_⟩:=h;rfl
 ·obtain⟨A,n,m,S,se,p,d,x,l,rfl,M,hp,ha,hx,hn,hrd,hro,k⟩:=h
  have hu:=lG hr
  have sl:sizeLine=16777216:=by decide
  refine⟨_,(ak (bz (i:=2) qJ.nd rfl (Or.inl rfl) (aO bF (bH hu (pv 0) aC (λ_ _=>rfl)) (pv 1) (λ_ _=>rfl)))
   (ak (zH (aO bF (bH hu (pv 2) aC (λ_ _=>rfl)) aA (λ_ _=>rfl)) (Qq rfl (jd (cN (i:=3) qJ.nd rfl (Or.inr rfl)) (jd (cN (i:=4) qJ.nd rfl (Or.inl rfl)) HW))))
   (ak (bz (i:=5) qJ.nd rfl (Or.inl rfl) (bO ao))
   (ak (b8 (PW.pt (Qp (aU W2 (bH hu (pv 2) aC (λ_ _=>rfl)) aA (bu _)) (Lx (aU BR (bH hu (pv 2) aC (λ_ _=>rfl)) (pv 3) (bu _))))) (aB (bM (eN PySem.F.plainAttrs_list PySem.F.slot_list_append PySem.F.type_list_append cD (pv 5) (aa (cu (aa (bH hu (pv 2) aC (λ_ _=>rfl)) (aa (aO bF (bO (aa aC (aa aC ao))) (iw mK (by rfl) T.Nm PyProof.Rows.Boot.«int» (aa (kO cR (pv 4) aC (bu _)) ao)) (λ_ _=>rfl)) ao))) ao)))) bD)
   (ak (b8 (aU cR (pv 4) aC (bu _)) (aB (bz (i:=5) qJ.nd rfl (Or.inl rfl) (bG m6 (pv 5) (jJ (fM (xs:=["_law_one"]) (ys:=["_law_desk"]) (js:=[3]) rfl (by decide +kernel) (by decide +kernel) (by decide +kernel) (by rfl) ⟨⟨rfl,Or.inl rfl⟩,trivial⟩) rfl (lO (bH hu (pv 2) aC (λ_ _=>rfl))) (λ_ _ _ _ _=>(cN (i:=0) (show List.Nodup ((["_law_one"]:List Str)++(["_law_desk"]:List Str):List Str)by decide +kernel) rfl (Or.inl rfl))) (λ_ _ _ _ _=>(aj2 (aU BR (pv 0) (pv 1) (bu _)))) (λ_ _ _ _ _=>(cu (aa (pv 0) (aa aC ao)))))))) bD)
   (ak (tY PassesOwn.never rfl (lO (pv 5)) (Qq rfl (jd (cN (i:=6) qJ.nd rfl (Or.inl rfl)) (jd (cN (i:=7) qJ.nd rfl (Or.inl rfl)) HW))) (ak (bM (eN PySem.F.plainAttrs_list PySem.F.slot_list_append PySem.F.type_list_append cD (aO bF (bH hu (pv 0) aC (λ_ _=>rfl)) (pv 6) (λ_ _=>rfl)) (aa (cu (aa aC (aa (pv 1) (aa (pv 7) ao)))) ao)))
   (aB (bM (eN PySem.F.plainAttrs_list PySem.F.slot_list_append PySem.F.type_list_append cD (bH hu (pv 0) aC (λ_ _=>rfl)) (aa (cu (aa (pv 6) (aa (cu (aa aC (aa (pv 1) (aa (pv 7) ao)))) ao))) ao))))))
   (aB (bf (dI dJ (by rfl) T.yU PySem.boot_len (aa (pv 5) ao)))))))))),?_⟩
  try dsimp only[dm,Cx.lu]
  show let Z1:L2.TS:=_;let Z2:L2.TS:=_;let Z3:L2.TS:=_;let Z4:L2.TS:=_;let Z5:L2.TS:=di _ Z4 bN;let Z6:L2.TS:=_;let Z7:L2.TS:=di _ Z6 bN;let Z8:L2.TS:=_;let Z9:L2.TS:=_;let Cp:L2.TS:=aR Z8 (Z9);let Nu:L2.TS:=Ub _ _ Cp;let Nv:L2.TS:=_;let D0:Ends:=_;(aR Z1 (aR Z2 (aR Z3 (aR Z5 (aR Z7 (aR Nu (Nv))))))) D0 _ _
  intro Z1 Z2 Z3 Z4 Z5 Z6 Z7 Z8 Z9 Cp Nu Nv D0
  obtain⟨as,h3,h4⟩:=M.jL hp
  rw[ha]at h4
  obtain⟨tt,us,rfl,h6,h7⟩:=HY h4
  have hsh:=M.bU hp
  refine Ui rfl (fG M.bc jZ) rfl (bZ.of M.cV) (bQ hp) ?_
  refine zd rfl (fG hsh Ib) ⟨A (.jL p),_,0,_,rfl,rfl,bZ.of h3,atm _ _,tt,_,rfl,dF.of h6,rfl,_,_,rfl,_,_,rfl,rfl,?_⟩
  refine⟨Dg,λbl hb=>?_⟩
  generalize hg:S.pg p=g at *
  have hbl:g.cO p=ph g p d x++pq g p d x:=by unfold PG.cO;rw[ha]
  have s0:=az (o:=.lst []) hb
  try dsimp only[bN]
  refine gf (λσ' H'=>σ'=[some (.ref (A .bc)),some (.int p),some (.ref (A (.bU p))),some (.int d),some (.str x.s),some (.ref bl),none,none]/\bJ H H'/\∃us,H' bl=some (.lst us)/\us.length<=1/\aH H' us ((ph g p d x).map Ys)) (λN hN=>?_) ?_
  ·have l0:=s0 _ _ hsh
   refine zd rfl (fG l0 uo) ⟨_,_,rfl,rfl,_,rfl,?_⟩
   cases hw:g.wr with
   | none =>
     refine aP rfl (w6 ?_)
     exact hN _ _ ⟨rfl,s0,[],aj,Nat.zero_le _,by rw[Yq hw];simp[aH]⟩
   | some wv =>
     refine bI (decide_eq_true (Int.natCast_nonneg _)) ?_
     have l1:fW (zF g (A (.jc p)) (A (.jL p))) (ks "writer")=some (.int wv):=by rw[uo,hw];rfl
     refine zd rfl (fG l0 l1) ⟨_,rfl,rfl,_,rfl,?_⟩
     by_cases e:wv=d
     ·subst e
      refine aP (by simp) ?_
      exact hN _ _ ⟨rfl,s0,[],aj,Nat.zero_le _,by rw[acw hw];simp[aH]⟩
     ·refine bI (by rw[decide_eq_false λz=>e (by have:=V.int.inj z;lia)];rfl) ?_
      refine⟨_,rfl,.inl ⟨rfl,_,bZ.of aj⟩,zd rfl (fG l0 l1) ⟨vC,λz hz=>?_⟩⟩
      have s1:bJ (upd H bl (.lst [])) (upd (upd H bl (.lst [])) z (.lst [.str "none",.str "read"])):=az hz
      refine⟨_,rfl,rfl,.inr ⟨_,rfl,z,_,_,.str (low x).s,rfl,rfl,bZ.of aj,?_,vC,λc hc=>?_⟩⟩
      ·rcases hx with hx | hx<;>subst hx<;>kernel_rfl
      ·have nz:bl≠z:=λy=>by rw[<-y,aj]at hz;cases hz
       have nc:bl≠c:=λy=>by rw[<-y,aq nz,aj]at hc;cases hc
       refine⟨bl,[],_,rfl,rfl,(by rw[aq nc,aq nz,aj]),(by show 0<sizeLine;decide),?_⟩
       refine hN _ _ ⟨rfl,dX ((s0.trans s1).trans (az hc)) hb,_,aj,Nat.le_refl _,?_⟩
       rw[Sx hw e]
       simp only[List.map_cons,List.map_nil,aH,Ys,Rep]
       exact⟨_,_,rfl,⟨c,_,rfl,by rw[aq nc.symm,aj],_,_,rfl,rfl,_,_,rfl,rfl,rfl⟩,rfl⟩
  ·rintro σ' H1 ⟨rfl,s1,us1,hb1,hl1,rp1⟩
   try dsimp only[bN]
   refine gf (λσ' H'=>∃b2 us,σ'=[some (.ref (A .bc)),some (.int p),some (.ref (A (.bU p))),some (.int d),some (.str x.s),some (.ref b2),none,none]/\bJ H H'/\H b2=none/\H' b2=some (.lst us)/\aH H' us ((g.cO p).map Ys)) (λN hN=>?_) ?_
   ·refine⟨_,rfl,rfl,_,rfl,?_⟩
    rcases hx with hx | hx
    ·subst hx
     refine aP (oZ (x:="write") (q:=.wr) rfl (by intro z;cases z)) ?_
     refine hN _ _ ⟨bl,us1,rfl,s1,hb,hb1,?_⟩
     have:pq g p d .rd=[]:=by unfold pq;rw[if_neg (by intro z;cases z)]
     rw[hbl,this,List.append_nil]
     exact rp1
    ·subst hx
     refine bI fK ?_
     have hrl:H1 (A (.jc p))=some (.lst (g.rd.map nV)):=by have:=s1 _ _ (M.jc hp);rw[hg]at this;exact this
     refine⟨_,rfl,zd rfl (fG (s1 _ _ hsh) vQ) ⟨A (.jc p),rfl,⟨_,bZ.of hrl⟩,λacc hacc=>?_⟩⟩
     have nbl:bl≠acc:=aF hb1 hacc
     let PV1:Nat->List V->St->Hp->Prop:=λi zs σ' H'=>(∃o,σ'=[o,some (.int d)])/\bJ H1 H'/\H' acc=some (.lst zs)/\zs.length<=i/\aH H' zs ((((g.rd.take i).filter λe=>decide (e≠d)).map λe=>(e,Let.back p .no)).map Ys)
     refine yo (xs:=g.rd.map nV) PV1 ?_ ?_ ?_ ?_
     ·exact⟨⟨_,rfl⟩,az hacc,aj,Nat.le_refl _,by simp[aH]⟩
     ·rintro i zs σ' H' _ ⟨_,s',ha',_⟩
      exact⟨bZ.of (s' _ _ hrl),ha'⟩
     ·rintro i y zs σ' H' hy hi ⟨⟨o,rfl⟩,s',ha',hz,rp⟩
      rw[List.length_map]at hi
      have hy':y=.int (g.rd[i]:Nat):=by
       rw[List.getElem?_map,List.getElem?_eq_getElem hi]at hy
       exact(Option.some.inj hy).symm
      subst hy'
      have htk:g.rd.take (i+1)=g.rd.take i++[g.rd[i]]:=by rw[List.take_add_one,List.getElem?_eq_getElem hi];rfl
      refine⟨_,rfl,_,rfl,rfl,_,rfl,?_⟩
      by_cases e:g.rd[i]=d
      ·refine aP (by rw[e];simp) (Xf.mk (by rw[List.length_map];exact hi) ?_)
       refine⟨⟨_,rfl⟩,s',ha',by lia,?_⟩
       rw[htk,List.filter_append,List.filter_cons_of_neg (by simp[e])]
       simpa using rp
      ·refine bI (by rw[decide_eq_false λz=>e (by have:=V.int.inj z;lia)];rfl) ?_
       refine⟨_,rfl,vC,λcc hc2=>?_⟩
       have nc:acc≠cc:=aF ha' hc2
       have h6':upd H' cc (.tup [.int (g.rd[i]:Nat),.str "none"]) acc=some (.lst zs):=by rw[aq nc];exact ha'
       refine t8.mk (by rw[List.length_map];exact hi) h6' (by lia) ?_
       have sup:=az (o:=.tup [.int (g.rd[i]:Nat),.str "none"]) hc2
       refine⟨⟨_,rfl⟩,dX (s'.trans sup) hacc,aj,by rw[List.length_append];simp;lia,?_⟩
       rw[htk,List.filter_append,List.filter_cons_of_pos (by simp[e]),List.filter_nil,List.map_append,List.map_append]
       have tm:=jK (vs:=zs++[.ref cc]) h6'
       refine aH.snoc ((rp.aZ (bh sup) (tW _)).aZ tm (tW _)) ?_
       simp only[Ys,Rep,aH]
       exact⟨cc,_,rfl,by rw[aq nc.symm,aj];rfl,_,_,rfl,rfl,_,_,rfl,rfl,rfl⟩
     ·rintro zs σ' H' ⟨_,s',ha',hz,rp⟩
      rw[List.length_map]at hz rp
      rw[List.take_length]at rp
      have hb':=s' _ _ hb1
      refine⟨bl,acc,us1,zs,rfl,rfl,hb',ha',by lia,λc hc=>?_⟩
      have hcn:H c=none:=Lv.same (s1.trans s') _ hc
      refine hN _ _ ⟨c,_,rfl,(s1.trans s').trans (az hc),hcn,aj,?_⟩
      have hrb:pq g p d .wr=(g.rd.filter λe=>decide (e≠d)).map λe=>(e,Let.back p .no):=by unfold pq;rw[if_pos rfl]
      rw[hbl,List.map_append,hrb]
      have tm:=bh (az (o:=.lst (us1++zs)) hc)
      exact aH.append ((rp1.aZ (bh s') (tW _)).aZ tm (tW _)) (rp.aZ tm (tW _))
   ·rintro σ' H2 ⟨b2,us2,rfl,s2,az4,hb2,rp2⟩
    have M2:=M.same s2
    have hlen:us2.length=(g.cO p).length:=by rw[rp2.length,List.length_map]
    refine⟨_,rfl,b2,rfl,⟨_,bZ.of hb2⟩,?_⟩
    let PV2:Nat->St->Hp->Prop:=λi σ' H'=>(∃o1 o2,σ'=[some (.ref (A .bc)),some (.int p),some (.ref (A (.bU p))),some (.int d),some (.str x.s),some (.ref b2),o1,o2])/\i<=us2.length/\aY H' A n m {S with dn:=post S.dn ((g.cO p).take i)} (se++(g.cO p).take i)/\nj H H' A n m/\H' b2=some (.lst us2)/\aH H' us2 ((g.cO p).map Ys)
    refine tZ (xs:=us2) PV2 ?_ ?_ ?_ ?_
    ·refine⟨⟨_,_,rfl⟩,Nat.zero_le _,?_,nj.of_same s2,hb2,rp2⟩
     simpa[post] using M2
    ·rintro i σ' H' _ ⟨_,_,_,_,hb',_⟩
     exact bZ.of hb'
    ·rintro i y σ' H' hy ⟨⟨o1,o2,rfl⟩,hi,M',f',hb',rp'⟩
     obtain⟨q,hq,rq⟩:=am8 rp' hy
     have hqm:q∈g.cO p:=List.mem_of_getElem? hq
     obtain⟨r,hbk⟩:=apq g p q hqm
     have hqn:=hn q hqm
     obtain⟨qd,ql⟩:=q
     have az5:ql=.back p r:=hbk
     subst az5
     have atY:qd<n:=hqn
     simp only[Ys,Rep,aH]at rq
     obtain⟨c,xs,rfl,hc,_,_,rfl,rfl,_,_,rfl,rfl,rfl⟩:=rq
     have hi':i<us2.length:=(List.getElem?_eq_some_iff.mp hy).1
     have htk:(g.cO p).take (i+1)=(g.cO p).take i++[(qd,.back p r)]:=by rw[List.take_add_one,hq];rfl
     refine⟨c,_,rfl,dF.of hc,rfl,_,_,rfl,_,_,rfl,rfl,?_⟩
     obtain⟨dv,d1,d2⟩:=M'.dn atY
     have hlb:((g.cO p).take i).length=i:=by rw[List.length_take];lia
     have hdl:dv.length<sizeLine:=by
      rw[d2.length,List.length_map]
      show(post S.dn ((g.cO p).take i) qd).length<_
      have:=Ml S.dn ((g.cO p).take i) qd
      have:=hro.1 qd
      lia
     refine Ui rfl (fG M'.bc Ia) rfl (bZ.of M'.downs) (bQ atY) ⟨.inl ⟨rfl,_,bZ.of d1⟩,_,rfl,_,rfl,zz3,λb hbn=>?_⟩
     have s3:=az (o:=.tup [.str "back",.int p,.str r.s]) hbn
     refine⟨A (.dn qd),dv,_,rfl,rfl,s3 _ _ d1,hdl,?_⟩
     have rp3:aH (upd H' b (.tup [.str "back",.int p,.str r.s])) (dv++[.ref b]) ((post S.dn ((g.cO p).take i) qd++[Let.back p r]).map Let.d):=by
      rw[List.map_append]
      refine aH.snoc (d2.aZ (bh s3) (bY Let.flat _)) ?_
      simp only[Let.d,Rep,aH]
      exact⟨b,_,rfl,aj,_,_,rfl,rfl,_,_,rfl,rfl,_,_,rfl,rfl,rfl⟩
     obtain⟨M4,f4⟩:=(M'.same s3).ala atY rp3
     have f34:nj H' (upd (upd H' b (.tup [.str "back",.int p,.str r.s])) (A (.dn qd)) (.lst (dv++[.ref b]))) A n m:=(nj.of_same s3).trans f4 (Mv.refl _ _ _ _)
     generalize upd (upd H' b (.tup [.str "back",.int p,.str r.s])) (A (.dn qd)) (.lst (dv++[.ref b]))=H4 at M4 f34
     obtain⟨sv,e1,e2⟩:=M4.sent
     have hsl:sv.length<sizeLine:=by
      rw[e2.length,List.length_map,List.length_append]
      have:=hro.2
      lia
     refine zd rfl (fG M4.bc agn) ⟨.inl ⟨rfl,_,bZ.of e1⟩,_,rfl,_,rfl,_,rfl,zz3,λb' az6=>⟨vC,λc' at3=>?_⟩⟩
     have s5:=(az (o:=.tup [.str "back",.int p,.str r.s]) az6).trans (az (o:=.tup [.int qd,.ref b']) at3)
     have nbc:b'≠c':=λz=>by rw[z,aj]at at3;cases at3
     refine⟨A .sent,sv,_,rfl,rfl,s5 _ _ e1,hsl,?_⟩
     have rp5:aH (upd (upd H4 b' (.tup [.str "back",.int p,.str r.s])) c' (.tup [.int qd,.ref b'])) (sv++[.ref c']) ((se++(g.cO p).take i++[(qd,Let.back p r)]).map pairD):=by
      rw[List.map_append (l₂:=[_])]
      exact aH.snoc (e2.aZ (bh s5) (dg _)) (J6 (b:=b') (vs:=[]) aj (by rw[aq nbc,aj]))
     obtain⟨M6,f6⟩:=(M4.same s5).amP rp5
     have f46:=(nj.of_same (A:=A) (n:=n) (m:=m) s5).trans f6 (Mv.refl _ _ _ _)
     have awS:∀x:Mb,x.ok n m->b2≠A x:=λx hx z=>M.zT hx az4 z.symm
     have hb4:=f46.kp b2 _ (f34.kp b2 _ hb' awS) awS
     have t6:cg H' _:=(f34.tups M').trans (f46.tups M4)
     refine⟨⟨_,_,rfl⟩,hi',?_,(f'.trans f34 (Mv.refl _ _ _ _)).trans f46 (Mv.refl _ _ _ _),hb4,rp'.aZ t6 (tW _)⟩
     rw[htk,acg,<-List.append_assoc]
     exact M6
    ·rintro σ' H3 ⟨⟨o1,o2,rfl⟩,_,M3,f3,hb3,_⟩
     rw[hlen,List.take_length]at M3
     refine⟨_,rfl,b2,us2,rfl,.inl (bZ.of hb3),?_⟩
     rw[hlen]
     exact k H3 M3 f3
def TS.xQ(S:TS)(p:Nat)(g:PG)(acc:List (Nat×Let)):TS:={S with pg:=aG S.pg p g,dn:=post S.dn acc}
theorem TS.b7(S:TS)(p:Nat)(g:PG)(acc:List (Nat×Let)):(S.xQ p g acc).pg p=g:=aK _ _ _
theorem TS.at4(S:TS)(p:Nat)(g:PG)(acc bs:List (Nat×Let)):{S.xQ p g acc with dn:=post (S.xQ p g acc).dn bs}=S.xQ p g (acc++bs):=by unfold TS.xQ;simp only[jX]
theorem TS.oG(S:TS)(p:Nat)(g g':PG)(acc:List (Nat×Let)):{S.xQ p g acc with pg:=aG (S.xQ p g acc).pg p g'}=S.xQ p g' acc:=by unfold TS.xQ;simp only[mQ]
theorem TS.aks(S:TS)(p:Nat):S.xQ p (S.pg p) []=S:=by unfold TS.xQ;rw[eE];rfl
def apt:Sp:=λvs H Q _=>∃A n m S se,∃p:Nat,vs=[.ref (A .bc),.int p]/\aY H A n m S se/\p<m/\(S.pg p).ask≠[]/\Uh n (S.pg p)/\(S.pg p).rd.length<=1000000/\Cq S se 1/\
 ∀A' H',aY H' A' n m (S.xQ p (S.pg p).lent ((S.pg p).dW p)) (se++(S.pg p).dW p)->nj H H' A n m->Mv H A A' n m->Q .non H'
def ana:Sp:=λvs H Q _=>∃A n m S se,∃p:Nat,vs=[.ref (A .bc),.int p]/\aY H A n m S se/\p<m/\Uh n (S.pg p)/\(S.pg p).mu<=1000000/\Cq S se (4*(S.pg p).mu+4)/\
 ∀A' H' z,z=(if(S.pg p).miss=0 then(S.pg p).serve p else(S.pg p,[]))->aY H' A' n m (S.xQ p z.1 z.2) (se++z.2)->nj H H' A n m->Mv H A A' n m->Q .non H'
theorem Je(T:Txt K w mg t):cZ P w K mg base oY 1 t.iU t.xG ["_law_town","_law_page"] apt:=by
 refine T.Aw.ok lM (λvs H Q E h=>?_) (λcdv A outer s H vs Q E hr h=>?_)
 ·obtain⟨A,n,m,S,se,p,rfl,_⟩:=h;rfl
 ·obtain⟨A,n,m,S,se,p,rfl,M,hp,hne,hgn,hrd,hro,k⟩:=h
  have hu:=lG hr
  have sl:sizeLine=16777216:=by decide
  cases ha:(S.pg p).ask with
  | nil=>exact absurd ha hne
  | cons x0 l =>
  obtain⟨d,x⟩:=x0
  obtain⟨hdn,hx⟩:=hgn.q (d,x) (by rw[ha];simp)
  refine⟨_,(ak (bz (i:=2) lM.nd rfl (Or.inl rfl) (aO bF (bH hu (pv 0) aC (λ_ _=>rfl)) (pv 1) (λ_ _=>rfl)))
   (ak (zH (eN PySem.F.plainAttrs_list PySem.F.slot_list_pop PySem.F.type_list_pop Ey (bH hu (pv 2) aC (λ_ _=>rfl)) (aa aA ao)) (Qq rfl (jd (cN (i:=3) lM.nd rfl (Or.inl rfl)) (jd (cN (i:=4) lM.nd rfl (Or.inl rfl)) HW))))
   (ak (b8 (aU cR (pv 4) aC (bu _)) (ak (lQ hu (pv 2) aC (bO ao) (by rfl))
   (aB (lQ hu (pv 2) aC (pv 3) (by rfl)))) (ak (b8 (aU W2 (bH hu (pv 2) aC (λ_ _=>rfl)) aA (bu _)) (aB (bM (eN PySem.F.plainAttrs_list PySem.F.slot_list_append PySem.F.type_list_append cD (bH hu (pv 2) aC (λ_ _=>rfl)) (aa (bH hu (pv 2) aC (λ_ _=>rfl)) ao)))) bD)
   (ak (lQ hu (pv 2) aC (R6 Ew aA) (by rfl))
   (aB (b8 (aU zM (pv 3) (bH hu (pv 2) aC (λ_ _=>rfl)) (by rfl)) (aB (bM (eN PySem.F.plainAttrs_list PySem.F.slot_list_append PySem.F.type_list_append cD (bH hu (pv 2) aC (λ_ _=>rfl)) (aa (pv 3) ao)))) bD)))))
   (ak (bz (i:=5) lM.nd rfl (Or.inl rfl) (cu (aa aC (aa (pv 1) (aa (pv 4) (aa (bH hu (pv 2) aC (λ_ _=>rfl)) ao))))))
   (ak (bM (eN PySem.F.plainAttrs_list PySem.F.slot_list_append PySem.F.type_list_append cD (aO bF (bH hu (pv 0) aC (λ_ _=>rfl)) (pv 3) (λ_ _=>rfl)) (aa (pv 5) ao)))
   (aB (bM (eN PySem.F.plainAttrs_list PySem.F.slot_list_append PySem.F.type_list_append cD (bH hu (pv 0) aC (λ_ _=>rfl)) (aa (cu (aa (pv 3) (aa (pv 5) ao))) ao))))))))),?_⟩
  try dsimp only[dm,Cx.lu]
  show let Z1:L2.TS:=_;let Z2:L2.TS:=_;let Z3:L2.TS:=_;let Z4:L2.TS:=_;let Z5:L2.TS:=aR Z3 (Z4);let Z6:L2.TS:=_;let Z7:L2.TS:=di _ Z6 bN;let Z8:L2.TS:=_;let Z9:L2.TS:=_;let Cp:L2.TS:=di _ Z9 bN;let Nu:L2.TS:=aR Z7 (aR Z8 (Cp));let Nv:L2.TS:=di _ Z5 Nu;let Sy:L2.TS:=_;let SJ:L2.TS:=_;let Z15:L2.TS:=_;let D0:Ends:=_;(aR Z1 (aR Z2 (aR Nv (aR Sy (aR SJ (Z15)))))) D0 _ _
  intro Z1 Z2 Z3 Z4 Z5 Z6 Z7 Z8 Z9 Cp Nu Nv Sy SJ Z15 D0
  obtain⟨as,h3,h4⟩:=M.jL hp
  rw[ha]at h4
  obtain⟨tt,us,rfl,h6,h7⟩:=HY h4
  refine Ui rfl (fG M.bc jZ) rfl (bZ.of M.cV) (bQ hp) ?_
  refine zd rfl (fG (M.bU hp) Ib) ⟨.inl ⟨rfl,_,bZ.of h3⟩,A (.jL p),_,0,0,_,rfl,rfl,h3,(by decide),(by decide),amH _ _,rfl,?_⟩
  rw[List.eraseIdx_cons_zero]
  obtain⟨M1,f1⟩:=M.arI hp (l:=l) h7
  have t1:upd H (A (.jL p)) (.lst us) tt=some (.tup [.int d,.str x.s]):=(f1.tups M) tt _ h6
  generalize upd H (A (.jL p)) (.lst us)=H1 at M1 f1 t1
  refine⟨tt,_,rfl,dF.of t1,rfl,_,_,rfl,_,_,rfl,rfl,?_⟩
  have M1':aY H1 A n m (S.xQ p {S.pg p with ask:=l} []) se:=M1
  have yV:(S.pg p).lent=if x=.wr then lJ {S.pg p with ask:=l} d else kZ {S.pg p with ask:=l} d:=by unfold PG.lent;rw[ha]
  have hnum:(S.pg p).lent.num=(S.pg p).num:=by rw[yV];split<;>rfl
  have hl1:(S.pg p).dW p=[(d,.lend p x (S.pg p).num)]:=by unfold PG.dW;rw[ha]
  try dsimp only[bN]
  refine gf (λσ' H'=>∃A',σ'=[some (.ref (A .bc)),some (.int p),some (.ref (A (.bU p))),some (.int d),some (.str x.s),none]/\aY H' A' n m (S.xQ p (S.pg p).lent []) se/\nj H H' A n m/\Mv H A A' n m) (λN hN=>?_) ?_
  ·refine⟨_,rfl,rfl,_,rfl,?_⟩
   rcases hx with hx | hx
   ·subst hx
    refine aP (oZ (x:="write") (q:=.wr) rfl (by intro z;cases z)) ?_
    rw[if_neg (by intro z;cases z)]at yV
    generalize hg1:({S.pg p with ask:=l}:PG)=g1 at M1' yV
    have hgr:g1.rd=(S.pg p).rd:=by rw[<-hg1]
    have ai1:=M1'.bU hp
    rw[TS.b7]at ai1
    have at5:=M1'.jc hp
    rw[TS.b7]at at5
    try dsimp only[bN]
    have fin:∀H2,aY H2 A n m (S.xQ p {g1 with wr:=none,rd:=g1.rd++g1.wr.toList} []) se->nj H H2 A n m->
     (di (afU (W0 (rIn K true) (jm 3) (Xa (jm 2) (tC (.str "readers"))))) (ajM (tBM K "list" Ma (Xa (jm 2) (tC (.str "readers"))) (mO (jm 3) Ii))) bN) {nx:=N,rt:=Q} [some (.ref (A .bc)),some (.int p),some (.ref (A (.bU p))),some (.int d),some (.str Rt.rd.s),none] H2:=λH2 M2 f2=>by
     have hsh:=M2.bU hp
     rw[TS.b7]at hsh
     have hrr:=M2.jc hp
     rw[TS.b7]at hrr
     refine⟨_,rfl,zd rfl (fG hsh vQ) ⟨A (.jc p),_,rfl,.inl (bZ.of hrr),rfl,ag0 _,_,rfl,?_⟩⟩
     have e0:(if true=true then !inV (.int d) ((g1.rd++g1.wr.toList).map nV)else inV (.int d) ((g1.rd++g1.wr.toList).map nV)) = !decide (d∈g1.rd++g1.wr.toList):=by rw[if_pos rfl,akr]
     rw[e0]
     by_cases e:d∈g1.rd++g1.wr.toList
     ·refine aP (by rw[decide_eq_true e];rfl) ?_
      refine hN _ _ ⟨A,rfl,?_,f2,Mv.refl _ _ _ _⟩
      rw[yV]
      unfold kZ
      rw[if_pos e]
      exact M2
     ·refine bI (by rw[decide_eq_false e];rfl) ?_
      refine zd rfl (fG hsh vQ) ⟨.inl ⟨rfl,_,bZ.of hrr⟩,_,rfl,A (.jc p),_,_,rfl,rfl,hrr,?_,?_⟩
      ·have hw:g1.wr.toList.length<=1:=by cases g1.wr<;>simp
       rw[List.length_map,List.length_append,hgr];lia
      ·obtain⟨M3,f3⟩:=M2.arH hp (l:=g1.rd++g1.wr.toList++[d])
       rw[TS.b7,TS.oG,List.map_append (l₂:=[d])]at M3
       rw[List.map_append (l₂:=[d])]at f3
       refine hN _ _ ⟨A,rfl,?_,f2.trans f3 (Mv.refl _ _ _ _),Mv.refl _ _ _ _⟩
       rw[yV]
       unfold kZ
       rw[if_neg e]
       exact M3
    refine gf (λσ' H'=>σ'=[some (.ref (A .bc)),some (.int p),some (.ref (A (.bU p))),some (.int d),some (.str Rt.rd.s),none]/\aY H' A n m (S.xQ p {g1 with rd:=g1.rd++g1.wr.toList} []) se/\nj H H' A n m) (λN' hN'=>?_) ?_
    ·refine zd rfl (fG ai1 uo) ⟨_,_,rfl,rfl,_,rfl,?_⟩
     cases hw:g1.wr with
     | none =>
       refine aP rfl ?_
       refine hN' _ _ ⟨rfl,?_,f1⟩
       have e:({g1 with rd:=g1.rd++g1.wr.toList}:PG)=g1:=by rw[hw];cases g1;simp_all
       rw[e];exact M1'
     | some wv =>
       refine bI (decide_eq_true (Int.natCast_nonneg _)) ?_
       have l1:fW (zF g1 (A (.jc p)) (A (.jL p))) (ks "writer")=some (.int wv):=by rw[uo,hw];rfl
       refine zd rfl (fG ai1 vQ) ⟨.inl ⟨rfl,_,bZ.of at5⟩,zd rfl (fG ai1 l1) ⟨A (.jc p),_,_,rfl,rfl,at5,(by rw[List.length_map,hgr];lia),?_⟩⟩
       obtain⟨M3,f3⟩:=M1'.arH hp (l:=g1.rd++[wv])
       rw[TS.b7,TS.oG,List.map_append (l₂:=[wv])]at M3
       rw[List.map_append (l₂:=[wv])]at f3
       have e:({g1 with rd:=g1.rd++g1.wr.toList}:PG)={g1 with rd:=g1.rd++[wv]}:=by rw[hw];rfl
       exact hN' _ _ ⟨rfl,by rw[e];exact M3,f1.trans f3 (Mv.refl _ _ _ _)⟩
    ·rintro σ' H2 ⟨rfl,M2,f2⟩
     have hsh:=M2.bU hp
     rw[TS.b7]at hsh
     refine⟨_,rfl,_,rfl,A (.bU p),_,rfl,dput hsh vU Fd,?_⟩
     obtain⟨M3,f3⟩:=M2.zU hp (g:={g1 with wr:=none,rd:=g1.rd++g1.wr.toList}) (by rw[TS.b7]) (by rw[TS.b7])
     rw[TS.oG]at M3
     exact fin _ M3 (f2.trans f3 (Mv.refl _ _ _ _))
   ·subst hx
    refine bI fK ?_
    rw[if_pos rfl]at yV
    generalize hg1:({S.pg p with ask:=l}:PG)=g1 at M1' yV
    have ai1:=M1'.bU hp
    rw[TS.b7]at ai1
    refine⟨Dg,λr' hr'=>?_⟩
    obtain⟨M2,f2,mv2⟩:=M1'.ato hp hr' (l:=[])
    rw[TS.b7]at M2 f2
    rw[TS.oG]at M2
    have hr0:H r'=none:=f1.lv _ hr'
    refine⟨_,rfl,A (.bU p),_,rfl,dput (az hr' _ _ ai1) vU (Xm (l:=[])),?_⟩
    have aa3:=M2.bU hp
    rw[TS.b7,bK _ _ (by intro z;cases z),cY,bK _ _ (by intro z;cases z)]at aa3
    obtain⟨M3,f3⟩:=M2.zU hp (g:=lJ g1 d) (by rw[TS.b7];rfl) (by rw[TS.b7];rfl)
    rw[TS.oG]at M3
    rw[bK _ _ (by intro z;cases z),cY,bK _ _ (by intro z;cases z)]at M3 f3
    refine⟨_,rfl,_,rfl,A (.bU p),_,rfl,dput aa3 vU Xl,?_⟩
    have mv:Mv H A (jO A (.jc p) r') n m:=λz hz=>(mv2 z hz).imp id λe=>⟨e.1,f1.lv _ e.2⟩
    refine hN _ _ ⟨jO A (.jc p) r',rfl,?_,?_,mv⟩
    ·rw[yV];exact M3
    ·exact(f1.trans f2 (Mv.refl _ _ _ _)).trans f3 mv
  ·rintro σ' H2 ⟨A2,rfl,M2,f2,mv2⟩
   have hA:A2 .bc=A .bc:=mv2.bc
   have hAs:A2 (.bU p)=A (.bU p):=(mv2 (.bU p) hp).elim id λz=>by obtain⟨⟨q,e⟩,_⟩:=z;cases e
   have hsh:=M2.bU hp
   rw[TS.b7,hAs]at hsh
   have htw:=M2.bc
   rw[hA]at htw
   refine⟨_,rfl,_,rfl,zd rfl (fG hsh aiP) ⟨zz4,λb hb=>?_⟩⟩
   rw[hnum]at *
   have s3:=az (o:=.tup [.str "lend",.int p,.str x.s,.int (S.pg p).num]) hb
   have hb3:upd H2 b (.tup [.str "lend",.int p,.str x.s,.int (S.pg p).num]) b=_:=aj
   have M3:=M2.same s3
   have f3:=f2.trans (nj.of_same (A:=A2) s3) mv2
   generalize upd H2 b (.tup [.str "lend",.int p,.str x.s,.int (S.pg p).num])=H3 at s3 hb3 M3 f3
   have az8:=s3 _ _ htw
   obtain⟨dv,d1,d2⟩:=M3.dn hdn
   have hdl:dv.length<sizeLine:=by
    rw[d2.length,List.length_map]
    show(post S.dn [] d).length<_
    have:=hro.1 d
    show(S.dn d).length<_
    lia
   refine Ui rfl (fG az8 Ia) rfl (bZ.of M3.downs) (bQ hdn) ⟨.inl ⟨rfl,_,bZ.of d1⟩,_,rfl,A2 (.dn d),dv,_,rfl,rfl,d1,hdl,?_⟩
   have rl:Rep H3 (.ref b) (Let.lend p x (S.pg p).num).d:=by
    simp only[Let.d,Rep,aH]
    exact⟨b,_,rfl,hb3,_,_,rfl,rfl,_,_,rfl,rfl,_,_,rfl,rfl,_,_,rfl,rfl,rfl⟩
   have rp3:aH H3 (dv++[.ref b]) (((S.xQ p (S.pg p).lent []).dn d++[Let.lend p x (S.pg p).num]).map Let.d):=by
    rw[List.map_append]
    exact aH.snoc d2 rl
   obtain⟨M4,f4⟩:=M3.ala hdn rp3
   have rl4:=Rep.aZ (f4.tups M3) (Let.flat _) rl
   have f4':=f3.trans f4 mv2
   generalize upd H3 (A2 (.dn d)) (.lst (dv++[.ref b]))=H4 at M4 f4 f4' rl4
   obtain⟨sv,e1,e2⟩:=M4.sent
   have hsl:sv.length<sizeLine:=by
    rw[e2.length,List.length_map]
    have:=hro.2
    lia
   have awT:=M4.bc
   rw[hA]at awT
   refine zd rfl (fG awT agn) ⟨.inl ⟨rfl,_,bZ.of e1⟩,_,rfl,_,rfl,vC,λc hc=>?_⟩
   have s5:=az (o:=.tup [.int d,.ref b]) hc
   refine⟨A2 .sent,sv,_,rfl,rfl,s5 _ _ e1,hsl,?_⟩
   have rp5:aH (upd H4 c (.tup [.int d,.ref b])) (sv++[.ref c]) ((se++[(d,Let.lend p x (S.pg p).num)]).map pairD):=by
    rw[List.map_append]
    refine aH.snoc (e2.aZ (bh s5) (dg _)) ?_
    simp only[pairD,Rep,aH]
    exact⟨c,_,rfl,aj,_,_,rfl,rfl,_,_,rfl,Rep.aZ (bh s5) (Let.flat _) rl4,rfl⟩
   obtain⟨M6,f6⟩:=(M4.same s5).amP rp5
   refine k A2 _ ?_ ((f4'.trans (nj.of_same s5) mv2).trans f6 mv2) mv2
   rw[hl1]
   exact M6
def PG.cont(g:PG)(p:Nat):PG×List (Nat×Let):=if g.miss=0 then g.serve p else(g,[])
theorem anc{g:PG}{p:Nat}(h0:g.miss=0)(h:g.ask≠[])(hb:g.cO p≠[]):(g.cont p).1=(PG.cont {g with miss:=(g.cO p).length} p).1/\(g.cont p).2=g.cO p++(PG.cont {g with miss:=(g.cO p).length} p).2:=by
 have hl:((g.cO p).length:Int)≠0:=by
  have:(g.cO p).length≠0:=λz=>hb (List.length_eq_zero_iff.mp z)
  lia
 unfold PG.cont
 rw[if_pos h0,yt h hb]
 try dsimp only
 rw[if_neg hl]
 simp
theorem alk{g:PG}{p:Nat}(h0:g.miss=0)(h:g.ask≠[])(hb:g.cO p=[]):(g.cont p).1=(g.lent.cont p).1/\(g.cont p).2=g.dW p++(g.lent.cont p).2:=by
 unfold PG.cont
 rw[if_pos h0,uf h hb,PG.yu,if_pos h0]
 exact⟨rfl,rfl⟩
theorem ane(g:PG)(p:Nat):(g.cont p).2.length<=2*g.mu+1:=by
 unfold PG.cont
 split
 ·exact g.yW p
 ·simp
theorem Cq.at{S:TS}{se acc:List (Nat×Let)}{k j p:Nat}{g:PG}(h:Cq S se k)(hj:acc.length+j<=k):Cq (S.xQ p g acc) (se++acc) j:=⟨λd=>by
 have h1:=h.1 d
 have h2:=Ml S.dn acc d
 show(post S.dn acc d).length+j<=_
 lia,by rw[List.length_append];have:=h.2;lia⟩
theorem Yt(T:Txt K w mg t):cZ P w K mg base oY 2 t.mX t.JW ["_law_town","_law_page"] ana:=by
 refine T.QX.ok XF (λvs H Q E h=>?_) (λcdv A outer s H vs Q E hr h=>?_)
 ·obtain⟨A,n,m,S,se,p,rfl,_⟩:=h;rfl
 ·obtain⟨A,n,m,S,se,p,rfl,M,hp,hgn,hmu,hro,k⟩:=h
  have hu:=lG hr
  have sl:sizeLine=16777216:=by decide
  refine⟨_,(ak (bz (i:=2) XF.nd rfl (Or.inl rfl) (aO bF (bH hu (pv 0) aC (λ_ _=>rfl)) (pv 1) (λ_ _=>rfl)))
   (aB (WX PassesOwn.never (PW.pt (Qp (aU cR (bH hu (pv 2) aC (λ_ _=>rfl)) aA (bu _)) (Lx (aU (agc hr.aip) (bH hu (pv 2) aC (λ_ _=>rfl)) (bO ao) (bu _))))) (ak (lQ hu (pv 2) aC (cH (am9 T) (hr.mono (by decide):bR 1 _) (by rfl) T.apk T.akn.kp T.apj .nil bW (aa (pv 0) (aa (pv 1) ao))) (by rfl))
   (aB (b8 (aU cR (bH hu (pv 2) aC (λ_ _=>rfl)) aA (bu _)) (aB (bM (cH (Je T) (hr.mono (by decide):bR 1 _) (by rfl) T.Ni T.Aw.kp T.Nh .nil bW (aa (pv 0) (aa (pv 1) ao))))) bD)))))),?_⟩
  try dsimp only[dm,Cx.lu]
  show let Z1:L2.TS:=_;let Z2:L2.TS:=_;let Z3:L2.TS:=_;let Z4:L2.TS:=di _ Z3 bN;let Z5:L2.TS:=aR Z2 (Z4);let Z6:L2.TS:=acT _ Z5;let D0:Ends:=_;(aR Z1 (Z6)) D0 _ _
  intro Z1 Z2 Z3 Z4 Z5 Z6 D0
  refine Ui rfl (fG M.bc jZ) rfl (bZ.of M.cV) (bQ hp) ?_
  generalize hg0:S.pg p=g0 at *
  refine⟨λi σ H1=>∃A1 g acc,σ=[some (.ref (A .bc)),some (.int p),some (.ref (A (.bU p)))]/\aY H1 A1 n m (S.xQ p g acc) (se++acc)/\nj H H1 A n m/\Mv H A A1 n m/\Uh n g/\g.mu<=g0.mu/\acc.length+(g.cont p).2.length<=2*g0.mu+1/\
   (g0.cont p).1=(g.cont p).1/\(g0.cont p).2=acc++(g.cont p).2/\i=2*g.ask.length+(if g.miss=0 then 1 else 0),⟨_,A,g0,[],rfl,?_,nj.refl _ _ _ _,Mv.refl _ _ _ _,hgn,Nat.le_refl _,?_,rfl,rfl,rfl⟩,?_⟩
  ·have:=S.aks p
   rw[hg0]at this
   rw[this,List.append_nil];exact M
  ·have:=ane g0 p;simp;lia
  rintro i σ H1 ⟨A1,g,acc,rfl,M1,f1,mv1,gn1,mu1,le1,se1,se2,rfl⟩
  have hA:A1 .bc=A .bc:=mv1.bc
  have hAs:A1 (.bU p)=A (.bU p):=(mv1 (.bU p) hp).elim id λz=>by obtain⟨⟨q,e⟩,_⟩:=z;cases e
  have hsh:=M1.bU hp
  rw[TS.b7,hAs]at hsh
  obtain⟨as,h3,h4⟩:=M1.jL hp
  rw[TS.b7]at h4
  have awU:as.length=g.ask.length:=by rw[h4.length,List.length_map]
  have done:∀H2,aY H2 A1 n m (S.xQ p g acc) (se++acc)->nj H H2 A n m->g.cont p=(g,[])->Q .non H2:=λH2 M2 f2 e=>by
   refine k A1 H2 (g0.cont p) rfl ?_ f2 mv1
   rw[e]at se1 se2
   rw[se1,se2,List.append_nil]
   exact M2
  refine zd rfl (fG hsh vR) ⟨rfl,_,rfl,?_⟩
  by_cases hms:g.miss=0
  ·refine bI (by rw[hms];exact decide_eq_true rfl) ?_
   refine zd rfl (fG hsh Ib) ⟨Dg,λe he=>?_⟩
   have s2:=az (o:=.lst []) he
   refine⟨A1 (.jL p),e,as,rfl,rfl,bZ.of (s2 _ _ h3),bZ.of aj,_,rfl,?_⟩
   have M2:=M1.same s2
   have f2:=f1.trans (nj.of_same (A:=A1) s2) mv1
   generalize upd H1 e (.lst [])=H2 at s2 M2 f2
   by_cases hak:g.ask=[]
   ·have:as=[]:=List.length_eq_zero_iff.mp (by rw[awU,hak];rfl)
    subst this
    refine aP rfl ?_
    exact done H2 M2 f2 (by unfold PG.cont;rw[if_pos hms,yr hak])
   ·refine bI (by cases as with | nil=>exact absurd (List.length_eq_zero_iff.mp awU.symm) hak | cons _ _=>rfl) ?_
    obtain⟨⟨d,x⟩,l,hq⟩:=List.exists_cons_of_ne_nil hak
    obtain⟨hdn,hx⟩:=gn1.q (d,x) (by rw[hq];simp)
    have am6:g.rd.length<=1000000:=by unfold PG.mu at mu1 hmu;lia
    have hbl:=Yr g p
    have hbm:(g.cO p).length<=g0.mu+1:=by unfold PG.mu at mu1 ⊢;lia
    refine⟨λσ' H'=>∃i',i'<2*g.ask.length+(if g.miss=0 then 1 else 0)/\∃A1 g acc,σ'=[some (.ref (A .bc)),some (.int p),some (.ref (A (.bU p)))]/\aY H' A1 n m (S.xQ p g acc) (se++acc)/\nj H H' A n m/\Mv H A A1 n m/\Uh n g/\g.mu<=g0.mu/\acc.length+(g.cont p).2.length<=2*g0.mu+1/\
     (g0.cont p).1=(g.cont p).1/\(g0.cont p).2=acc++(g.cont p).2/\i'=2*g.ask.length+(if g.miss=0 then 1 else 0),λσ' H' z=>z,?_⟩
    have aDh:acc.length<=2*g0.mu+1:=by lia
    have hv:V.ref (A .bc)=V.ref (A1 .bc):=by rw[hA]
    refine⟨_,rfl,_,rfl,A1,n,m,S.xQ p g acc,se++acc,p,d,x,l,by rw[hA];rfl,M2,hp,by rw[TS.b7];exact hq,hx,?_,by rw[TS.b7];exact am6,?_,?_⟩
    ·rw[TS.b7];exact λx hx=>((gn1.cO p).1 x hx).1
    ·rw[TS.b7];exact hro.at (by lia)
    rw[TS.b7,TS.at4,List.append_assoc]
    intro H3 M3 f3
    have anf:=M3.bU hp
    rw[TS.b7,hAs]at anf
    refine⟨_,rfl,A (.bU p),_,rfl,dput anf vU Fe,?_⟩
    obtain⟨M4,f4⟩:=M3.zU hp (g:={g with miss:=((g.cO p).length:Int)}) (by rw[TS.b7]) (by rw[TS.b7])
    rw[TS.oG]at M4
    rw[hAs]at M4 f4
    have f34:=(f2.trans f3 mv1).trans f4 mv1
    generalize upd H3 (A (.bU p)) (.dK (zF {g with miss:=((g.cO p).length:Int)} (A1 (.jc p)) (A1 (.jL p))))=H4 at M4 f34
    have awV:=M4.bU hp
    rw[TS.b7,hAs]at awV
    refine zd rfl (fG awV vR) ⟨rfl,_,rfl,?_⟩
    by_cases hb:g.cO p=[]
    ·obtain⟨c1,c2⟩:=alk hms hak hb
     refine bI (by rw[hb];exact decide_eq_true rfl) ?_
     have eg:({g with miss:=((g.cO p).length:Int)}:PG)=g:=by rw[hb];cases g;simp_all
     rw[eg,hb,List.append_nil]at M4
     have hle:1+(g.lent.cont p).2.length<=(g.cont p).2.length:=by
      rw[c2,List.length_append]
      have:g.dW p=[(d,.lend p x g.num)]:=by unfold PG.dW;rw[hq]
      rw[this];simp
     refine⟨_,rfl,_,rfl,A1,n,m,S.xQ p g acc,se++acc,p,by rw[hA];rfl,M4,hp,by rw[TS.b7];exact hak,by rw[TS.b7];exact gn1,by rw[TS.b7];exact am6,hro.at (by lia),?_⟩
     rw[TS.b7]
     intro A5 H5 M5 f5 mv5
     have e5:(S.xQ p g acc).xQ p g.lent (g.dW p)=S.xQ p g.lent (acc++g.dW p):=by unfold TS.xQ;simp only[mQ,jX]
     rw[e5,List.append_assoc]at M5
     refine⟨_,?_,A5,g.lent,acc++g.dW p,rfl,M5,f34.trans f5 mv1,mv1.trans f34.lv mv5,gn1.lent,Nat.le_trans g.sS mu1,?_,?_,?_,rfl⟩
     ·rw[PG.yq,PG.yu,hq];simp
     ·rw[List.length_append]
      have:g.dW p=[(d,.lend p x g.num)]:=by unfold PG.dW;rw[hq]
      rw[this]
      simp only[List.length_singleton]
      lia
     ·rw[se1,c1]
     ·rw[se2,c2,List.append_assoc]
    ·obtain⟨c1,c2⟩:=anc hms hak hb
     have hbn:(g.cO p).length≠0:=λz=>hb (List.length_eq_zero_iff.mp z)
     refine aP (decide_eq_false λz=>hbn (by have z1:((g.cO p).length:Int)=0:=V.int.inj z;lia)) ?_
     refine⟨_,?_,A1,{g with miss:=((g.cO p).length:Int)},acc++g.cO p,rfl,M4,f34,mv1,⟨gn1.w,gn1.r,gn1.q⟩,mu1,?_,?_,?_,rfl⟩
     ·rw[if_pos hms,if_neg (by show((g.cO p).length:Int)≠0;lia)];simp
     ·rw[List.length_append]
      have:=congrArg List.length c2
      rw[List.length_append]at this
      lia
     ·rw[se1,c1]
     ·rw[se2,c2,List.append_assoc]
  ·refine aP (decide_eq_false λz=>hms (V.int.inj z)) ?_
   exact w6 (done H1 M1 f1 (by unfold PG.cont;rw[if_neg hms]))
theorem akt{H:Hp}{vs:List V}{l:UL}{r:List UL}(h:aH H vs ((l::r).map UL.d)):∃b us,vs=.ref b::us/\H b=some (.tup l.vs)/\aH H us (r.map UL.d):=by
 rw[List.map_cons]at h
 obtain⟨v,us,e,rv,rl⟩:=aH.cons_inv h
 cases l with
 | ask p x =>
   simp only[UL.d,Rep,aH]at rv
   obtain⟨b,xs,rfl,hb,_,_,rfl,rfl,_,_,rfl,rfl,_,_,rfl,rfl,rfl⟩:=rv
   exact⟨b,us,e,hb,rl⟩
 | ans p o =>
   cases o<;>(simp only[UL.d,oD,Rep,aH]at rv;obtain⟨b,xs,rfl,hb,_,_,rfl,rfl,_,_,rfl,rfl,_,_,rfl,rfl,rfl⟩:=rv;exact⟨b,us,e,hb,rl⟩)
 | gave p x =>
   simp only[UL.d,Rep,aH]at rv
   obtain⟨b,xs,rfl,hb,_,_,rfl,rfl,_,_,rfl,rfl,_,_,rfl,rfl,rfl⟩:=rv
   exact⟨b,us,e,hb,rl⟩
theorem Yu{H:Hp}{b:Addr}{l:UL}(h:H b=some (.tup l.vs)):Rep H (.ref b) l.d:=by
 cases l with
 | ask p x=>simp only[UL.d,Rep,aH];exact⟨b,_,rfl,h,_,_,rfl,rfl,_,_,rfl,rfl,_,_,rfl,rfl,rfl⟩
 | ans p o=>cases o<;>(simp only[UL.d,oD,Rep,aH];exact⟨b,_,rfl,h,_,_,rfl,rfl,_,_,rfl,rfl,_,_,rfl,rfl,rfl⟩)
 | gave p x=>simp only[UL.d,Rep,aH];exact⟨b,_,rfl,h,_,_,rfl,rfl,_,_,rfl,rfl,_,_,rfl,rfl,rfl⟩
def awW:Sp:=λvs H Q _=>∃A n m S se,∃d:Nat,∃l r,vs=[.ref (A .bc),.int d]/\aY H A n m S se/\d<n/\S.up d=l::r/\l.pg<m/\Uh n (S.pg l.pg)/\((S.pg l.pg).ask=[]↔(S.pg l.pg).miss=0)/\l.good (S.pg l.pg)/\(S.pg l.pg).mu<=900000/\Cq S se (4*(S.pg l.pg).mu+20)/\
 ∀b A' H',aY H' A' n m (S.Xi d l r) (se++((S.pg l.pg).take l.pg d l).2)->nj H H' A n m->Mv H A A' n m->H' b=some (.tup l.vs)->Q (.ref b) H'
theorem adJ(T:Txt K w mg t):cZ P w K mg base oY 3 t.jl t.Ao ["_law_town","_law_desk"] awW:=by
 refine T.Sw.ok Aa (λvs H Q E h=>?_) (λcdv A outer s H vs Q E hr h=>?_)
 ·obtain⟨A,n,m,S,se,d,l,r,rfl,_⟩:=h;rfl
 ·obtain⟨A,n,m,S,se,d,l,r,rfl,M,hd,hup,hp,hgn,ham,hgd,hmu,hro,k⟩:=h
  have hu:=lG hr
  have sl:sizeLine=16777216:=by decide
  refine⟨_,(ak (bz (i:=2) Aa.nd rfl (Or.inl rfl) (eN PySem.F.plainAttrs_list PySem.F.slot_list_pop PySem.F.type_list_pop Ey (aO bF (bH hu (pv 0) aC (λ_ _=>rfl)) (pv 1) (λ_ _=>rfl)) (aa aA ao)))
   (ak (bz (i:=3) Aa.nd rfl (Or.inl rfl) (aO bF (bH hu (pv 0) aC (λ_ _=>rfl)) (aO bC (pv 2) aA (λ_ _=>rfl)) (λ_ _=>rfl)))
   (ak (b8 (aU cR (aO bC (pv 2) aA (λ_ _=>rfl)) aC (bu _)) (ak (bM (eN PySem.F.plainAttrs_list PySem.F.slot_list_append PySem.F.type_list_append cD (bH hu (pv 3) aC (λ_ _=>rfl)) (aa (cu (aa (pv 1) (aa (aO bC (pv 2) aA (λ_ _=>rfl)) ao))) ao)))
   (ak (bM (cH (Yt T) (hr.mono (by decide):bR 2 _) (by rfl) T.acs T.QX.kp T.acr .nil bW (aa (pv 0) (aa (aO bC (pv 2) aA (λ_ _=>rfl)) ao))))
   (aB (bf (pv 2))))) bD)
   (ak (b8 (wX (vG (aO bC (pv 2) aA (λ_ _=>rfl)))) (aB (lQ hu (pv 3) aC (aO bC (pv 2) aA (λ_ _=>rfl)) (by rfl))) bD)
   (ak (b8 (aU cR (aO bC (pv 2) aA (λ_ _=>rfl)) aC (bu _)) (ak (b8 (aU cR (bH hu (pv 3) aC (λ_ _=>rfl)) (pv 1) (bu _)) (aB (lQ hu (pv 3) aC (R6 Ew aA) (by rfl))) bD)
   (aB (bf (pv 2)))) bD)
   (ak (lQ hu (pv 3) aC (bG Eu (bH hu (pv 3) aC (λ_ _=>rfl)) aA) (by rfl))
   (ak (b8 (aU cR (bH hu (pv 3) aC (λ_ _=>rfl)) aA (bu _)) (ak (bM (cH (Je T) (hr.mono (by decide):bR 1 _) (by rfl) T.Ni T.Aw.kp T.Nh .nil bW (aa (pv 0) (aa (aO bC (pv 2) aA (λ_ _=>rfl)) ao))))
   (aB (bM (cH (Yt T) (hr.mono (by decide):bR 2 _) (by rfl) T.acs T.QX.kp T.acr .nil bW (aa (pv 0) (aa (aO bC (pv 2) aA (λ_ _=>rfl)) ao)))))) bD)
   (aB (bf (pv 2)))))))))),?_⟩
  try dsimp only[dm,Cx.lu]
  show let Z1:L2.TS:=_;let Z2:L2.TS:=_;let Z3:L2.TS:=_;let Z4:L2.TS:=_;let Z5:L2.TS:=_;let Z6:L2.TS:=aR Z3 (aR Z4 (Z5));let Z7:L2.TS:=di _ Z6 bN;let Z8:L2.TS:=_;let Z9:L2.TS:=di _ Z8 bN;let Cp:L2.TS:=_;let Nu:L2.TS:=di _ Cp bN;let Nv:L2.TS:=_;let Sy:L2.TS:=aR Nu (Nv);let SJ:L2.TS:=di _ Sy bN;let Z15:L2.TS:=_;let Z16:L2.TS:=_;let Z17:L2.TS:=_;let Z18:L2.TS:=aR Z16 (Z17);let Z19:L2.TS:=di _ Z18 bN;let Z20:L2.TS:=_;let D0:Ends:=_;(aR Z1 (aR Z2 (aR Z7 (aR Z9 (aR SJ (aR Z15 (aR Z19 (Z20)))))))) D0 _ _
  intro Z1 Z2 Z3 Z4 Z5 Z6 Z7 Z8 Z9 Cp Nu Nv Sy SJ Z15 Z16 Z17 Z18 Z19 Z20 D0
  obtain⟨uv,u1,u2⟩:=M.up hd
  rw[hup]at u2
  obtain⟨b,us,rfl,hb,u3⟩:=akt u2
  refine Ui rfl (fG M.bc Mm) rfl (bZ.of M.ups) (bQ hd) ⟨.inl ⟨rfl,_,bZ.of u1⟩,A (.up d),_,0,0,_,rfl,rfl,u1,(by decide),(by decide),amH _ _,rfl,?_⟩
  rw[List.eraseIdx_cons_zero]
  obtain⟨M1,f1⟩:=M.ago hd u3
  have hb1:=(f1.tups M) b _ hb
  generalize upd H (A (.up d)) (.lst us)=H1 at M1 f1 hb1
  generalize hS1:({S with up:=aG S.up d r}:TS)=S1 at M1
  have hpg:S1.pg=S.pg:=by rw[<-hS1]
  have hdn:S1.dn=S.dn:=by rw[<-hS1]
  have apw:Cq S1 se (4*(S.pg l.pg).mu+20):=⟨λe=>by rw[hdn];exact hro.1 e,hro.2⟩
  have hdo:∀z:PG×List (Nat×Let),z=(S.pg l.pg).take l.pg d l->S1.xQ l.pg z.1 z.2=S.Xi d l r:=λz e=>by rw[e,<-hS1];rfl
  refine zd rfl (fG M1.bc jZ) (zt rfl (dF.of hb1) (UL.at1 l) ⟨A .cV,_,_,_,rfl,rfl,bZ.of M1.cV,bQ hp,?_⟩)
  have M1':aY H1 A n m (S1.xQ l.pg (S.pg l.pg) []) se:=by have:=S1.aks l.pg;rw[hpg]at this;rw[this];exact M1
  have hsh:=M1'.bU hp
  rw[TS.b7]at hsh
  generalize hq:l.pg=p0 at hp hgn ham hgd hmu hro k apw hdo M1' hsh ⊢
  cases l with
  | ask p x =>
    have hq':p=p0:=hq
    subst hq'
    have hx:x=.rd\/x=.wr:=hgd
    refine zt rfl (dF.of hb1) rfl ⟨rfl,_,rfl,?_⟩
    refine bI fK ?_
    obtain⟨av,a1,a2⟩:=M1'.jL hp
    rw[TS.b7]at a2
    have hal:av.length=(S.pg p).ask.length:=by rw[a2.length,List.length_map]
    have awX:(S.pg p).ask.length<=900000:=by unfold PG.mu at hmu;lia
    refine zd rfl (fG hsh Ib) ⟨.inl ⟨rfl,_,bZ.of a1⟩,_,rfl,zt rfl (dF.of hb1) rfl ⟨vC,λtt ht=>?_⟩⟩
    have s2:=az (o:=.tup [.int d,.str x.s]) ht
    refine⟨A (.jL p),av,_,rfl,rfl,s2 _ _ a1,by lia,?_⟩
    have rp:aH (upd H1 tt (.tup [.int d,.str x.s])) (av++[.ref tt]) (((S.pg p).ask++[(d,x)]).map sO):=by
     rw[List.map_append]
     refine aH.snoc (a2.aZ (bh s2) (lg _)) ?_
     simp only[sO,Rep,aH]
     exact⟨tt,_,rfl,aj,_,_,rfl,rfl,_,_,rfl,rfl,rfl⟩
    obtain⟨M3,f3⟩:=(M1'.same s2).arI hp rp
    have hb3:=(f3.tups (M1'.same s2)) b _ (s2 _ _ hb1)
    have f13:=(f1.trans (nj.of_same (A:=A) s2) (Mv.refl _ _ _ _)).trans f3 (Mv.refl _ _ _ _)
    generalize upd (upd H1 tt (.tup [.int d,.str x.s])) (A (.jL p)) (.lst (av++[.ref tt]))=H3 at M3 f3 hb3 f13
    rw[TS.oG,TS.b7]at M3
    have gn2:Uh n ({S.pg p with ask:=(S.pg p).ask++[(d,x)]}:PG):=⟨hgn.w,hgn.r,λy hy=>by
     rcases List.mem_append.mp hy with hy | hy
     ·exact hgn.q y hy
     ·have:y=(d,x):=by simpa using hy
      rw[this];exact⟨hd,hx⟩⟩
    have awY:({S.pg p with ask:=(S.pg p).ask++[(d,x)]}:PG).mu=(S.pg p).mu+2:=by unfold PG.mu;simp;lia
    refine⟨_,rfl,zt rfl (dF.of hb3) rfl ⟨A,n,m,_,se,p,rfl,M3,hp,by rw[TS.b7];exact gn2,?_,?_,?_⟩⟩
    ·rw[TS.b7,awY];have:(S.pg p).mu<=900000:=hmu;lia
    ·have:=Cq.at (acc:=[]) (p:=p) (g:={S.pg p with ask:=(S.pg p).ask++[(d,x)]}) (j:=4*((S.pg p).mu+2)+4) apw (by show 0+_<=4*(S.pg p).mu+20;lia)
     rw[TS.b7,awY]
     rw[List.append_nil]at this
     exact this
    ·rw[TS.b7]
     intro A4 H4 z hz M4 f4 mv4
     have ez:z=(S.pg p).take p d (.ask p x):=by
      rw[hz]
      simp only[PG.take]
      by_cases e:(S.pg p).ask=[]
      ·rw[if_pos (ham.mp e),if_pos e,e];rfl
      ·rw[if_neg λy=>e (ham.mpr y),if_neg e]
     have e4:(S1.xQ p {S.pg p with ask:=(S.pg p).ask++[(d,x)]} []).xQ p z.1 z.2=S1.xQ p z.1 z.2:=by unfold TS.xQ;simp only[mQ,jX];rfl
     rw[e4,hdo z ez,ez]at M4
     refine⟨_,rfl,k b A4 H4 M4 (f13.trans f4 (Mv.refl _ _ _ _)) (λy hy=>(mv4 y hy).imp id λe=>⟨e.1,f13.lv _ e.2⟩) ((f4.tups M3) b _ hb3)⟩
  | gave p x =>
    have hq':p=p0:=hq
    subst hq'
    refine zt rfl (dF.of hb1) rfl ⟨rfl,_,rfl,?_⟩
    refine aP (dj (by decide +kernel)) ?_
    refine zt rfl (dF.of hb1) rfl ⟨_,rfl,?_⟩
    refine bI rfl ?_
    refine zt rfl (dF.of hb1) rfl ⟨_,rfl,A (.bU p),_,rfl,dput hsh vU Iw,?_⟩
    obtain⟨M2,f2⟩:=M1'.zU hp (g:={S.pg p with num:=x}) (by rw[TS.b7]) (by rw[TS.b7])
    rw[TS.oG]at M2
    have hb2:=(f2.tups M1') b _ hb1
    have f12:=f1.trans f2 (Mv.refl _ _ _ _)
    generalize upd H1 (A (.bU p)) (.dK (zF {S.pg p with num:=x} (A (.jc p)) (A (.jL p))))=H2 at M2 f2 hb2 f12
    have aa3:=M2.bU hp
    rw[TS.b7]at aa3
    refine zt rfl (dF.of hb2) rfl ⟨rfl,_,rfl,?_⟩
    refine bI fK ?_
    have ek:(S.pg p).take p d (.gave p x)=({S.pg p with num:=x,wr:=if(S.pg p).wr=some d then none else(S.pg p).wr},[]):=rfl
    refine zd rfl (fG aa3 uo) ⟨_,rfl,rfl,_,rfl,?_⟩
    by_cases e:(S.pg p).wr=some d
    ·refine bI (by show decide (V.int (wrI (S.pg p).wr)=V.int d)=true;rw[e];exact decide_eq_true rfl) ?_
     refine⟨_,rfl,_,rfl,A (.bU p),_,rfl,dput aa3 vU Fd,?_⟩
     obtain⟨M3,f3⟩:=M2.zU hp (g:={S.pg p with num:=x,wr:=none}) (by rw[TS.b7]) (by rw[TS.b7])
     rw[TS.oG]at M3
     refine⟨_,rfl,k b A _ ?_ (f12.trans f3 (Mv.refl _ _ _ _)) (Mv.refl _ _ _ _) ((f3.tups M2) b _ hb2)⟩
     have:=hdo _ ek.symm
     rw[if_pos e]at ek this
     rw[<-this]
     show aY _ A n m _ (se++((S.pg p).take p d (.gave p x)).2)
     rw[ek,List.append_nil]
     exact M3
    ·refine aP (decide_eq_false λz=>e ?_) ?_
     ·have z1:wrI (S.pg p).wr=(d:Int):=V.int.inj z
      cases hw:(S.pg p).wr with
      | none=>rw[hw]at z1;have:(-1:Int)=d:=z1;lia
      | some y=>rw[hw]at z1;have:(y:Int)=d:=z1;exact congrArg some (by lia)
     ·refine⟨_,rfl,k b A _ ?_ f12 (Mv.refl _ _ _ _) hb2⟩
      have:=hdo _ ek.symm
      rw[if_neg e]at ek this
      rw[<-this]
      show aY _ A n m _ (se++((S.pg p).take p d (.gave p x)).2)
      rw[ek,List.append_nil]
      exact M2
  | ans p o =>
    have hq':p=p0:=hq
    subst hq'
    refine zt rfl (dF.of hb1) rfl ⟨rfl,_,rfl,?_⟩
    refine aP (dj (by decide +kernel)) ?_
    try dsimp only[bN]
    refine gf (λσ' H'=>σ'=[some (.ref (A .bc)),some (.int d),some (.ref b),some (.ref (A (.bU p)))]/\aY H' A n m (S1.xQ p {S.pg p with num:=o.getD (S.pg p).num} []) se/\nj H H' A n m/\H' b=some (.tup (UL.ans p o).vs)) (λN hN=>?_) ?_
    ·refine zt rfl (dF.of hb1) rfl ⟨_,rfl,?_⟩
     cases o with
     | none =>
       refine aP rfl ?_
       exact hN _ _ ⟨rfl,M1',f1,hb1⟩
     | some x =>
       refine bI rfl ?_
       refine zt rfl (dF.of hb1) rfl ⟨_,rfl,A (.bU p),_,rfl,dput hsh vU Iw,?_⟩
       obtain⟨M2,f2⟩:=M1'.zU hp (g:={S.pg p with num:=x}) (by rw[TS.b7]) (by rw[TS.b7])
       rw[TS.oG]at M2
       exact hN _ _ ⟨rfl,M2,f1.trans f2 (Mv.refl _ _ _ _),(f2.tups M1') b _ hb1⟩
    ·rintro σ' H2 ⟨rfl,M2,f2,hb2⟩
     have aa3:=M2.bU hp
     rw[TS.b7]at aa3
     refine zt rfl (dF.of hb2) rfl ⟨rfl,_,rfl,?_⟩
     refine aP (dj (by decide +kernel)) ?_
     refine zd rfl (fG aa3 vR) ⟨_,_,rfl,rfl,_,rfl,A (.bU p),_,rfl,dput aa3 vU Fe,?_⟩
     generalize hg2:({S.pg p with num:=o.getD (S.pg p).num,miss:=(S.pg p).miss - 1}:PG)=g2
     obtain⟨M3,f3⟩:=M2.zU hp (g:=g2) (by rw[TS.b7,<-hg2]) (by rw[TS.b7,<-hg2])
     rw[TS.oG]at M3
     have hb3:=(f3.tups M2) b _ hb2
     have f13:=f2.trans f3 (Mv.refl _ _ _ _)
     generalize upd H2 (A (.bU p)) (.dK (zF g2 (A (.jc p)) (A (.jL p))))=H3 at M3 f3 hb3 f13
     have anf:=M3.bU hp
     rw[TS.b7]at anf
     have gm:g2.miss=(S.pg p).miss - 1:=by rw[<-hg2]
     have ga:g2.ask=(S.pg p).ask:=by rw[<-hg2]
     have gr:g2.rd=(S.pg p).rd:=by rw[<-hg2]
     have gn2:Uh n g2:=by rw[<-hg2];exact⟨hgn.w,hgn.r,hgn.q⟩
     have gmu:g2.mu=(S.pg p).mu:=by unfold PG.mu;rw[ga,gr]
     have ek:(S.pg p).take p d (.ans p o)=if(S.pg p).miss - 1=0 then((g2.lent.serve p).1,g2.dW p++(g2.lent.serve p).2)else(g2,[]):=by simp only[PG.take];rw[hg2]
     have aAa:(S.pg p).mu<=900000:=hmu
     try dsimp only[bN]
     refine zd rfl (fG anf vR) ⟨rfl,_,rfl,?_⟩
     by_cases e:(S.pg p).miss - 1=0
     ·refine bI (by rw[gm,e];exact decide_eq_true rfl) ?_
      rw[if_pos e]at ek
      have hak:g2.ask≠[]:=by rw[ga];exact hgd e
      refine⟨_,rfl,zt rfl (dF.of hb3) rfl ⟨A,n,m,_,se,p,rfl,M3,hp,by rw[TS.b7];exact hak,by rw[TS.b7];exact gn2,?_,?_,?_⟩⟩
      ·rw[TS.b7,gr];unfold PG.mu at aAa;lia
      ·have:=Cq.at (acc:=[]) (p:=p) (g:=g2) (j:=1) apw (by show 0+1<=4*(S.pg p).mu+20;lia)
       rw[List.append_nil]at this
       exact this
      ·rw[TS.b7]
       intro A4 H4 M4 f4 mv4
       have e4:(S1.xQ p g2 []).xQ p g2.lent (g2.dW p)=S1.xQ p g2.lent (g2.dW p):=by unfold TS.xQ;simp only[mQ];rfl
       rw[e4]at M4
       have hA:A4 .bc=A .bc:=mv4.bc
       have hb4:=(f4.tups M3) b _ hb3
       have ll:(g2.dW p).length<=1:=by unfold PG.dW;split<;>simp
       have hlm:=g2.sS
       refine⟨_,rfl,zt rfl (dF.of hb4) rfl ⟨A4,n,m,_,se++g2.dW p,p,by rw[hA];rfl,M4,hp,by rw[TS.b7];exact gn2.lent,?_,?_,?_⟩⟩
       ·rw[TS.b7];lia
       ·rw[TS.b7]
        exact Cq.at apw (by show _<=4*(S.pg p).mu+20;lia)
       ·rw[TS.b7]
        intro A5 H5 z hz M5 f5 mv5
        rw[PG.yu,gm,if_pos e]at hz
        have e5:(S1.xQ p g2.lent (g2.dW p)).xQ p z.1 z.2=S1.xQ p z.1 (g2.dW p++z.2):=by unfold TS.xQ;simp only[mQ,jX]
        rw[e5,List.append_assoc]at M5
        have ek':(z.1,g2.dW p++z.2)=(S.pg p).take p d (.ans p o):=by rw[ek,hz]
        have:=hdo _ ek'
        have mv:Mv H A A5 n m:=λy hy=>((mv4.trans f4.lv mv5) y hy).imp id λe=>⟨e.1,f13.lv _ e.2⟩
        refine⟨_,rfl,k b A5 H5 ?_ ((f13.trans f4 (Mv.refl _ _ _ _)).trans f5 λy hy=>(mv4 y hy).imp id λe=>⟨e.1,f13.lv _ e.2⟩) mv ((f5.tups M4) b _ hb4)⟩
        rw[<-this]
        show aY _ A5 n m _ (se++((S.pg p).take p d (.ans p o)).2)
        rw[<-ek']
        exact M5
     ·refine aP (by rw[gm];exact decide_eq_false λz=>e (V.int.inj z)) ?_
      rw[if_neg e]at ek
      refine⟨_,rfl,k b A H3 ?_ f13 (Mv.refl _ _ _ _) hb3⟩
      have:=hdo _ ek.symm
      rw[<-this]
      show aY _ A n m _ (se++((S.pg p).take p d (.ans p o)).2)
      rw[ek,List.append_nil]
      exact M3
theorem Az{n p:Nat}(h:p<n):ixN n (p:Int)=some p:=by unfold ixN;rw[if_pos (Int.natCast_nonneg _),if_pos (by lia)];simp
theorem yX{m p:Nat}{f g:Nat->V}{v:V}(hp:p<m)(hg:g p=v)(h:∀q,q≠p->g q=f q):((List.range m).map f).set p v=(List.range m).map g:=by
 refine List.ext_getElem? λi=>?_
 by_cases e:i=p
 ·subst e
  rw[List.getElem?_set_self (by simpa using hp),List.getElem?_map,List.getElem?_range hp]
  simp[hg]
 ·rw[List.getElem?_set_ne (Ne.symm e),List.getElem?_map,List.getElem?_map]
  by_cases hi:i<m
  ·rw[List.getElem?_range hi];simp[h i e]
  ·rw[List.getElem?_eq_none (by simpa using hi)];rfl
def aAb:Sp:=λvs H Q _=>∃r a w,vs=[.str (Rt.s r),.ref a]/\H a=some (.tup (W.vs w))/\Q (.bl (decide (w.need.k<=r.k))) H
def at8:Sp:=λvs H Q _=>∃A n m S se a w,∃d p:Nat,vs=[.ref (A .bc),.int d,.ref a]/\aY H A n m S se/\d<n/\H a=some (.tup (W.vs w))/\w.pg=(p:Int)/\p<m/\S.row.length<=1000000/\
 ∀H',aY H' A n m {S with ds:=aG S.ds d ((S.ds d).done w),row:=c7 S.row d [(w.m9,w.pg,(S.ds d).num w)]} se->nj H H' A n m->Q (.int ((S.ds d).num w)) H'
def aw0:Sp:=λvs H Q _=>∃A n m S se l r,∃d p:Nat,vs=[.ref (A .bc),.int d]/\aY H A n m S se/\d<n/\S.dn d=l::r/\l.pg=(p:Int)/\p<m/\l.nice/\(∀w,(S.ds d).ws=some w->∃q:Nat,q<m/\w.pg=(q:Int))/\S.row.length<=1000000/\(S.up d).length<=1000000/\
 ∀b H',aY H' A n m (S.Ik d l r) se->nj H H' A n m->H' b=some (.tup l.vs)->Q (.ref b) H'
theorem DS.alm(S:DS)(p:Int)(r:Rt)(h:S.rt p=r):S.hold p r (S.nm p)=S:=by
 unfold DS.hold
 cases S
 congr
 ·funext q;dsimp only at h ⊢;split<;>simp_all
 ·funext q;dsimp only at h ⊢;split<;>simp_all
theorem ag6{H:Hp}{vs:List V}{l:Let}{r:List Let}(h:aH H vs ((l::r).map Let.d)):∃b us,vs=.ref b::us/\H b=some (.tup l.vs)/\aH H us (r.map Let.d):=by
 rw[List.map_cons]at h
 obtain⟨v,us,e,rv,rl⟩:=aH.cons_inv h
 cases l with
 | lend p x k =>
   simp only[Let.d,Rep,aH]at rv
   obtain⟨b,xs,rfl,hb,_,_,rfl,rfl,_,_,rfl,rfl,_,_,rfl,rfl,_,_,rfl,rfl,rfl⟩:=rv
   exact⟨b,us,e,hb,rl⟩
 | back p x =>
   simp only[Let.d,Rep,aH]at rv
   obtain⟨b,xs,rfl,hb,_,_,rfl,rfl,_,_,rfl,rfl,_,_,rfl,rfl,rfl⟩:=rv
   exact⟨b,us,e,hb,rl⟩
theorem W.at9(w:W):Qu w.vs 0=some (.str w.tag):=by cases w<;>rfl
theorem W.aua(w:W):Qu w.vs 1=some (.int w.pg):=by cases w<;>rfl
theorem DS.ang(S:DS)(w:W)(q:Int):(S.done w).rt q=S.rt q:=by
 cases w with
 | look p=>rfl
 | put p n=>show(if q=p then S.rt p else S.rt q)=S.rt q;split<;>simp_all
theorem DS.anh(S:DS)(w:W):(S.done w).nm w.pg=S.num w:=by
 cases w with
 | look p=>rfl
 | put p n=>show(if p=p then n else S.nm p)=n;rw[if_pos rfl]
theorem SM(T:Txt K w mg t):cZ P w K mg base oY 1 t.kh t.FT ["_law_right","_law_wish"] aAb:=by
 refine T.J5.ok agw (λvs H Q E h=>?_) (λcdv A outer s H vs Q E hr h=>?_)
 ·obtain⟨r,a,w,rfl,_⟩:=h;rfl
 ·obtain⟨r,a,w,rfl,ha,k⟩:=h
  refine⟨_,(aB (bf (arq (kO cR (pv 0) aC (bu _)) (acS (al6 (kO cR (pv 0) aC (bu _)) (acS (kO cR (aO bC (pv 1) aA (λ_ _=>rfl)) aC (bu _)))))))),?_⟩
  try dsimp only[dm,Cx.lu]
  refine⟨_,rfl,rfl,_,rfl,?_⟩
  cases r with
  | wr =>
    refine bI fK ?_
    cases w<;>exact k
  | rd =>
    refine aP (oZ (x:="write") (q:=.wr) rfl (by intro z;cases z)) ?_
    refine⟨_,rfl,rfl,_,rfl,?_⟩
    refine bI fK ?_
    refine zt rfl (dF.of ha) (W.at9 w) ⟨rfl,?_⟩
    cases w with
    | look p=>exact k
    | put p n =>
      have e:decide (V.str (W.put p n).tag=V.str "look")=false:=dj (show("put":Str)≠"look" by decide +kernel)
      rw[e];exact k
  | no =>
    refine aP (oZ (x:="write") (q:=.wr) rfl (by intro z;cases z)) ?_
    refine⟨_,rfl,rfl,_,rfl,?_⟩
    refine aP (oZ (x:="read") (q:=.rd) rfl (by intro z;cases z)) ?_
    cases w<;>exact k
theorem Gr(T:Txt K w mg t):cZ P w K mg base oY 1 t.gM t.uK ["_law_town","_law_desk","_law_wish"] at8:=by
 refine T.xN.ok FP (λvs H Q E h=>?_) (λcdv A outer s H vs Q E hr h=>?_)
 ·obtain⟨A,n,m,S,se,a,w,d,p,rfl,_⟩:=h;rfl
 ·obtain⟨A,n,m,S,se,a,w,d,p,rfl,M,hd,ha,hpg,hp,hrl,k⟩:=h
  have hu:=lG hr
  have sl:sizeLine=16777216:=by decide
  refine⟨_,(ak (b8 (aU cR (aO bC (pv 2) aA (λ_ _=>rfl)) aC (bu _)) (aB (zH (aO bC (pv 2) aA (λ_ _=>rfl)) (JK (aO bF (bH hu (pv 0) aC (λ_ _=>rfl)) (pv 1) (λ_ _=>rfl)) (aO bC (pv 2) aA (λ_ _=>rfl)) set_list))) bD)
   (ak (bz (i:=3) FP.nd rfl (Or.inl rfl) (aO bF (aO bF (bH hu (pv 0) aC (λ_ _=>rfl)) (pv 1) (λ_ _=>rfl)) (aO bC (pv 2) aA (λ_ _=>rfl)) (λ_ _=>rfl)))
   (ak (bM (eN PySem.F.plainAttrs_list PySem.F.slot_list_append PySem.F.type_list_append cD (bH hu (pv 0) aC (λ_ _=>rfl)) (aa (cu (aa (aO bC (pv 2) aA (λ_ _=>rfl)) (aa (pv 1) (aa (aO bC (pv 2) aA (λ_ _=>rfl)) (aa (pv 3) ao))))) ao)))
   (aB (bf (pv 3)))))),?_⟩
  try dsimp only[dm,Cx.lu]
  show let Z1:L2.TS:=_;let Z2:L2.TS:=di _ Z1 bN;let Z3:L2.TS:=_;let Z4:L2.TS:=_;let Z5:L2.TS:=_;let D0:Ends:=_;(aR Z2 (aR Z3 (aR Z4 (Z5)))) D0 _ _
  intro Z1 Z2 Z3 Z4 Z5 D0
  try dsimp only[bN]
  refine gf (λσ' H'=>σ'=[some (.ref (A .bc)),some (.int d),some (.ref a),none]/\aY H' A n m {S with ds:=aG S.ds d ((S.ds d).done w)} se/\nj H H' A n m/\H' a=some (.tup w.vs)) (λN hN=>?_) ?_
  ·refine zt rfl (dF.of ha) (W.at9 w) ⟨rfl,_,rfl,?_⟩
   cases w with
   | look q =>
     refine aP (dj (show("look":Str)≠"put" by decide +kernel)) ?_
     refine hN _ _ ⟨rfl,?_,nj.refl _ _ _ _,ha⟩
     have:({S with ds:=aG S.ds d ((S.ds d).done (.look q))}:TS)=S:=by show({S with ds:=aG S.ds d (S.ds d)}:TS)=S;rw[eE]
     rw[this];exact M
   | put q x =>
     have hq:q=(p:Int):=hpg
     subst hq
     refine bI fK ?_
     have hcp:=M.cp hd
     refine zt rfl (dF.of ha) rfl (Ui rfl (fG M.bc um) rfl (bZ.of M.copies) (bQ hd) (zt rfl (dF.of ha) rfl ⟨A (.cp d),_,_,p,rfl,rfl,hcp,Az (by simpa using hp),?_⟩))
     obtain⟨M1,f1⟩:=M.awD hd (D':=(S.ds d).done (.put p x)) (by funext q;exact DS.ang _ _ _) rfl
     have e:((List.range m).map λq:Nat=>V.int ((S.ds d).nm q)).set p (.int x)=(List.range m).map λq:Nat=>V.int (((S.ds d).done (.put p x)).nm q):=by
      refine yX hp ?_ λq hq=>?_
      ·show V.int (if(p:Int)=p then x else _)=_;rw[if_pos rfl]
      ·show V.int (if(q:Int)=p then x else _)=_;rw[if_neg (by lia)]
     rw[e]
     exact hN _ _ ⟨rfl,M1,f1,(f1.tups M) a _ ha⟩
  ·rintro σ' H1 ⟨rfl,M1,f1,ha1⟩
   have hcp:=M1.cp hd
   simp only[aK]at hcp
   have hnum:((S.ds d).done w).nm (p:Int)=(S.ds d).num w:=by rw[<-hpg];exact DS.anh _ _
   refine Ui rfl (fG M1.bc um) rfl (bZ.of M1.copies) (bQ hd) (zt rfl (dF.of ha1) (W.aua w) ⟨A (.cp d),_,p,.int ((S.ds d).num w),rfl,by rw[hpg],bZ.of hcp,?_,?_⟩)
   ·rw[bQ hp,hnum]
   obtain⟨rv,r1,r2⟩:=M1.row
   have aAc:rv.length<sizeLine:=by rw[r2.length,List.length_map];show S.row.length<_;lia
   refine zd rfl (fG M1.bc apd) ⟨.inl ⟨rfl,_,bZ.of r1⟩,zt rfl (dF.of ha1) (W.at9 w) ⟨_,rfl,zt rfl (dF.of ha1) (W.aua w) ⟨_,rfl,zz4,λb hb=>?_⟩⟩⟩
   have s2:=az (o:=.tup [.str w.tag,.int d,.int w.pg,.int ((S.ds d).num w)]) hb
   refine⟨A .row,rv,_,rfl,rfl,s2 _ _ r1,aAc,?_⟩
   have rp:aH (upd H1 b (.tup [.str w.tag,.int d,.int w.pg,.int ((S.ds d).num w)])) (rv++[.ref b]) ((c7 S.row d [(w.m9,w.pg,(S.ds d).num w)]).map RE.d):=by
    unfold c7
    rw[List.map_append]
    refine aH.snoc (r2.aZ (bh s2) (bY RE.flat _)) ?_
    simp only[RE.d,Rep,aH,<-W.aiI]
    exact⟨b,_,rfl,aj,_,_,rfl,rfl,_,_,rfl,rfl,_,_,rfl,rfl,_,_,rfl,rfl,rfl⟩
   obtain⟨M3,f3⟩:=(M1.same s2).amQ rp
   exact⟨_,rfl,k _ M3 ((f1.trans (nj.of_same (A:=A) s2) (Mv.refl _ _ _ _)).trans f3 (Mv.refl _ _ _ _))⟩
theorem Yv(T:Txt K w mg t):cZ P w K mg base oY 2 t.gO t.uL ["_law_town","_law_desk"] aw0:=by
 refine T.Jd.ok gZ (λvs H Q E h=>?_) (λcdv A outer s H vs Q E hr h=>?_)
 ·obtain⟨A,n,m,S,se,l,r,d,p,rfl,_⟩:=h;rfl
 ·obtain⟨A,n,m,S,se,l,r,d,p,rfl,M,hd,hdn,hlp,hp,hni,hws,hrl,hul,k⟩:=h
  have hu:=lG hr
  have sl:sizeLine=16777216:=by decide
  refine⟨_,(ak (bz (i:=2) gZ.nd rfl (Or.inl rfl) (eN PySem.F.plainAttrs_list PySem.F.slot_list_pop PySem.F.type_list_pop Ey (aO bF (bH hu (pv 0) aC (λ_ _=>rfl)) (pv 1) (λ_ _=>rfl)) (aa aA ao)))
   (ak (bz (i:=3) gZ.nd rfl (Or.inl rfl) (aO bC (pv 2) aA (λ_ _=>rfl)))
   (ak (bz (i:=4) gZ.nd rfl (Or.inl rfl) (aO bF (aO bF (bH hu (pv 0) aC (λ_ _=>rfl)) (pv 1) (λ_ _=>rfl)) (pv 3) (λ_ _=>rfl)))
   (ak (b8 (aU cR (aO bC (pv 2) aA (λ_ _=>rfl)) aC (bu _)) (ak (zH (aO bC (pv 2) aA (λ_ _=>rfl)) (JK (aO bF (bH hu (pv 0) aC (λ_ _=>rfl)) (pv 1) (λ_ _=>rfl)) (pv 3) set_list))
   (ak (zH (aO bC (pv 2) aA (λ_ _=>rfl)) (JK (aO bF (bH hu (pv 0) aC (λ_ _=>rfl)) (pv 1) (λ_ _=>rfl)) (pv 3) set_list))
   (ak (bz (i:=5) gZ.nd rfl (Or.inl rfl) (aO bF (bH hu (pv 0) aC (λ_ _=>rfl)) (pv 1) (λ_ _=>rfl)))
   (ak (b8 (PW.pt (Qp (wX (vG (pv 5))) (Qp (aU cR (aO bC (pv 5) aA (λ_ _=>rfl)) (pv 3) (bu _)) (Lx (lW (cH (SM T) (hr.mono (by decide):bR 1 _) (by rfl) T.Yj T.J5.kp T.Yi .nil bW (aa (aO bC (pv 2) aA (λ_ _=>rfl)) (aa (pv 5) ao)))))))) (ak (zH tX (JK (bH hu (pv 0) aC (λ_ _=>rfl)) (pv 1) set_list))
   (aB (bM (cH (Gr T) (hr.mono (by decide):bR 1 _) (by rfl) T.Jc T.xN.kp T.Jb .nil bW (aa (pv 0) (aa (pv 1) (aa (pv 5) ao))))))) bD)
   (aB (bf (pv 2))))))) bD)
   (ak (bz (i:=6) gZ.nd rfl (Or.inl rfl) tX)
   (ak (b8 (aU cR (pv 4) aC (bu _)) (aB (bz (i:=6) gZ.nd rfl (Or.inl rfl) (aO bF (aO bF (bH hu (pv 0) aC (λ_ _=>rfl)) (pv 1) (λ_ _=>rfl)) (pv 3) (λ_ _=>rfl)))) bD)
   (ak (b8 (PW.pt (vH (aU cR (pv 4) aC (bu _)) (pP (aU cR (aO bC (pv 2) aA (λ_ _=>rfl)) aC (bu _))))) (aB (zH (aO bC (pv 2) aA (λ_ _=>rfl)) (JK (aO bF (bH hu (pv 0) aC (λ_ _=>rfl)) (pv 1) (λ_ _=>rfl)) (pv 3) set_list))) bD)
   (ak (bM (eN PySem.F.plainAttrs_list PySem.F.slot_list_append PySem.F.type_list_append cD (aO bF (bH hu (pv 0) aC (λ_ _=>rfl)) (pv 1) (λ_ _=>rfl)) (aa (cu (aa aC (aa (pv 3) (aa (pv 6) ao)))) ao)))
   (aB (bf (pv 2))))))))))),?_⟩
  try dsimp only[dm,Cx.lu]
  show let Z1:L2.TS:=_;let Z2:L2.TS:=_;let Z3:L2.TS:=_;let Z4:L2.TS:=_;let Z5:L2.TS:=_;let Z6:L2.TS:=_;let Z7:L2.TS:=_;let Z8:L2.TS:=_;let Z9:L2.TS:=aR Z7 (Z8);let Cp:L2.TS:=di _ Z9 bN;let Nu:L2.TS:=_;let Nv:L2.TS:=aR Z4 (aR Z5 (aR Z6 (aR Cp (Nu))));let Sy:L2.TS:=di _ Nv bN;let SJ:L2.TS:=_;let Z15:L2.TS:=_;let Z16:L2.TS:=di _ Z15 bN;let Z17:L2.TS:=_;let Z18:L2.TS:=di _ Z17 bN;let Z19:L2.TS:=_;let Z20:L2.TS:=_;let D0:Ends:=_;(aR Z1 (aR Z2 (aR Z3 (aR Sy (aR SJ (aR Z16 (aR Z18 (aR Z19 (Z20))))))))) D0 _ _
  intro Z1 Z2 Z3 Z4 Z5 Z6 Z7 Z8 Z9 Cp Nu Nv Sy SJ Z15 Z16 Z17 Z18 Z19 Z20 D0
  obtain⟨dv,d1,d2⟩:=M.dn hd
  rw[hdn]at d2
  obtain⟨b,us,rfl,hb,d3⟩:=ag6 d2
  refine Ui rfl (fG M.bc Ia) rfl (bZ.of M.downs) (bQ hd) ⟨.inl ⟨rfl,_,bZ.of d1⟩,A (.dn d),_,0,0,_,rfl,rfl,d1,(by decide),(by decide),amH _ _,rfl,?_⟩
  rw[List.eraseIdx_cons_zero]
  obtain⟨M1,f1⟩:=M.ala hd d3
  have hb1:=(f1.tups M) b _ hb
  generalize upd H (A (.dn d)) (.lst us)=H1 at M1 f1 hb1
  generalize hS1:({S with dn:=aG S.dn d r}:TS)=S1 at M1
  have hds:S1.ds=S.ds:=by rw[<-hS1]
  have aw1:S1.up=S.up:=by rw[<-hS1]
  have hrw:S1.row=S.row:=by rw[<-hS1]
  have hl1:Qu l.vs 1=some (.int p):=by cases l<;>exact congrArg (λz=>some (V.int z)) hlp
  have hrt:=M1.rt hd
  rw[hds]at hrt
  refine zt rfl (dF.of hb1) hl1 ?_
  refine Ui rfl (fG M1.bc j0) rfl (bZ.of M1.rights) (bQ hd) (zl rfl (bZ.of hrt) (bQ hp) ?_)
  cases l with
  | lend q x y =>
    have hq:q=(p:Int):=hlp
    subst hq
    have hx:x=.rd\/x=.wr:=hni
    refine zt rfl (dF.of hb1) rfl ⟨rfl,_,rfl,?_⟩
    refine bI fK ?_
    refine zt rfl (dF.of hb1) rfl (Ui rfl (fG M1.bc j0) rfl (bZ.of M1.rights) (bQ hd) ⟨_,rfl,A (.rt d),_,_,p,rfl,rfl,hrt,Az (by simpa using hp),?_⟩)
    have e1:((List.range m).map λq:Nat=>V.str ((S.ds d).rt q).s).set p (.str x.s)=(List.range m).map λq:Nat=>V.str (({S.ds d with rt:=((S.ds d).hold p x y).rt}:DS).rt q).s:=by
     refine yX hp ?_ λq hq=>?_
     ·show V.str (if(p:Int)=p then x else _).s=_;rw[if_pos rfl]
     ·show V.str (if(q:Int)=p then x else _).s=_;rw[if_neg (by lia)]
    rw[e1]
    obtain⟨M2,f2⟩:=M1.atn hd (D':={S.ds d with rt:=((S.ds d).hold p x y).rt}) (by rw[hds]) (by rw[hds])
    have hb2:=(f2.tups M1) b _ hb1
    have f12:=f1.trans f2 (Mv.refl _ _ _ _)
    generalize upd H1 (A (.rt d)) (.lst ((List.range m).map λq:Nat=>V.str (({S.ds d with rt:=((S.ds d).hold p x y).rt}:DS).rt q).s))=H2 at M2 f2 hb2 f12
    have hcp:=M2.cp hd
    simp only[aK]at hcp
    refine zt rfl (dF.of hb2) rfl (Ui rfl (fG M2.bc um) rfl (bZ.of M2.copies) (bQ hd) ⟨_,rfl,A (.cp d),_,_,p,rfl,rfl,hcp,Az (by simpa using hp),?_⟩)
    have e2:((List.range m).map λq:Nat=>V.int ((S.ds d).nm q)).set p (.int y)=(List.range m).map λq:Nat=>V.int (((S.ds d).hold p x y).nm q):=by
     refine yX hp ?_ λq hq=>?_
     ·show V.int (if(p:Int)=p then y else _)=_;rw[if_pos rfl]
     ·show V.int (if(q:Int)=p then y else _)=_;rw[if_neg (by lia)]
    dsimp only
    rw[e2]
    obtain⟨M3,f3⟩:=M2.awD hd (D':=(S.ds d).hold p x y) (by simp only[aK]) (by simp only[aK];rfl)
    simp only[mQ,hds]at M3
    have hb3:=(f3.tups M2) b _ hb2
    have f13:=f12.trans f3 (Mv.refl _ _ _ _)
    generalize upd H2 (A (.cp d)) (.lst ((List.range m).map λq:Nat=>V.int (((S.ds d).hold p x y).nm q)))=H3 at M3 f3 hb3 f13
    generalize hS3:({S1 with ds:=aG S.ds d ((S.ds d).hold p x y)}:TS)=S3 at M3
    have hd3:S3.ds d=(S.ds d).hold p x y:=by rw[<-hS3];exact aK _ _ _
    obtain⟨wv,w1,w2,w3⟩:=M3.dY
    obtain⟨v,v1,v2⟩:=w3 d hd
    rw[hd3,DS.ac4]at v2
    have hfin:S.Ik d (.lend p x y) r={S3 with ds:=aG S3.ds d ((S.ds d).mR p x y).1,up:=S.up,row:=c7 S.row d ((S.ds d).mR p x y).2}:=by
     rw[<-hS3,<-hS1]
     simp only[TS.Ik,TS.jY,DS.ug,mQ,List.append_nil,eE]
    refine Ui rfl (fG M3.bc pU) rfl (bZ.of w1) (zL v1) ?_
    have none_:((S.ds d).mR p x y)=((S.ds d).hold p x y,[])->aY H3 A n m (S.Ik d (.lend p x y) r) se:=λe=>by
     rw[hfin,e]
     have:({S3 with ds:=aG S3.ds d ((S.ds d).hold p x y),up:=S.up,row:=c7 S.row d []}:TS)=S3:=by
      rw[<-hd3,eE,<-hS3,<-hS1];unfold c7;simp
     rw[this];exact M3
    cases hw:(S.ds d).ws with
    | none =>
      rw[hw]at v2
      have ev:v=.non:=v2
      subst ev
      refine⟨_,rfl,_,rfl,?_⟩
      refine aP rfl (w6 ?_)
      exact⟨_,rfl,k b H3 (none_ (by unfold DS.mR;rw[hw])) f13 hb3⟩
    | some w =>
      rw[hw]at v2
      obtain⟨wa,ev,hwa⟩:=v2
      subst ev
      obtain⟨q,hqm,hqp⟩:=hws w hw
      refine⟨_,rfl,_,rfl,?_⟩
      refine bI rfl ?_
      refine zt rfl (dF.of hwa) (W.aua w) ⟨_,rfl,rfl,_,rfl,?_⟩
      by_cases epg:w.pg=(p:Int)
      ·refine bI (decide_eq_true (by rw[epg])) ?_
       refine zt rfl (dF.of hb3) rfl ⟨_,rfl,x,wa,w,rfl,hwa,_,rfl,?_⟩
       have ai3:((S.ds d).hold p x y).ok w↔w.need.k<=x.k:=by unfold DS.ok;rw[epg,DS.qC]
       by_cases hok:w.need.k<=x.k
       ·refine bI (decide_eq_true hok) ?_
        refine zd rfl (fG M3.bc pU) ⟨_,rfl,A .dY,_,_,d,rfl,rfl,w1,by rw[w2];exact Az hd,?_⟩
        obtain⟨M4,f4⟩:=M3.amR hd (v:=.non) (o:=none) w1 rfl
        rw[hd3]at M4
        have aAe:=(f4.tups M3) wa _ hwa
        have hb4:=(f4.tups M3) b _ hb3
        refine⟨_,rfl,_,rfl,_,rfl,A,n,m,_,se,wa,w,d,p,rfl,M4,hd,aAe,epg,hp,?_,λH5 M5 f5=>?_⟩
        ·show S3.row.length<=_;rw[<-hS3];show S1.row.length<=_;rw[hrw];exact hrl
        ·refine⟨_,rfl,k b H5 ?_ ((f13.trans f4 (Mv.refl _ _ _ _)).trans f5 (Mv.refl _ _ _ _)) ((f5.tups M4) b _ hb4)⟩
         have el:(S.ds d).mR p x y=(({(S.ds d).hold p x y with ws:=none}:DS).done w,[(w.m9,w.pg,((S.ds d).hold p x y).num w)]):=by
          unfold DS.mR;rw[hw];dsimp only;rw[if_pos ⟨epg,ai3.mpr hok⟩]
         rw[hfin,el]
         simp only[aK,mQ]at M5
         have en:({(S.ds d).hold p x y with ws:=none}:DS).num w=((S.ds d).hold p x y).num w:=by cases w<;>rfl
         have er:S3.row=S.row:=by rw[<-hS3];exact hrw
         have eu:S3.up=S.up:=by rw[<-hS3];exact aw1
         rw[en,er]at M5
         have:({S3 with ds:=aG S3.ds d (({(S.ds d).hold p x y with ws:=none}:DS).done w),up:=S.up,row:=c7 S.row d [(w.m9,w.pg,((S.ds d).hold p x y).num w)]}:TS)={S3 with ds:=aG S3.ds d (({(S.ds d).hold p x y with ws:=none}:DS).done w),row:=c7 S.row d [(w.m9,w.pg,((S.ds d).hold p x y).num w)]}:=by rw[<-eu]
         rw[this]
         exact M5
       ·refine aP (decide_eq_false hok) ?_
        exact⟨_,rfl,k b H3 (none_ (by unfold DS.mR;rw[hw];dsimp only;rw[if_neg λz=>hok (ai3.mp z.2)])) f13 hb3⟩
      ·refine aP (decide_eq_false λz=>epg (V.int.inj z)) (w6 ?_)
       exact⟨_,rfl,k b H3 (none_ (by unfold DS.mR;rw[hw];dsimp only;rw[if_neg λz=>epg z.1])) f13 hb3⟩
  | back q x =>
    have hq:q=(p:Int):=hlp
    subst hq
    have hx:x=.rd\/x=.no:=hni
    refine zt rfl (dF.of hb1) rfl ⟨rfl,_,rfl,?_⟩
    refine aP (dj (by decide +kernel)) ?_
    try dsimp only[bN]
    refine gf (λσ' H'=>σ'=[some (.ref (A .bc)),some (.int d),some (.ref b),some (.int p),some (.str ((S.ds d).rt p).s),none,some .non]/\H'=H1) (λN hN=>hN _ _ ⟨rfl,rfl⟩) ?_
    rintro σ' H1' ⟨rfl,rfl⟩
    try dsimp only[bN]
    refine gf (λσ' H'=>σ'=[some (.ref (A .bc)),some (.int d),some (.ref b),some (.int p),some (.str ((S.ds d).rt p).s),none,some (oV ((S.ds d).lz p))]/\H'=H1') (λN hN=>?_) ?_
    ·refine⟨_,rfl,rfl,_,rfl,?_⟩
     by_cases e:(S.ds d).rt p=.wr
     ·refine bI (by rw[e];exact fK) ?_
      have hcp:=M1.cp hd
      rw[hds]at hcp
      refine Ui rfl (fG M1.bc um) rfl (bZ.of M1.copies) (bQ hd) (zl rfl (bZ.of hcp) (bQ hp) ?_)
      refine hN _ _ ⟨?_,rfl⟩
      unfold DS.lz
      rw[if_pos e];rfl
     ·refine aP (oZ (x:="write") (q:=.wr) rfl e) ?_
      refine hN _ _ ⟨?_,rfl⟩
      unfold DS.lz
      rw[if_neg e];rfl
    ·rintro σ' aw2 ⟨rfl,rfl⟩
     try dsimp only[bN]
     refine gf (λσ' H'=>σ'=[some (.ref (A .bc)),some (.int d),some (.ref b),some (.int p),some (.str ((S.ds d).rt p).s),none,some (oV ((S.ds d).lz p))]/\aY H' A n m {S1 with ds:=aG S1.ds d ((S.ds d).down p x)} se/\nj H H' A n m/\H' b=some (.tup (Let.back p x).vs)) (λN hN=>?_) ?_
     ·have acy:∀D',D'=(S.ds d).hold p x ((S.ds d).nm p)->D'=(S.ds d).down p x->
       (asn (W0 (aiv K) (jm 2) (tC (.int 2))) (av5 (W0 (aiu K) (Xa (jm 0) (tC (.str "rights"))) (jm 1)) (jm 3) arA)) {nx:=N,rt:=Q} [some (.ref (A .bc)),some (.int d),some (.ref b),some (.int p),some (.str ((S.ds d).rt p).s),none,some (oV ((S.ds d).lz p))] aw2:=λD' eD eD2=>by
       refine zt rfl (dF.of hb1) rfl (Ui rfl (fG M1.bc j0) rfl (bZ.of M1.rights) (bQ hd) ⟨_,rfl,A (.rt d),_,_,p,rfl,rfl,hrt,Az (by simpa using hp),?_⟩)
       have e1:((List.range m).map λq:Nat=>V.str ((S.ds d).rt q).s).set p (.str x.s)=(List.range m).map λq:Nat=>V.str (D'.rt q).s:=by
        rw[eD]
        refine yX hp ?_ λq hq=>?_
        ·show V.str (if(p:Int)=p then x else _).s=_;rw[if_pos rfl]
        ·show V.str (if(q:Int)=p then x else _).s=_;rw[if_neg (by lia)]
       rw[e1]
       have enm:D'.nm=(S1.ds d).nm:=by rw[eD,hds];funext q;show(if q=(p:Int)then(S.ds d).nm p else(S.ds d).nm q)=_;split<;>simp_all
       have ews:D'.ws=(S1.ds d).ws:=by rw[eD,hds];rfl
       obtain⟨M2,f2⟩:=M1.atn hd (D':=D') enm ews
       exact hN _ _ ⟨rfl,by rw[<-eD2];exact M2,f1.trans f2 (Mv.refl _ _ _ _),(f2.tups M1) b _ hb1⟩
      have stay:(S.ds d).down p x=S.ds d->N [some (.ref (A .bc)),some (.int d),some (.ref b),some (.int p),some (.str ((S.ds d).rt p).s),none,some (oV ((S.ds d).lz p))] aw2:=λe=>by
       refine hN _ _ ⟨rfl,?_,f1,hb1⟩
       have:({S1 with ds:=aG S1.ds d ((S.ds d).down p x)}:TS)=S1:=by rw[e,<-hds,eE]
       rw[this];exact M1
      refine⟨_,rfl,rfl,_,rfl,?_⟩
      cases hrp:(S.ds d).rt p with
      | wr =>
        refine bI fK (pQ ?_)
        rw[hrp]at acy
        refine acy _ rfl ?_
        unfold DS.down
        rw[hrp,if_neg (by rcases hx with z | z<;>rw[z]<;>decide)]
      | rd =>
        refine aP (oZ (x:="write") (q:=.wr) rfl (by intro z;cases z)) ?_
        refine zt rfl (dF.of hb1) rfl ⟨rfl,_,rfl,?_⟩
        rw[hrp]at acy stay
        rcases hx with z | z
        ·subst z
         refine aP (oZ (x:="none") (q:=.no) rfl (by intro z;cases z)) ?_
         exact stay (by unfold DS.down;rw[hrp,if_pos (by decide)])
        ·subst z
         refine bI fK ?_
         exact acy _ rfl (by unfold DS.down;rw[hrp,if_neg (by decide)])
      | no =>
        refine aP (oZ (x:="write") (q:=.wr) rfl (by intro z;cases z)) ?_
        refine zt rfl (dF.of hb1) rfl ⟨rfl,_,rfl,?_⟩
        rw[hrp]at acy stay
        rcases hx with z | z
        ·subst z
         refine aP (oZ (x:="none") (q:=.no) rfl (by intro z;cases z)) ?_
         exact stay (by unfold DS.down;rw[hrp,if_pos (by decide)])
        ·subst z
         refine bI fK ?_
         have e0:(S.ds d).down p .no=S.ds d:=by unfold DS.down;rw[hrp,if_pos (by decide)]
         exact acy _ rfl (by rw[e0];exact DS.alm _ _ _ hrp)
     ·rintro σ' H2 ⟨rfl,M2,f2,hb2⟩
      obtain⟨uv,u1,u2⟩:=M2.up hd
      have ani:uv.length<sizeLine:=by rw[u2.length,List.length_map];show(S1.up d).length<_;rw[aw1];lia
      refine Ui rfl (fG M2.bc Mm) rfl (bZ.of M2.ups) (bQ hd) ⟨.inl ⟨rfl,_,bZ.of u1⟩,_,rfl,_,rfl,zz3,λc hc=>?_⟩
      have s3:=az (o:=.tup [.str "answer",.int p,oV ((S.ds d).lz p)]) hc
      refine⟨A (.up d),uv,_,rfl,rfl,s3 _ _ u1,ani,?_⟩
      have rp:aH (upd H2 c (.tup [.str "answer",.int p,oV ((S.ds d).lz p)])) (uv++[.ref c]) ((S1.up d++[UL.ans p ((S.ds d).lz p)]).map UL.d):=by
       rw[List.map_append]
       exact aH.snoc (u2.aZ (bh s3) (bY UL.flat _)) (Yu (l:=.ans p ((S.ds d).lz p)) aj)
      obtain⟨M4,f4⟩:=(M2.same s3).ago hd rp
      refine⟨_,rfl,k b _ ?_ ((f2.trans (nj.of_same (A:=A) s3) (Mv.refl _ _ _ _)).trans f4 (Mv.refl _ _ _ _)) ((f4.tups (M2.same s3)) b _ (s3 _ _ hb2))⟩
      have:S.Ik d (.back p x) r={S1 with ds:=aG S1.ds d ((S.ds d).down p x),up:=aG S1.up d (S1.up d++[UL.ans p ((S.ds d).lz p)])}:=by
       rw[<-hS1]
       simp only[TS.Ik,TS.jY,DS.ug,Int.toNat_natCast,c7]
       simp
      rw[this]
      exact M4
def cB.dk:cB->Int
 | .look d _=>d
 | .put d _ _=>d
 | .rest d _=>d
 | .up d=>d
 | .down d=>d
def cB.tag:cB->Str
 | .look _ _=>"look"
 | .put _ _ _=>"put"
 | .rest _ _=>"rest"
 | .up _=>"up"
 | .down _=>"down"
theorem cB.at0(x:cB):Qu x.vs 0=some (.str x.tag):=by cases x<;>rfl
theorem cB.at1(x:cB):Qu x.vs 1=some (.int x.dk):=by cases x<;>rfl
def qu(n m:Nat)(S:TS)(x:cB):Str:=if inR x.dk n then(match x with
 | .up d=>bif (S.up d.toNat).isEmpty then "no letter" else ""
 | .down d=>bif (S.dn d.toNat).isEmpty then "no letter" else ""
 | .rest d p=>if inR p m then(bif decide ((S.ds d.toNat).rt p=.no)then "no copy" else "")else "no page"
 | .look d p=>if inR p m then(bif (S.ds d.toNat).ws.isSome then "waiting" else "")else "no page"
 | .put d p _=>if inR p m then(bif (S.ds d.toNat).ws.isSome then "waiting" else "")else "no page")else "no desk"
theorem Yw{x y:Str}{c:Bool}:Qu [V.str x,V.str y] (if c then 1 else 0)=some (.str (bif c then y else x)):=by cases c<;>rfl
def aw3:Sp:=λvs H Q _=>∃A n m S se a x,vs=[.ref (A .bc),.ref a]/\aY H A n m S se/\H a=some (.tup (cB.vs x))/\∀H',bJ H H'->Q (.str (qu n m S x)) H'
theorem Uz(T:Txt K w mg t):cZ P w K mg base oY 1 t.f9 t.rO ["_law_town","_law_deed"] aw3:=by
 refine T.Gk.ok Ce (λvs H Q E h=>?_) (λcdv A outer s H vs Q E hr h=>?_)
 ·obtain⟨A,n,m,S,se,a,x,rfl,_⟩:=h;rfl
 ·obtain⟨A,n,m,S,se,a,x,rfl,M,ha,k⟩:=h
  have hu:=lG hr
  have eus:(("up":Str)++("s":Str))="ups":=by decide +kernel
  have eds:(("down":Str)++("s":Str))="downs":=by decide +kernel
  refine⟨_,(ak (bz (i:=2) Ce.nd rfl (Or.inl rfl) (aO bC (pv 1) aA (λ_ _=>rfl)))
   (ak (b8 (PW.pt (vH (aU ab3 (pv 2) aA (bu _)) (pP (aU W2 (pv 2) (dI dJ (by rfl) T.yU PySem.boot_len (aa (bH hu (pv 0) aC (λ_ _=>rfl)) ao)) (bu _))))) (aB (bf aC)) bD)
   (ak (b8 (PW.pt (vH (aU cR (aO bC (pv 1) aA (λ_ _=>rfl)) aC (bu _)) (pP (aU cR (aO bC (pv 1) aA (λ_ _=>rfl)) aC (bu _))))) (aB (bf (aO bF (bO (aa aC (aa aC ao))) (iw mK (by rfl) T.Nm PyProof.Rows.Boot.«int» (aa (kO (amz hr.aip) (aO bF (bH hu (pv 0) (bG ail (aO bC (pv 1) aA (λ_ _=>rfl)) aC) (λ_ _=>rfl)) (pv 2) (λ_ _=>rfl)) (bO ao) (bu _)) ao)) (λ_ _=>rfl)))) bD)
   (ak (b8 (PW.pt (vH (aU ab3 (aO bC (pv 1) aA (λ_ _=>rfl)) aA (bu _)) (pP (aU W2 (aO bC (pv 1) aA (λ_ _=>rfl)) (dI dJ (by rfl) T.yU PySem.boot_len (aa (bH hu (pv 0) aC (λ_ _=>rfl)) ao)) (bu _))))) (aB (bf aC)) bD)
   (ak (b8 (aU cR (aO bC (pv 1) aA (λ_ _=>rfl)) aC (bu _)) (aB (bf (aO bF (bO (aa aC (aa aC ao))) (iw mK (by rfl) T.Nm PyProof.Rows.Boot.«int» (aa (kO cR (aO bF (aO bF (bH hu (pv 0) aC (λ_ _=>rfl)) (pv 2) (λ_ _=>rfl)) (aO bC (pv 1) aA (λ_ _=>rfl)) (λ_ _=>rfl)) aC (bu _)) ao)) (λ_ _=>rfl)))) bD)
   (aB (bf (aO bF (bO (aa aC (aa aC ao))) (iw mK (by rfl) T.Nm PyProof.Rows.Boot.«int» (aa (al5 (vG (aO bF (bH hu (pv 0) aC (λ_ _=>rfl)) (pv 2) (λ_ _=>rfl)))) ao)) (λ_ _=>rfl))))))))),?_⟩
  try dsimp only[dm,Cx.lu]
  show let Z1:L2.TS:=_;let Z2:L2.TS:=_;let Z3:L2.TS:=di _ Z2 bN;let Z4:L2.TS:=_;let Z5:L2.TS:=di _ Z4 bN;let Z6:L2.TS:=_;let Z7:L2.TS:=di _ Z6 bN;let Z8:L2.TS:=_;let Z9:L2.TS:=di _ Z8 bN;let Cp:L2.TS:=_;let D0:Ends:=_;(aR Z1 (aR Z3 (aR Z5 (aR Z7 (aR Z9 (Cp)))))) D0 _ _
  intro Z1 Z2 Z3 Z4 Z5 Z6 Z7 Z8 Z9 Cp D0
  obtain⟨ws,w1,w2,w3⟩:=M.dY
  refine zt rfl (dF.of ha) (cB.at1 x) ?_
  refine⟨_,rfl,_,_,rfl,rfl,_,rfl,?_⟩
  have ank:¬inR x.dk n->Q (.str "no desk") H:=λh=>by
   have:=k H (bJ.refl _)
   unfold qu at this
   rw[if_neg h]at this
   exact this
  by_cases h0:x.dk<0
  ·refine bI (decide_eq_true h0) (pQ ?_)
   exact ank λh=>by unfold inR at h;lia
  ·refine aP (decide_eq_false h0) ?_
   refine⟨_,rfl,zd rfl (fG M.bc pU) ⟨A .dY,ws,rfl,.inl (bZ.of w1),_,_,rfl,rfl,_,rfl,?_⟩⟩
   rw[w2]
   by_cases h1:(n:Int)<=x.dk
   ·refine bI (decide_eq_true h1) ?_
    exact ank λh=>by unfold inR at h;lia
   ·refine aP (decide_eq_false h1) ?_
    have hin:inR x.dk n:=⟨by lia,by lia⟩
    have k':=k
    unfold qu at k'
    rw[if_pos hin]at k'
    obtain⟨d,hd⟩:∃d:Nat,x.dk=(d:Int):=⟨x.dk.toNat,by lia⟩
    have hdn:d<n:=by lia
    rw[hd]
    cases x with
    | up d' =>
      have e:d'=(d:Int):=hd
      subst e
      simp only[Int.toNat_natCast]at k'
      refine zt rfl (dF.of ha) rfl ⟨rfl,_,rfl,?_⟩
      refine bI fK (pQ ?_)
      obtain⟨uv,u1,u2⟩:=M.up hdn
      refine⟨vC,λz hz=>?_⟩
      have s1:=az (o:=.lst [.str "",.str "no letter"]) hz
      refine⟨_,rfl,zt rfl (dF.of (s1 _ _ ha)) rfl ⟨_,_,rfl,rfl,(by decide +kernel),A .bc,.ref (A .ups),rfl,(by rw[eus];exact fG (s1 _ _ M.bc) Mm),zl rfl (bZ.of (s1 _ _ M.ups)) (bQ hdn) ⟨Dg,λe he=>?_⟩⟩⟩
      have s2:=az (o:=.lst []) he
      refine⟨A (.up d),e,uv,rfl,rfl,bZ.of (s2 _ _ (s1 _ _ u1)),bZ.of aj,.inr ⟨_,rfl,z,_,_,_,rfl,rfl,bZ.of (s2 _ _ aj),Yw,?_⟩⟩
      have eu:uv.isEmpty=(S.up d).isEmpty:=by rw[gB.aH.isEmpty u2];cases S.up d<;>rfl
      have:=k' _ (s1.trans s2)
      rw[<-eu]at this
      exact this
    | down d' =>
      have e:d'=(d:Int):=hd
      subst e
      simp only[Int.toNat_natCast]at k'
      refine zt rfl (dF.of ha) rfl ⟨rfl,_,rfl,?_⟩
      refine aP (dj (show("down":Str)≠"up" by decide +kernel)) ?_
      refine zt rfl (dF.of ha) rfl ⟨rfl,_,rfl,?_⟩
      refine bI fK ?_
      obtain⟨uv,u1,u2⟩:=M.dn hdn
      refine⟨vC,λz hz=>?_⟩
      have s1:=az (o:=.lst [.str "",.str "no letter"]) hz
      refine⟨_,rfl,zt rfl (dF.of (s1 _ _ ha)) rfl ⟨_,_,rfl,rfl,(by decide +kernel),A .bc,.ref (A .downs),rfl,(by rw[eds];exact fG (s1 _ _ M.bc) Ia),zl rfl (bZ.of (s1 _ _ M.downs)) (bQ hdn) ⟨Dg,λe he=>?_⟩⟩⟩
      have s2:=az (o:=.lst []) he
      refine⟨A (.dn d),e,uv,rfl,rfl,bZ.of (s2 _ _ (s1 _ _ u1)),bZ.of aj,.inr ⟨_,rfl,z,_,_,_,rfl,rfl,bZ.of (s2 _ _ aj),Yw,?_⟩⟩
      have eu:uv.isEmpty=(S.dn d).isEmpty:=by rw[gB.aH.isEmpty u2];cases S.dn d<;>rfl
      have:=k' _ (s1.trans s2)
      rw[<-eu]at this
      exact this
    | rest d' y =>
      have e:d'=(d:Int):=hd
      subst e
      simp only[Int.toNat_natCast]at k'
      refine zt rfl (dF.of ha) rfl ⟨rfl,_,rfl,?_⟩
      refine aP (dj (show("rest":Str)≠"up" by decide +kernel)) ?_
      refine zt rfl (dF.of ha) rfl ⟨rfl,_,rfl,?_⟩
      refine aP (dj (show("rest":Str)≠"down" by decide +kernel)) ?_
      refine zt rfl (dF.of ha) rfl ⟨_,_,rfl,rfl,_,rfl,?_⟩
      by_cases h2:y<0
      ·refine bI (decide_eq_true h2) (pQ ?_)
       have:=k' H (bJ.refl _)
       rw[if_neg (λh=>by unfold inR at h;lia)]at this
       exact this
      ·refine aP (decide_eq_false h2) ?_
       refine zt rfl (dF.of ha) rfl (zd rfl (fG M.bc jZ) ⟨A .cV,_,rfl,.inl (bZ.of M.cV),_,_,rfl,rfl,_,rfl,?_⟩)
       rw[List.length_map,List.length_range]
       by_cases h3:(m:Int)<=y
       ·refine bI (decide_eq_true h3) ?_
        have:=k' H (bJ.refl _)
        rw[if_neg (λh=>by unfold inR at h;lia)]at this
        exact this
       ·refine aP (decide_eq_false h3) ?_
        have hy:inR y m:=⟨by lia,by lia⟩
        obtain⟨p,hp⟩:∃p:Nat,y=(p:Int):=⟨y.toNat,by lia⟩
        subst hp
        have hpm:p<m:=by lia
        rw[if_pos hy]at k'
        refine zt rfl (dF.of ha) rfl ⟨rfl,_,rfl,?_⟩
        refine bI fK ?_
        refine⟨vC,λz hz=>?_⟩
        have s1:=az (o:=.lst [.str "",.str "no copy"]) hz
        refine Ui rfl (fG (s1 _ _ M.bc) j0) rfl (bZ.of (s1 _ _ M.rights)) (bQ hdn) (zt rfl (dF.of (s1 _ _ ha)) rfl ⟨A (.rt d),_,p,_,rfl,rfl,bZ.of (s1 _ _ (M.rt hdn)),bQ hpm,rfl,.inr ⟨_,rfl,z,_,_,_,rfl,rfl,bZ.of aj,Yw,?_⟩⟩)
        have:=k' _ s1
        have er:decide (V.str ((S.ds d).rt p).s=V.str "none")=decide ((S.ds d).rt p=.no):=by
         by_cases e:(S.ds d).rt p=.no
         ·rw[e];rfl
         ·rw[oZ (x:="none") (q:=.no) rfl e,decide_eq_false e]
        rw[<-er]at this
        exact this
    | look d' y =>
      have e:d'=(d:Int):=hd
      subst e
      simp only[Int.toNat_natCast]at k'
      refine zt rfl (dF.of ha) rfl ⟨rfl,_,rfl,?_⟩
      refine aP (dj (show("look":Str)≠"up" by decide +kernel)) ?_
      refine zt rfl (dF.of ha) rfl ⟨rfl,_,rfl,?_⟩
      refine aP (dj (show("look":Str)≠"down" by decide +kernel)) ?_
      refine zt rfl (dF.of ha) rfl ⟨_,_,rfl,rfl,_,rfl,?_⟩
      by_cases h2:y<0
      ·refine bI (decide_eq_true h2) (pQ ?_)
       have:=k' H (bJ.refl _)
       rw[if_neg (λh=>by unfold inR at h;lia)]at this
       exact this
      ·refine aP (decide_eq_false h2) ?_
       refine zt rfl (dF.of ha) rfl (zd rfl (fG M.bc jZ) ⟨A .cV,_,rfl,.inl (bZ.of M.cV),_,_,rfl,rfl,_,rfl,?_⟩)
       rw[List.length_map,List.length_range]
       by_cases h3:(m:Int)<=y
       ·refine bI (decide_eq_true h3) ?_
        have:=k' H (bJ.refl _)
        rw[if_neg (λh=>by unfold inR at h;lia)]at this
        exact this
       ·refine aP (decide_eq_false h3) ?_
        have hy:inR y m:=⟨by lia,by lia⟩
        rw[if_pos hy]at k'
        refine zt rfl (dF.of ha) rfl ⟨rfl,_,rfl,?_⟩
        refine aP (dj (show("look":Str)≠"rest" by decide +kernel)) ?_
        refine⟨vC,λz hz=>?_⟩
        have s1:=az (o:=.lst [.str "",.str "waiting"]) hz
        obtain⟨v,v1,v2⟩:=w3 d hdn
        have ev:(!decide (v=V.non))=(S.ds d).ws.isSome:=by
         cases hws:(S.ds d).ws with
         | none=>rw[hws]at v2;have e:v=.non:=v2;rw[e];rfl
         | some w'=>rw[hws]at v2;obtain⟨a',e,_⟩:=v2;rw[e];rfl
        refine Ui rfl (fG (s1 _ _ M.bc) pU) rfl (bZ.of (s1 _ _ w1)) (zL v1) (.inr ⟨_,rfl,z,_,_,_,rfl,rfl,bZ.of aj,Yw,?_⟩)
        have:=k' _ s1
        rw[<-ev]at this
        exact this
    | put d' y q =>
      have e:d'=(d:Int):=hd
      subst e
      simp only[Int.toNat_natCast]at k'
      refine zt rfl (dF.of ha) rfl ⟨rfl,_,rfl,?_⟩
      refine aP (dj (show("put":Str)≠"up" by decide +kernel)) ?_
      refine zt rfl (dF.of ha) rfl ⟨rfl,_,rfl,?_⟩
      refine aP (dj (show("put":Str)≠"down" by decide +kernel)) ?_
      refine zt rfl (dF.of ha) rfl ⟨_,_,rfl,rfl,_,rfl,?_⟩
      by_cases h2:y<0
      ·refine bI (decide_eq_true h2) (pQ ?_)
       have:=k' H (bJ.refl _)
       rw[if_neg (λh=>by unfold inR at h;lia)]at this
       exact this
      ·refine aP (decide_eq_false h2) ?_
       refine zt rfl (dF.of ha) rfl (zd rfl (fG M.bc jZ) ⟨A .cV,_,rfl,.inl (bZ.of M.cV),_,_,rfl,rfl,_,rfl,?_⟩)
       rw[List.length_map,List.length_range]
       by_cases h3:(m:Int)<=y
       ·refine bI (decide_eq_true h3) ?_
        have:=k' H (bJ.refl _)
        rw[if_neg (λh=>by unfold inR at h;lia)]at this
        exact this
       ·refine aP (decide_eq_false h3) ?_
        have hy:inR y m:=⟨by lia,by lia⟩
        rw[if_pos hy]at k'
        refine zt rfl (dF.of ha) rfl ⟨rfl,_,rfl,?_⟩
        refine aP (dj (show("put":Str)≠"rest" by decide +kernel)) ?_
        refine⟨vC,λz hz=>?_⟩
        have s1:=az (o:=.lst [.str "",.str "waiting"]) hz
        obtain⟨v,v1,v2⟩:=w3 d hdn
        have ev:(!decide (v=V.non))=(S.ds d).ws.isSome:=by
         cases hws:(S.ds d).ws with
         | none=>rw[hws]at v2;have e:v=.non:=v2;rw[e];rfl
         | some w'=>rw[hws]at v2;obtain⟨a',e,_⟩:=v2;rw[e];rfl
        refine Ui rfl (fG (s1 _ _ M.bc) pU) rfl (bZ.of (s1 _ _ w1)) (zL v1) (.inr ⟨_,rfl,z,_,_,_,rfl,rfl,bZ.of aj,Yw,?_⟩)
        have:=k' _ s1
        rw[<-ev]at this
        exact this
theorem adK{x:Str}(h:x≠""):(!decide (V.str x=V.str ""))=true:=by rw[dj h];rfl
def aub:Sp:=λvs H Q _=>∃A n m S se a x t,vs=[.ref (A .bc),.ref a]/\aY H A n m S se/\H a=some (.tup (cB.vs x))/\jy n m S/\Bd t S se/\t<=1500/\
 ∀v A' H',aY H' A' n m (S.step n m x).1 (se++S.lK n x)->nj H H' A n m->Mv H A A' n m->Rep H' v (S.step n m x).2->Q v H'
theorem ag7{n m:Nat}{S:TS}{x:cB}(h:qu n m S x≠""):S.step n m x=(S,.s (qu n m S x))/\S.lK n x=[]:=by
 unfold qu at h ⊢
 by_cases hd:inR x.dk n
 ·rw[if_pos hd]at h ⊢
  cases x with
  | up d =>
    have hd':inR d n:=hd
    simp only[TS.step,TS.lK,if_pos hd',TS.upD]at h ⊢
    cases e:S.up d.toNat with
    | nil=>exact⟨rfl,rfl⟩
    | cons l r=>rw[e]at h;exact absurd rfl h
  | down d =>
    have hd':inR d n:=hd
    simp only[TS.step,TS.lK,if_pos hd',TS.Xj]at h ⊢
    cases e:S.dn d.toNat with
    | nil=>exact⟨rfl,trivial⟩
    | cons l r=>rw[e]at h;exact absurd rfl h
  | rest d p =>
    have hd':inR d n:=hd
    simp only[TS.step,TS.lK,if_pos hd']at h ⊢
    by_cases hp:inR p m
    ·simp only[if_pos hp]at h ⊢
     by_cases e:(S.ds d.toNat).rt p=.no
     ·simp only[if_pos e,decide_eq_true e,cond_true];exact⟨trivial,trivial⟩
     ·rw[decide_eq_false e]at h;exact absurd rfl h
    ·simp only[if_neg hp];exact⟨trivial,trivial⟩
  | look d p =>
    have hd':inR d n:=hd
    simp only[TS.step,TS.lK,if_pos hd']at h ⊢
    by_cases hp:inR p m
    ·simp only[if_pos hp]at h ⊢
     cases e:(S.ds d.toNat).ws with
     | none=>rw[e]at h;exact absurd rfl h
     | some w=>unfold TS.wish;rw[e];exact⟨rfl,trivial⟩
    ·simp only[if_neg hp];exact⟨trivial,trivial⟩
  | put d p y =>
    have hd':inR d n:=hd
    simp only[TS.step,TS.lK,if_pos hd']at h ⊢
    by_cases hp:inR p m
    ·simp only[if_pos hp]at h ⊢
     cases e:(S.ds d.toNat).ws with
     | none=>rw[e]at h;exact absurd rfl h
     | some w=>unfold TS.wish;rw[e];exact⟨rfl,trivial⟩
    ·simp only[if_neg hp];exact⟨trivial,trivial⟩
 ·rw[if_neg hd]at h ⊢
  cases x<;>(simp only[cB.dk]at hd;simp[TS.step,TS.lK,hd])
theorem ai4{n m:Nat}{S:TS}{x:cB}(h:qu n m S x=""):inR x.dk n/\(match x with
 | .up d=>S.up d.toNat≠[]
 | .down d=>S.dn d.toNat≠[]
 | .rest d p=>inR p m/\(S.ds d.toNat).rt p≠.no
 | .look d p=>inR p m/\(S.ds d.toNat).ws=none
 | .put d p _=>inR p m/\(S.ds d.toNat).ws=none):=by
 have nd:("no desk":Str)≠"":=by decide +kernel
 have np:("no page":Str)≠"":=by decide +kernel
 have nl:("no letter":Str)≠"":=by decide +kernel
 have nc:("no copy":Str)≠"":=by decide +kernel
 have nw:("waiting":Str)≠"":=by decide +kernel
 unfold qu at h
 by_cases hd:inR x.dk n
 ·rw[if_pos hd]at h
  refine⟨hd,?_⟩
  cases x with
  | up d=>intro e;dsimp only at h;rw[e]at h;exact nl h
  | down d=>intro e;dsimp only at h;rw[e]at h;exact nl h
  | rest d p =>
    dsimp only at h ⊢
    by_cases hp:inR p m
    ·rw[if_pos hp]at h
     refine⟨hp,λe=>?_⟩
     rw[decide_eq_true e]at h
     exact nc h
    ·rw[if_neg hp]at h;exact absurd h np
  | look d p =>
    dsimp only at h ⊢
    by_cases hp:inR p m
    ·rw[if_pos hp]at h
     refine⟨hp,?_⟩
     cases e:(S.ds d.toNat).ws with
     | none=>rfl
     | some w=>rw[e]at h;exact absurd h nw
    ·rw[if_neg hp]at h;exact absurd h np
  | put d p y =>
    dsimp only at h ⊢
    by_cases hp:inR p m
    ·rw[if_pos hp]at h
     refine⟨hp,?_⟩
     cases e:(S.ds d.toNat).ws with
     | none=>rfl
     | some w=>rw[e]at h;exact absurd h nw
    ·rw[if_neg hp]at h;exact absurd h np
 ·rw[if_neg hd]at h;exact absurd h nd
theorem Bd.room{t:Nat}{S:TS}{se:List (Nat×Let)}(b:Bd t S se)(ht:t<=1500){k:Nat}(hk:k<=6000000):Cq S se k:=by
 have:=arJ ht
 exact⟨λd=>by have:=b.dn d;lia,by have:=b.se;lia⟩
theorem aku{H:Hp}{b:Addr}{l:Let}(h:H b=some (.tup l.vs)):Rep H (.ref b) l.d:=by
 cases l with
 | lend p x y=>simp only[Let.d,Rep,aH];exact⟨b,_,rfl,h,_,_,rfl,rfl,_,_,rfl,rfl,_,_,rfl,rfl,_,_,rfl,rfl,rfl⟩
 | back p x=>simp only[Let.d,Rep,aH];exact⟨b,_,rfl,h,_,_,rfl,rfl,_,_,rfl,rfl,_,_,rfl,rfl,rfl⟩
def wd(d:Int):W->cB
 | .look p=>.look d p
 | .put p x=>.put d p x
def acz(S:DS):W->D
 | .look p=>.i (S.nm p)
 | .put _ _=>.s "done"
theorem aAg(w:W):w.vs=.str w.tag::w.vs.tail:=by cases w<;>rfl
theorem aw4(w:W):w.vs.tail≠[]:=by cases w<;>simp[W.vs]
theorem anl(d:Int)(w:W):Qu (wd d w).vs 2=some (.int w.pg):=by cases w<;>rfl
theorem auc(d:Int)(w:W):aaJ (wd d w).vs (some 2) none=w.vs.tail:=by cases w<;>rfl
theorem aw5(d:Int)(w:W):¬(HT.oX (wd d w).vs.length 0 (some 2)=0/\HT.oX (wd d w).vs.length (wd d w).vs.length none=(wd d w).vs.length):=by
 cases w with
 | look p=>intro h;exact absurd (show HT.oX 3 0 (some 2)=0 from h.1) (by decide)
 | put p x=>intro h;exact absurd (show HT.oX 4 0 (some 2)=0 from h.1) (by decide)
theorem aud(d:Int)(w:W):(wd d w).tag=w.tag:=by cases w<;>rfl
theorem aw6(d:Int)(w:W):(wd d w).dk=d:=by cases w<;>rfl
theorem aue(d:Int)(w:W):[V.str w.tag].length+w.vs.tail.length<=sizeLine:=by
 cases w with
 | look p=>show 2<=16777216;decide
 | put p x=>show 3<=16777216;decide
theorem aw7(w:W):w.tag≠"up":=by
 cases w with
 | look p=>show("look":Str)≠"up";decide +kernel
 | put p x=>show("put":Str)≠"up";decide +kernel
theorem apz(w:W):w.tag≠"down":=by
 cases w with
 | look p=>show("look":Str)≠"down";decide +kernel
 | put p x=>show("put":Str)≠"down";decide +kernel
theorem apA(w:W):w.tag≠"rest":=by
 cases w with
 | look p=>show("look":Str)≠"rest";decide +kernel
 | put p x=>show("put":Str)≠"rest";decide +kernel
theorem akv{n m:Nat}{S:TS}{d p:Nat}{w:W}(hd:d<n)(hp:p<m)(hw:w.pg=(p:Int))(h0:(S.ds d).ws=none) :
 S.step n m (wd d w)=(S.jY d ((S.ds d).il w p),if(S.ds d).ok w then acz (S.ds d) w else .s "waits")/\S.lK n (wd d w)=[]:=by
 have h1:inR (d:Int) n:=⟨by lia,by lia⟩
 have h2:inR w.pg m:=by rw[hw];exact⟨by lia,by lia⟩
 cases w with
 | look y =>
   have hy:y=(p:Int):=hw
   subst hy
   have h2':inR (p:Int) m:=h2
   simp only[wd,TS.step,TS.lK,if_pos h1,if_pos h2',Int.toNat_natCast,TS.wish,h0,acz]
   exact⟨trivial,trivial⟩
 | put y x =>
   have hy:y=(p:Int):=hw
   subst hy
   have h2':inR (p:Int) m:=h2
   simp only[wd,TS.step,TS.lK,if_pos h1,if_pos h2',Int.toNat_natCast,TS.wish,h0,acz]
   exact⟨trivial,trivial⟩
theorem aw8{n m:Nat}{S:TS}{d:Int}{w:W}(h:qu n m S (wd d w)=""):inR d n/\inR w.pg m/\(S.ds d.toNat).ws=none:=by
 cases w with
 | look p=>exact ai4 (x:=.look d p) h
 | put p x=>exact ai4 (x:=.put d p x) h
theorem aa4(T:Txt K w mg t):cZ P w K mg base oY 4 t.iV t.xH ["_law_town","_law_deed"] aub:=by
 refine T.Nj.ok jx (λvs H Q E h=>?_) (λcdv A outer s H vs Q E hr h=>?_)
 ·obtain⟨A,n,m,S,se,a,x,tt,rfl,_⟩:=h;rfl
 ·obtain⟨A,n,m,S,se,a,x,tt,rfl,M,ha,I,B,ht,k⟩:=h
  have hu:=lG hr
  have sl:sizeLine=16777216:=by decide
  refine⟨_,(ak (bz (i:=2) jx.nd rfl (Or.inl rfl) (cH (Uz T) (hr.mono (by decide):bR 1 _) (by rfl) T.Yl T.Gk.kp T.Yk .nil bW (aa (pv 0) (aa (pv 1) ao))))
   (ak (b8 (aU BR (pv 2) aC (bu _)) (aB (bf (pv 2))) bD)
   (ak (bz (i:=3) jx.nd rfl (Or.inl rfl) (aO bC (pv 1) aA (λ_ _=>rfl)))
   (ak (b8 (aU cR (aO bC (pv 1) aA (λ_ _=>rfl)) aC (bu _)) (aB (bf (cH (adJ T) (hr.mono (by decide):bR 3 _) (by rfl) T.agX T.Sw.kp T.agW .nil bW (aa (pv 0) (aa (pv 3) ao))))) bD)
   (ak (b8 (aU cR (aO bC (pv 1) aA (λ_ _=>rfl)) aC (bu _)) (aB (bf (cH (Yv T) (hr.mono (by decide):bR 2 _) (by rfl) T.aaY T.Jd.kp T.aaX .nil bW (aa (pv 0) (aa (pv 3) ao))))) bD)
   (ak (bz (i:=4) jx.nd rfl (Or.inl rfl) (aO bF (aO bF (bH hu (pv 0) aC (λ_ _=>rfl)) (pv 3) (λ_ _=>rfl)) (aO bC (pv 1) aA (λ_ _=>rfl)) (λ_ _=>rfl)))
   (ak (b8 (aU cR (aO bC (pv 1) aA (λ_ _=>rfl)) aC (bu _)) (ak (b8 (aU cR (pv 4) aC (bu _)) (aB (bM (eN PySem.F.plainAttrs_list PySem.F.slot_list_append PySem.F.type_list_append cD (aO bF (bH hu (pv 0) aC (λ_ _=>rfl)) (pv 3) (λ_ _=>rfl)) (aa (cu (aa aC (aa (aO bC (pv 1) aA (λ_ _=>rfl)) (aa (aO bF (aO bF (bH hu (pv 0) aC (λ_ _=>rfl)) (pv 3) (λ_ _=>rfl)) (aO bC (pv 1) aA (λ_ _=>rfl)) (λ_ _=>rfl)) ao)))) ao)))) bD)
   (ak (zH aC (JK (aO bF (bH hu (pv 0) aC (λ_ _=>rfl)) (pv 3) (λ_ _=>rfl)) (aO bC (pv 1) aA (λ_ _=>rfl)) set_list))
   (aB (bf aC)))) bD)
   (ak (bz (i:=5) jx.nd rfl (Or.inl rfl) (bG aoS (cu (aa (aO bC (pv 1) aA (λ_ _=>rfl)) ao)) (afX asx (pv 1) (ajT aA) ajS)))
   (ak (b8 (lW (cH (SM T) (hr.mono (by decide):bR 1 _) (by rfl) T.Yj T.J5.kp T.Yi .nil bW (aa (pv 4) (aa (pv 5) ao)))) (ak (bz (i:=6) jx.nd rfl (Or.inl rfl) (cH (Gr T) (hr.mono (by decide):bR 1 _) (by rfl) T.Jc T.xN.kp T.Jb .nil bW (aa (pv 0) (aa (pv 3) (aa (pv 5) ao)))))
   (aB (bf (aO bF (bO (aa (pv 6) (aa aC ao))) (iw mK (by rfl) T.Nm PyProof.Rows.Boot.«int» (aa (kO cR (aO bC (pv 1) aA (λ_ _=>rfl)) aC (bu _)) ao)) (λ_ _=>rfl))))) bD)
   (ak (zH (pv 5) (JK (bH hu (pv 0) aC (λ_ _=>rfl)) (pv 3) set_list))
   (ak (bM (eN PySem.F.plainAttrs_list PySem.F.slot_list_append PySem.F.type_list_append cD (aO bF (bH hu (pv 0) aC (λ_ _=>rfl)) (pv 3) (λ_ _=>rfl)) (aa (cu (aa aC (aa (aO bC (pv 1) aA (λ_ _=>rfl)) (aa (aO bF (bO (aa aC (aa aC ao))) (iw mK (by rfl) T.Nm PyProof.Rows.Boot.«int» (aa (kO cR (aO bC (pv 1) aA (λ_ _=>rfl)) aC (bu _)) ao)) (λ_ _=>rfl)) ao)))) ao)))
   (aB (bf aC))))))))))))),?_⟩
  try dsimp only[dm,Cx.lu]
  show let Z1:L2.TS:=_;let Z2:L2.TS:=_;let Z3:L2.TS:=di _ Z2 bN;let Z4:L2.TS:=_;let Z5:L2.TS:=_;let Z6:L2.TS:=di _ Z5 bN;let Z7:L2.TS:=_;let Z8:L2.TS:=di _ Z7 bN;let Z9:L2.TS:=_;let Cp:L2.TS:=_;let Nu:L2.TS:=di _ Cp bN;let Nv:L2.TS:=_;let Sy:L2.TS:=_;let SJ:L2.TS:=aR Nu (aR Nv (Sy));let Z15:L2.TS:=di _ SJ bN;let Z16:L2.TS:=_;let Z17:L2.TS:=_;let Z18:L2.TS:=_;let Z19:L2.TS:=aR Z17 (Z18);let Z20:L2.TS:=di _ Z19 bN;let Z21:L2.TS:=_;let Z22:L2.TS:=_;let Z23:L2.TS:=_;let D0:Ends:=_;(aR Z1 (aR Z3 (aR Z4 (aR Z6 (aR Z8 (aR Z9 (aR Z15 (aR Z16 (aR Z20 (aR Z21 (aR Z22 (Z23)))))))))))) D0 _ _
  intro Z1 Z2 Z3 Z4 Z5 Z6 Z7 Z8 Z9 Cp Nu Nv Sy SJ Z15 Z16 Z17 Z18 Z19 Z20 Z21 Z22 Z23 D0
  refine⟨_,rfl,_,rfl,A,n,m,S,se,a,x,rfl,M,ha,λH1 s1=>?_⟩
  have M1:=M.same s1
  have f1:nj H H1 A n m:=nj.of_same s1
  have ha1:=s1 _ _ ha
  refine⟨_,rfl,rfl,_,rfl,?_⟩
  by_cases hw:qu n m S x=""
  ·refine aP (by rw[hw];rfl) ?_
   obtain⟨hdk,hx⟩:=ai4 hw
   obtain⟨d,hd⟩:∃d:Nat,x.dk=(d:Int):=⟨x.dk.toNat,by unfold inR at hdk;lia⟩
   have hdn:d<n:=by unfold inR at hdk;lia
   rw[hw]
   refine zt rfl (dF.of ha1) (cB.at1 x) ?_
   rw[hd]
   by_cases hwd:∃d' w,x=wd d' w
   ·obtain⟨d',w,rfl⟩:=hwd
    have e:d'=(d:Int):=by rw[aw6]at hd;exact hd
    subst e
    obtain⟨_,hy,hno⟩:=aw8 hw
    simp only[Int.toNat_natCast]at hno
    obtain⟨p,hp⟩:∃p:Nat,w.pg=(p:Int):=⟨w.pg.toNat,by unfold inR at hy;lia⟩
    have hpm:p<m:=by unfold inR at hy;lia
    obtain⟨est,ese⟩:=akv (S:=S) hdn hpm hp hno
    rw[est,ese,List.append_nil]at k
    have a0:Qu (wd d w).vs 0=some (.str w.tag):=by rw[<-aud d w];exact cB.at0 _
    have hrow:=B.row
    have axb:=B.up d
    refine zt rfl (dF.of ha1) a0 ⟨rfl,_,rfl,?_⟩
    refine aP (dj (aw7 w)) ?_
    refine zt rfl (dF.of ha1) a0 ⟨rfl,_,rfl,?_⟩
    refine aP (dj (apz w)) ?_
    refine Ui rfl (fG M1.bc j0) rfl (bZ.of M1.rights) (bQ hdn) (zt rfl (dF.of ha1) (anl _ _) ⟨A (.rt d),_,p,_,rfl,by rw[hp],bZ.of (M1.rt hdn),bQ hpm,?_⟩)
    refine zt rfl (dF.of ha1) a0 ⟨rfl,_,rfl,?_⟩
    refine aP (dj (apA w)) ?_
    refine zt rfl (dF.of ha1) a0 ⟨zz1,λz1 hz1=>?_⟩
    have s2:=az (o:=.tup [.str w.tag]) hz1
    have axc:upd H1 z1 (.tup [.str w.tag]) z1=some (.tup [.str w.tag]):=aj
    generalize upd H1 z1 (.tup [.str w.tag])=H2 at s2 axc
    refine⟨_,rfl,_,rfl,a,_,rfl,dF.of (s2 _ _ ha1),aw5 _ _,λz2 hz2=>?_⟩
    rw[auc]
    have s3:=az (o:=.tup w.vs.tail) hz2
    have axd:upd H2 z2 (.tup w.vs.tail) z2=some (.tup w.vs.tail):=aj
    generalize upd H2 z2 (.tup w.vs.tail)=H3 at s3 axd
    refine⟨z1,z2,[.str w.tag],w.vs.tail,rfl,rfl,dF.of (s3 _ _ axc),dF.of axd,by simp,aue d w,λz=>absurd z (aw4 w),λ_ z3 hz3=>?_⟩
    have ew:[V.str w.tag]++w.vs.tail=w.vs:=(aAg w).symm
    rw[ew]
    have s4:=az (o:=.tup w.vs) hz3
    have apB:upd H3 z3 (.tup w.vs) z3=some (.tup w.vs):=aj
    generalize upd H3 z3 (.tup w.vs)=H4 at s4 apB
    have sA:=(s2.trans s3).trans s4
    have M4:=M1.same sA
    have f4:=f1.trans (nj.of_same (A:=A) sA) (Mv.refl _ _ _ _)
    have ha4:=sA _ _ ha1
    refine⟨_,rfl,_,rfl,(S.ds d).rt p,z3,w,rfl,apB,_,rfl,?_⟩
    have ai3:(S.ds d).ok w↔w.need.k<=((S.ds d).rt p).k:=by unfold DS.ok;rw[hp]
    by_cases hok:w.need.k<=((S.ds d).rt p).k
    ·refine bI (decide_eq_true hok) ?_
     rw[if_pos (ai3.mpr hok)]at k
     refine⟨_,rfl,_,rfl,_,rfl,A,n,m,S,se,z3,w,d,p,rfl,M4,hdn,apB,hp,hpm,(by lia),λH5 M5 f5=>?_⟩
     have ha5:=(f5.tups M4) a _ ha4
     refine⟨_,rfl,vC,λz4 hz4=>?_⟩
     have s6:=az (o:=.lst [.int ((S.ds d).num w),.str "done"]) hz4
     have ewr:(S.ds d).il w p=((S.ds d).done w,[(w.m9,w.pg,(S.ds d).num w)],[]):=by unfold DS.il;rw[if_pos (ai3.mpr hok)]
     have M6:aY (upd H5 z4 (.lst [.int ((S.ds d).num w),.str "done"])) A n m (S.jY d ((S.ds d).il w p)) se:=by
      have:=M5.same s6
      rw[ewr]
      have e:S.jY d ((S.ds d).done w,[(w.m9,w.pg,(S.ds d).num w)],[])={S with ds:=aG S.ds d ((S.ds d).done w),row:=c7 S.row d [(w.m9,w.pg,(S.ds d).num w)]}:=by
       simp only[TS.jY,List.append_nil,eE]
      rw[e];exact this
     have f6:=(f4.trans f5 (Mv.refl _ _ _ _)).trans (nj.of_same (A:=A) s6) (Mv.refl _ _ _ _)
     refine zt rfl (dF.of (s6 _ _ ha5)) a0 ⟨rfl,.inr ⟨_,rfl,z4,_,_,_,rfl,rfl,bZ.of aj,awQ,?_⟩⟩
     refine k _ A _ M6 f6 (Mv.refl _ _ _ _) ?_
     cases w with
     | look y =>
       have hyp:y=(p:Int):=hp
       have e:decide (V.str (W.look y).tag=V.str "put")=false:=dj (show("look":Str)≠"put" by decide +kernel)
       rw[e]
       simp only[acz,Rep]
       rfl
     | put y q =>
       have e:decide (V.str (W.put y q).tag=V.str "put")=true:=fK
       rw[e]
       simp only[acz,Rep]
       rfl
    ·refine aP (decide_eq_false hok) ?_
     rw[if_neg λz=>hok (ai3.mp z)]at k
     have ewr:(S.ds d).il w p=({S.ds d with ws:=some w},[],[.ask p w.need]):=by unfold DS.il;rw[if_neg λz=>hok (ai3.mp z)]
     obtain⟨wv,w1,w2,_⟩:=M4.dY
     refine⟨_,rfl,zd rfl (fG M4.bc pU) ⟨_,rfl,A .dY,_,_,d,rfl,rfl,w1,by rw[w2];exact Az hdn,?_⟩⟩
     obtain⟨M5,f5⟩:=M4.amR hdn (v:=.ref z3) (o:=some w) w1 ⟨z3,rfl,apB⟩
     have ha5:=(f5.tups M4) a _ ha4
     have f45:=f4.trans f5 (Mv.refl _ _ _ _)
     generalize upd H4 (A .dY) (.lst (wv.set d (.ref z3)))=H5 at M5 f5 ha5 f45
     obtain⟨uv,u1,u2⟩:=M5.up hdn
     have ani:uv.length<sizeLine:=by rw[u2.length,List.length_map];show(S.up d).length<_;lia
     refine Ui rfl (fG M5.bc Mm) rfl (bZ.of M5.ups) (bQ hdn) ⟨.inl ⟨rfl,_,bZ.of u1⟩,zt rfl (dF.of ha5) (anl _ _) ⟨vC,λz4 hz4=>?_⟩⟩
     have s6:=az (o:=.lst [.str "read",.str "write"]) hz4
     refine zt rfl (dF.of (s6 _ _ ha5)) a0 ⟨rfl,.inr ⟨_,rfl,z4,_,_,.str w.need.s,rfl,rfl,bZ.of aj,?_,zz3,λc hc=>?_⟩⟩
     ·cases w with
      | look y =>
        have e:decide (V.str (W.look y).tag=V.str "put")=false:=dj (show("look":Str)≠"put" by decide +kernel)
        rw[e];rfl
      | put y q =>
        have e:decide (V.str (W.put y q).tag=V.str "put")=true:=fK
        rw[e];rfl
     ·have s7:=az (o:=.tup [.str "ask",.int w.pg,.str w.need.s]) hc
      rw[hp]at s7 ⊢
      have sB:=s6.trans s7
      refine⟨A (.up d),uv,_,rfl,rfl,sB _ _ u1,ani,?_⟩
      have rp:aH (upd (upd H5 z4 (.lst [.str "read",.str "write"])) c (.tup [.str "ask",.int p,.str w.need.s])) (uv++[.ref c]) ((S.up d++[UL.ask p w.need]).map UL.d):=by
       rw[List.map_append]
       exact aH.snoc (u2.aZ (bh sB) (bY UL.flat _)) (Yu (l:=.ask p w.need) aj)
      obtain⟨M7,f7⟩:=(M5.same sB).ago hdn rp
      refine k (.str "waits") A _ ?_ ((f45.trans (nj.of_same (A:=A) sB) (Mv.refl _ _ _ _)).trans f7 (Mv.refl _ _ _ _)) (Mv.refl _ _ _ _) (by simp only[Rep])
      have e:S.jY d ((S.ds d).il w p)={S with ds:=aG S.ds d {S.ds d with ws:=some w},up:=aG S.up d (S.up d++[UL.ask p w.need])}:=by
       rw[ewr];simp[TS.jY,c7]
      rw[e]
      exact M7
   cases x with
   | up d' =>
     have e:d'=(d:Int):=hd
     subst e
     have anq:inR (d:Int) n:=hdk
     simp only[TS.step,TS.lK,if_pos anq,Int.toNat_natCast,TS.upD]at k hx
     obtain⟨l,r,hup⟩:=List.exists_cons_of_ne_nil hx
     rw[hup]at k
     obtain⟨I',hlp,hgd,_⟩:=I.take hdn hup
     have hmu:=B.mu l.pg
     refine zt rfl (dF.of ha1) rfl ⟨rfl,_,rfl,?_⟩
     refine bI fK ?_
     refine⟨_,rfl,_,rfl,A,n,m,S,se,d,l,r,rfl,M1,hdn,hup,hlp,I.pn _ hlp,I.am _ hlp,hgd,(by lia),B.room ht (by lia),λb A' H' M' f' mv' hb'=>?_⟩
     exact k (.ref b) A' H' M' (f1.trans f' (Mv.refl _ _ _ _)) (λy hy=>(mv' y hy).imp id λe=>⟨e.1,f1.lv _ e.2⟩) (Yu hb')
   | down d' =>
     have e:d'=(d:Int):=hd
     subst e
     have anq:inR (d:Int) n:=hdk
     simp only[TS.step,TS.lK,if_pos anq,Int.toNat_natCast,TS.Xj]at k hx
     obtain⟨l,r,hdn'⟩:=List.exists_cons_of_ne_nil hx
     rw[hdn']at k
     obtain⟨p,hp,hlp,hni⟩:=I.dn d hdn l (by rw[hdn'];simp)
     refine zt rfl (dF.of ha1) rfl ⟨rfl,_,rfl,?_⟩
     refine aP (dj (show("down":Str)≠"up" by decide +kernel)) ?_
     refine zt rfl (dF.of ha1) rfl ⟨rfl,_,rfl,?_⟩
     refine bI fK ?_
     have hrow:=B.row
     have axb:=B.up d
     refine⟨_,rfl,_,rfl,A,n,m,S,se,l,r,d,p,rfl,M1,hdn,hdn',hlp,hp,hni,I.ws d hdn,(by lia),(by lia),λb H' M' f' hb'=>?_⟩
     exact k (.ref b) A H' (by rw[List.append_nil];exact M') (f1.trans f' (Mv.refl _ _ _ _)) (Mv.refl _ _ _ _) (aku hb')
   | rest d' y =>
     have e:d'=(d:Int):=hd
     subst e
     have anq:inR (d:Int) n:=hdk
     obtain⟨hy,hno⟩:=hx
     obtain⟨p,hp⟩:∃p:Nat,y=(p:Int):=⟨y.toNat,by unfold inR at hy;lia⟩
     subst hp
     have hpm:p<m:=by unfold inR at hy;lia
     simp only[TS.step,TS.lK,if_pos anq,if_pos hy,Int.toNat_natCast]at k hno
     rw[if_neg hno]at k
     refine zt rfl (dF.of ha1) rfl ⟨rfl,_,rfl,?_⟩
     refine aP (dj (show("rest":Str)≠"up" by decide +kernel)) ?_
     refine zt rfl (dF.of ha1) rfl ⟨rfl,_,rfl,?_⟩
     refine aP (dj (show("rest":Str)≠"down" by decide +kernel)) ?_
     refine Ui rfl (fG M1.bc j0) rfl (bZ.of M1.rights) (bQ hdn) (zt rfl (dF.of ha1) rfl ⟨A (.rt d),_,p,_,rfl,rfl,bZ.of (M1.rt hdn),bQ hpm,?_⟩)
     refine zt rfl (dF.of ha1) rfl ⟨rfl,_,rfl,?_⟩
     refine bI fK ?_
     have axb:=B.up d
     try dsimp only[bN]
     refine gf (λσ' H'=>σ'=[some (.ref (A .bc)),some (.ref a),some (.str ""),some (.int d),some (.str ((S.ds d).rt p).s),none,none]/\aY H' A n m {S with up:=aG S.up d (S.up d++(if(S.ds d).rt p=.wr then [UL.gave p ((S.ds d).nm p)]else []))} se/\nj H H' A n m/\H' a=some (.tup (cB.rest d p).vs)) (λN hN=>?_) ?_
     ·refine⟨_,rfl,rfl,_,rfl,?_⟩
      by_cases ew:(S.ds d).rt p=.wr
      ·refine bI (by rw[ew];exact fK) ?_
       rw[if_pos ew]at hN
       obtain⟨uv,u1,u2⟩:=M1.up hdn
       have ani:uv.length<sizeLine:=by rw[u2.length,List.length_map];lia
       refine Ui rfl (fG M1.bc Mm) rfl (bZ.of M1.ups) (bQ hdn) ⟨.inl ⟨rfl,_,bZ.of u1⟩,zt rfl (dF.of ha1) rfl (Ui rfl (fG M1.bc um) rfl (bZ.of M1.copies) (bQ hdn) (zt rfl (dF.of ha1) rfl ⟨A (.cp d),_,p,_,rfl,rfl,bZ.of (M1.cp hdn),bQ hpm,zz3,λc hc=>?_⟩))⟩
       have s3:=az (o:=.tup [.str "gave",.int p,.int ((S.ds d).nm p)]) hc
       refine⟨A (.up d),uv,_,rfl,rfl,s3 _ _ u1,ani,?_⟩
       have rp:aH (upd H1 c (.tup [.str "gave",.int p,.int ((S.ds d).nm p)])) (uv++[.ref c]) ((S.up d++[UL.gave p ((S.ds d).nm p)]).map UL.d):=by
        rw[List.map_append]
        exact aH.snoc (u2.aZ (bh s3) (bY UL.flat _)) (Yu (l:=.gave p ((S.ds d).nm p)) aj)
       obtain⟨M4,f4⟩:=(M1.same s3).ago hdn rp
       exact hN _ _ ⟨rfl,M4,(f1.trans (nj.of_same (A:=A) s3) (Mv.refl _ _ _ _)).trans f4 (Mv.refl _ _ _ _),(f4.tups (M1.same s3)) a _ (s3 _ _ ha1)⟩
      ·refine aP (oZ (x:="write") (q:=.wr) rfl ew) ?_
       rw[if_neg ew]at hN
       refine hN _ _ ⟨rfl,?_,f1,ha1⟩
       have:({S with up:=aG S.up d (S.up d++[])}:TS)=S:=by rw[List.append_nil,eE]
       rw[this];exact M1
     ·rintro σ' H2 ⟨rfl,M2,f2,ha2⟩
      refine Ui rfl (fG M2.bc j0) rfl (bZ.of M2.rights) (bQ hdn) (zt rfl (dF.of ha2) rfl ⟨A (.rt d),_,_,p,rfl,rfl,M2.rt hdn,Az (by simpa using hpm),?_⟩)
      have e1:((List.range m).map λq:Nat=>V.str ((S.ds d).rt q).s).set p (.str "none")=(List.range m).map λq:Nat=>V.str (((S.ds d).hold p .no ((S.ds d).nm p)).rt q).s:=by
       refine yX hpm ?_ λq hq=>?_
       ·show V.str (if(p:Int)=p then Rt.no else _).s=_;rw[if_pos rfl];rfl
       ·show V.str (if(q:Int)=p then Rt.no else _).s=_;rw[if_neg (by lia)]
      dsimp only
      rw[e1]
      have enm:((S.ds d).hold p .no ((S.ds d).nm p)).nm=(S.ds d).nm:=by funext q;show(if q=(p:Int)then(S.ds d).nm p else(S.ds d).nm q)=_;split<;>simp_all
      obtain⟨M3,f3⟩:=M2.atn hdn (D':=(S.ds d).hold p .no ((S.ds d).nm p)) enm rfl
      refine k (.str "done") A _ ?_ (f2.trans f3 (Mv.refl _ _ _ _)) (Mv.refl _ _ _ _) (by simp only[Rep])
      rw[List.append_nil]
      have:S.lB d p={S with ds:=aG S.ds d ((S.ds d).hold p .no ((S.ds d).nm p)),up:=aG S.up d (S.up d++(if(S.ds d).rt p=.wr then [UL.gave p ((S.ds d).nm p)]else []))}:=by
       simp[TS.lB,TS.jY,c7]
      rw[this]
      exact M3
   | look d' y=>exact absurd ⟨_,.look _,rfl⟩ hwd
   | put d' y q=>exact absurd ⟨_,.put _ _,rfl⟩ hwd
  ·refine bI (adK hw) ?_
   obtain⟨e1,e2⟩:=ag7 hw
   refine⟨_,rfl,k _ A H1 ?_ f1 (Mv.refl _ _ _ _) ?_⟩
   ·rw[e1,e2,List.append_nil];exact M1
   ·rw[e1];simp only[Rep]
def apC:Sp:=λvs H Q _=>∃k,vs=[.int k]/\Q (.bl true) H
def auf:Sp:=λvs H Q _=>∃v u d,vs=[v,u]/\Rep H v d/\Rep H u d/\d.size<=1000000/\∀H',bJ H H'->Q (.bl true) H'
theorem ai5(T:Txt K w mg t):cZ P w K mg base oY 1 t.mW t.JV ["_law_found"] apC:=by
 refine T.acq.ok aiX (λvs H Q E h=>?_) (λcdv A outer s H vs Q E hr h=>?_)
 ·obtain⟨k,rfl,_⟩:=h;rfl
 ·obtain⟨k,rfl,q⟩:=h
  refine⟨_,(aB (bf (al6 (dI lH (by rfl) T.fU PyProof.Rows.Boot.«isinstance» (aa (pv 0) (aa (uc (by rfl) T.Nm PyProof.Rows.Boot.«int») ao))) (acS (asi (dI lH (by rfl) T.fU PyProof.Rows.Boot.«isinstance» (aa (pv 0) (aa (uc (by rfl) T.atN PyProof.Rows.Boot.«bool») ao)))))))),?_⟩
  try dsimp only[dm,Cx.lu]
  refine⟨_,rfl,_,_,.type "int",true,rfl,.int _,.inl ⟨_,rfl,asS⟩,_,rfl,pQ ?_⟩
  exact⟨_,rfl,_,_,.type "int",false,rfl,.int _,.inl ⟨_,rfl,asT⟩,_,rfl,q⟩
theorem aln{H:Hp}{v:V}:∀{d:D},Rep H v d->(d=.n/\v=.non)\/(∃k,d=.i k/\v=.int k)\/(∃x,d=.s x/\v=.str x)\/(∃ds a xs,d=.t ds/\v=.ref a/\H a=some (.tup xs)/\aH H xs ds)\/(∃ds a xs,d=.l ds/\v=.ref a/\H a=some (.lst xs)/\aH H xs ds)
 | .n,r=>by simp only[Rep]at r;exact .inl ⟨rfl,r⟩
 | .i k,r=>by simp only[Rep]at r;exact .inr (.inl ⟨k,rfl,r⟩)
 | .s x,r=>by simp only[Rep]at r;exact .inr (.inr (.inl ⟨x,rfl,r⟩))
 | .t ds,r=>by simp only[Rep]at r;obtain⟨a,xs,h1,h2,h3⟩:=r;exact .inr (.inr (.inr (.inl ⟨ds,a,xs,rfl,h1,h2,h3⟩)))
 | .l ds,r=>by simp only[Rep]at r;obtain⟨a,xs,h1,h2,h3⟩:=r;exact .inr (.inr (.inr (.inr ⟨ds,a,xs,rfl,h1,h2,h3⟩)))
theorem ag8{α:Type}(xs:List α)(x:α):(xs++[x])[(xs++[x]).length - 1]? = some x:=by simp
theorem ag9{α:Type}(xs:List α)(x:α):(xs++[x]).dropLast=xs:=by simp
set_option maxHeartbeats 8000000 in
theorem Q3(T:Txt K w mg t):cZ P w K mg base oY 2 t.qK t.QJ ["_law_found","_law_due"] auf:=by
 refine T.Ng.ok yz (λvs H Q E h=>?_) (λcdv A outer s H vs Q E hr h=>?_)
 ·obtain⟨v,u,d,rfl,_⟩:=h;rfl
 ·obtain⟨v,u,d,rfl,rv,ru,hsz,k⟩:=h
  refine⟨_,(ak (bz (i:=2) yz.nd rfl (Or.inl rfl) (bO (aa (pv 0) ao)))
   (ak (bz (i:=3) yz.nd rfl (Or.inl rfl) (bO (aa (pv 1) ao)))
   (ak (WX PassesOwn.never (aU (agc hr.aip) (pv 3) (bO ao) (bu _)) (ak (bz (i:=4) yz.nd rfl (Or.inl rfl) (ami PySem.F.plainAttrs_list PySem.F.slot_list_pop PySem.F.type_list_pop amk (pv 2)))
   (ak (bz (i:=5) yz.nd rfl (Or.inl rfl) (ami PySem.F.plainAttrs_list PySem.F.slot_list_pop PySem.F.type_list_pop amk (pv 3)))
   (aB (b8 (lW (dI lH (by rfl) T.fU PyProof.Rows.Boot.«isinstance» (aa (pv 5) (aa (cu (aa (uc (by rfl) T.Gn PyProof.Rows.Boot.«list») (aa (uc (by rfl) T.adC PyProof.Rows.Boot.«tuple») ao))) ao)))) (ak (b8 (aU BR (dI lH (by rfl) T.fU PyProof.Rows.Boot.«isinstance» (aa (pv 4) (aa (uc (by rfl) T.Gn PyProof.Rows.Boot.«list») ao))) (dI lH (by rfl) T.fU PyProof.Rows.Boot.«isinstance» (aa (pv 5) (aa (uc (by rfl) T.Gn PyProof.Rows.Boot.«list») ao))) (bu _)) (aB (bf Ip)) bD)
   (ak (b8 (PW.pt (vH (aU BR (dI lH (by rfl) T.fU PyProof.Rows.Boot.«isinstance» (aa (pv 4) (aa (uc (by rfl) T.adC PyProof.Rows.Boot.«tuple») ao))) (dI lH (by rfl) T.fU PyProof.Rows.Boot.«isinstance» (aa (pv 5) (aa (uc (by rfl) T.adC PyProof.Rows.Boot.«tuple») ao))) (bu _)) (pP (aU BR (dI dJ (by rfl) T.yU PySem.boot_len (aa (pv 4) ao)) (dI dJ (by rfl) T.yU PySem.boot_len (aa (pv 5) ao)) (bu _))))) (aB (bf Ip)) bD)
   (ak (bM (eN PySem.F.plainAttrs_list PySem.F.slot_list_extend PySem.F.type_list_extend lX (pv 2) (aa (pv 4) ao)))
   (aB (bM (eN PySem.F.plainAttrs_list PySem.F.slot_list_extend PySem.F.type_list_extend lX (pv 3) (aa (pv 5) ao))))))) (aB (b8 (wX (aii (pv 5))) (aB (b8 (wX (vG (pv 4))) (aB (bf Ip)) bD)) (aB (b8 (lW (dI lH (by rfl) T.fU PyProof.Rows.Boot.«isinstance» (aa (pv 5) (aa (uc (by rfl) T.arQ PyProof.Rows.Boot.«str») ao)))) (aB (b8 (PW.pt (vH (wY (lW (dI lH (by rfl) T.fU PyProof.Rows.Boot.«isinstance» (aa (pv 4) (aa (uc (by rfl) T.arQ PyProof.Rows.Boot.«str») ao))))) (pP (aU BR (pv 4) (pv 5) (bu _))))) (aB (bf Ip)) bD)) (aB (b8 (PW.pt (vH (wY (lW (cH (ai5 T) (hr.mono (by decide):bR 1 _) (by rfl) T.ale T.acq.kp T.ald .nil bW (aa (pv 4) ao)))) (pP (aU BR (pv 4) (pv 5) (bu _))))) (aB (bf Ip)) bD)))))))))))
   (aB (bf Ip))))),?_⟩
  try dsimp only[dm,Cx.lu]
  show let Z1:L2.TS:=_;let Z2:L2.TS:=_;let Z3:L2.TS:=_;let Z4:L2.TS:=_;let Z5:L2.TS:=_;let Z6:L2.TS:=di _ Z5 bN;let Z7:L2.TS:=_;let Z8:L2.TS:=di _ Z7 bN;let Z9:L2.TS:=_;let Cp:L2.TS:=_;let Nu:L2.TS:=aR Z6 (aR Z8 (aR Z9 (Cp)));let Nv:L2.TS:=_;let Sy:L2.TS:=di _ Nv bN;let SJ:L2.TS:=_;let Z15:L2.TS:=di _ SJ bN;let Z16:L2.TS:=_;let Z17:L2.TS:=di _ Z16 bN;let Z18:L2.TS:=di _ Z15 Z17;let Z19:L2.TS:=di _ Sy Z18;let Z20:L2.TS:=di _ Nu Z19;let Z21:L2.TS:=aR Z3 (aR Z4 (Z20));let Z22:L2.TS:=acT _ Z21;let Z23:L2.TS:=_;let D0:Ends:=_;(aR Z1 (aR Z2 (aR Z22 (Z23)))) D0 _ _
  intro Z1 Z2 Z3 Z4 Z5 Z6 Z7 Z8 Z9 Cp Nu Nv Sy SJ Z15 Z16 Z17 Z18 Z19 Z20 Z21 Z22 Z23 D0
  refine⟨_,rfl,zz1,λL hL=>⟨_,rfl,zz1,λR hR=>?_⟩⟩
  have nLR:L≠R:=λe=>by subst e;rw[aj]at hR;cases hR
  have hR0:H R=none:=by rw[aq nLR.symm]at hR;exact hR
  refine⟨λm σ H2=>∃ds xs ys o1 o2,σ=[some v,some u,some (.ref L),some (.ref R),o1,o2]/\bJ H H2/\H2 L=some (.lst xs)/\H2 R=some (.lst ys)/\aH H xs ds/\aH H ys ds/\m=D.sizes ds/\D.sizes ds<=1000000,
   ⟨_,[d],[v],[u],none,none,rfl,(az hL).trans (az hR),(by rw[aq nLR,aj]),aj,by simp only[aH];exact⟨v,[],rfl,rv,rfl⟩,by simp only[aH];exact⟨u,[],rfl,ru,rfl⟩,rfl,by simp only[D.sizes];lia⟩,?_⟩
  rintro m σ H2 ⟨ds,xs,ys,o1,o2,rfl,s2,gL,gR,rx,ry,rfl,hb⟩
  refine⟨_,rfl,Dg,λe he=>⟨R,e,ys,rfl,rfl,bZ.of (az he _ _ gR),bZ.of aj,_,rfl,?_⟩⟩
  have s3:bJ H (upd H2 e (.lst [])):=s2.trans (az he)
  have gL3:upd H2 e (.lst []) L=some (.lst xs):=az he _ _ gL
  have gR3:upd H2 e (.lst []) R=some (.lst ys):=az he _ _ gR
  generalize upd H2 e (.lst [])=H3 at s3 gL3 gR3
  clear gL gR s2 he
  rcases List.eq_nil_or_concat ds with rfl | ⟨ds0,dd,rfl⟩
  ·simp only[aH]at ry
   subst ry
   refine aP rfl ?_
   exact k H3 s3
  ·rw[List.concat_eq_append]at rx ry hb ⊢
   obtain⟨xs0,x,rfl,rx0,rxl⟩:=aH.last rx
   obtain⟨ys0,y,rfl,ry0,ryl⟩:=aH.last ry
   refine bI (by simp) ?_
   refine⟨λσ' H'=>∃m',m'<D.sizes (ds0++[dd])/\∃ds xs ys o1 o2,σ'=[some v,some u,some (.ref L),some (.ref R),o1,o2]/\bJ H H'/\H' L=some (.lst xs)/\H' R=some (.lst ys)/\aH H xs ds/\aH H ys ds/\m'=D.sizes ds/\D.sizes ds<=1000000,λσ' H' z=>z,?_⟩
   refine⟨_,rfl,.inl ⟨rfl,_,bZ.of gL3⟩,L,_,x,rfl,rfl,gL3,ag8 _ _,?_⟩
   rw[ag9]
   have gR4:upd H3 L (.lst xs0) R=some (.lst (ys0++[y])):=by rw[aq nLR.symm];exact gR3
   refine⟨_,rfl,.inl ⟨rfl,_,bZ.of gR4⟩,R,_,y,rfl,rfl,gR4,ag8 _ _,?_⟩
   rw[ag9]
   have s5:bJ H (upd (upd H3 L (.lst xs0)) R (.lst ys0)):=λb o hbo=>by
    rw[aq (aF hbo hR0),aq (aF hbo hL)]
    exact s3 b o hbo
   have gL5:upd (upd H3 L (.lst xs0)) R (.lst ys0) L=some (.lst xs0):=by rw[aq nLR,aj]
   have gR5:upd (upd H3 L (.lst xs0)) R (.lst ys0) R=some (.lst ys0):=aj
   generalize upd (upd H3 L (.lst xs0)) R (.lst ys0)=H5 at s5 gL5 gR5
   have aDq:D.sizes (ds0++[dd])=D.sizes ds0+dd.size:=by rw[D.kW];simp[D.sizes]
   have go:∀(H6:Hp),bJ H5 H6->∃m',m'<D.sizes (ds0++[dd])/\∃ds xs ys o1 o2,[some v,some u,some (.ref L),some (.ref R),some x,some y]=[some v,some u,some (.ref L),some (.ref R),o1,o2]/\bJ H H6/\H6 L=some (.lst xs)/\H6 R=some (.lst ys)/\aH H xs ds/\aH H ys ds/\m'=D.sizes ds/\D.sizes ds<=1000000:=λH6 s6=>by
    have:=dd.size_pos
    exact⟨_,by lia,ds0,xs0,ys0,_,_,rfl,s5.trans s6,s6 _ _ gL5,s6 _ _ gR5,rx0,ry0,rfl,by lia⟩
   refine⟨_,rfl,vC,λtt ht=>?_⟩
   have s6:bJ H5 (upd H5 tt (.tup [.ty "list",.ty "tuple"])):=az ht
   have h6:upd H5 tt (.tup [.ty "list",.ty "tuple"]) tt=some (.tup [.ty "list",.ty "tuple"]):=aj
   generalize upd H5 tt (.tup [.ty "list",.ty "tuple"])=H6 at s6 h6
   have sH6:=s5.trans s6
   have grow:∀(es:List D) (zs ws:List V),aH H zs es->aH H ws es->dd.size=1+D.sizes es->∀H7,bJ H6 H7->∃m',m'<D.sizes (ds0++[dd])/\∃ds xs ys o1 o2,[some v,some u,some (.ref L),some (.ref R),some x,some y]=[some v,some u,some (.ref L),some (.ref R),o1,o2]/\bJ H (upd (upd H7 L (.lst (xs0++zs))) R (.lst (ys0++ws)))/\(upd (upd H7 L (.lst (xs0++zs))) R (.lst (ys0++ws))) L=some (.lst xs)/\(upd (upd H7 L (.lst (xs0++zs))) R (.lst (ys0++ws))) R=some (.lst ys)/\aH H xs ds/\aH H ys ds/\m'=D.sizes ds/\D.sizes ds<=1000000:=λes zs ws rz rw' he H7 s7=>by
    refine⟨_,?_,ds0++es,xs0++zs,ys0++ws,_,_,rfl,λb o hbo=>?_,by rw[aq nLR,aj],aj,rx0.append rz,ry0.append rw',rfl,?_⟩
    ·rw[D.kW];lia
    ·rw[aq (aF hbo hR0),aq (aF hbo hL)]
     exact s7 b o (sH6 b o hbo)
    ·rw[D.kW];lia
   rcases aln rxl with ⟨rfl,rfl⟩ | ⟨k1,rfl,rfl⟩ | ⟨x1,rfl,rfl⟩ | ⟨es,a,zs,rfl,rfl,ha,rz⟩ | ⟨es,a,zs,rfl,rfl,ha,rz⟩
   ·simp only[Rep]at ryl
    subst ryl
    refine⟨_,_,_,false,rfl,.non,.inr ⟨tt,_,[.type "list",.type "tuple"],rfl,h6,rfl,asY⟩,_,rfl,w6 ?_⟩
    refine⟨_,rfl,_,rfl,bI rfl ?_⟩
    refine⟨_,rfl,_,rfl,aP rfl ?_⟩
    exact go H6 s6
   ·simp only[Rep]at ryl
    subst ryl
    refine⟨_,_,_,false,rfl,.int _,.inr ⟨tt,_,[.type "list",.type "tuple"],rfl,h6,rfl,asV⟩,_,rfl,w6 ?_⟩
    refine⟨_,rfl,_,rfl,aP rfl ?_⟩
    refine⟨_,rfl,_,_,_,false,rfl,.int _,.inl ⟨_,rfl,kit_is⟩,_,rfl,w6 ?_⟩
    refine⟨_,rfl,k1,rfl,_,rfl,w6 ?_⟩
    refine⟨_,rfl,_,rfl,rfl,_,rfl,aP (by simp) ?_⟩
    exact go H6 s6
   ·simp only[Rep]at ryl
    subst ryl
    refine⟨_,_,_,false,rfl,.str _,.inr ⟨tt,_,[.type "list",.type "tuple"],rfl,h6,rfl,asW⟩,_,rfl,w6 ?_⟩
    refine⟨_,rfl,_,rfl,aP rfl ?_⟩
    refine⟨_,rfl,_,_,_,true,rfl,.str _,.inl ⟨_,rfl,amB⟩,_,rfl,pQ ?_⟩
    refine⟨_,rfl,_,_,_,true,rfl,.str _,.inl ⟨_,rfl,amB⟩,_,rfl,w6 ?_⟩
    refine⟨_,rfl,_,rfl,rfl,_,rfl,aP (by simp) ?_⟩
    exact go H6 s6
   ·simp only[Rep]at ryl
    obtain⟨a2,zs2,rfl,ha2,rz2⟩:=ryl
    have ha6:=sH6 _ _ ha
    have Yx:=sH6 _ _ ha2
    have hl1:=rz.length
    have hl2:=rz2.length
    refine⟨_,_,_,true,rfl,.tup Yx,.inr ⟨tt,_,[.type "list",.type "tuple"],rfl,h6,rfl,kit_at⟩,_,rfl,pQ ?_⟩
    refine⟨_,rfl,_,_,_,false,rfl,.tup ha6,.inl ⟨_,rfl,amC⟩,_,rfl,_,_,_,false,rfl,.tup Yx,.inl ⟨_,rfl,amC⟩,rfl,_,rfl,aP rfl ?_⟩
    refine⟨_,rfl,_,_,_,true,rfl,.tup ha6,.inl ⟨_,rfl,amE⟩,_,rfl,_,_,_,true,rfl,.tup Yx,.inl ⟨_,rfl,amE⟩,rfl,_,rfl,aP rfl ?_⟩
    refine⟨_,rfl,a,zs,rfl,.inr (dF.of ha6),_,rfl,a2,zs2,rfl,.inr (dF.of Yx),rfl,_,rfl,aP (by rw[hl1,hl2];simp) ?_⟩
    have b1:xs0.length+zs.length<=sizeLine:=by
     have q1:=rx0.length
     have q2:=D.d9 ds0
     have q3:=D.d9 es
     have q4:(D.t es).size=1+D.sizes es:=by simp[D.size]
     have:(1000000:Nat)<=sizeLine:=by decide
     lia
    have b2:ys0.length+zs2.length<=sizeLine:=by
     have q1:=ry0.length
     have q2:=D.d9 ds0
     have q3:=D.d9 es
     have q4:(D.t es).size=1+D.sizes es:=by simp[D.size]
     have:(1000000:Nat)<=sizeLine:=by decide
     lia
    have aui:a2≠L:=aF ha2 hL
    have gL6:=s6 _ _ gL5
    have gR6:upd H6 L (.lst (xs0++zs)) R=some (.lst ys0):=by rw[aq nLR.symm];exact s6 _ _ gR5
    refine⟨_,rfl,.inl ⟨rfl,_,bZ.of gL6⟩,_,rfl,L,a,xs0,zs,rfl,rfl,gL6,(.inr (dF.of ha6)),b1,?_⟩
    refine⟨_,rfl,.inl ⟨rfl,_,bZ.of gR6⟩,_,rfl,R,a2,ys0,zs2,rfl,rfl,gR6,(.inr (dF.of (by rw[aq aui];exact Yx))),b2,?_⟩
    exact grow es zs zs2 rz rz2 (by simp[D.size]) H6 (bJ.refl _)
   ·simp only[Rep]at ryl
    obtain⟨a2,zs2,rfl,ha2,rz2⟩:=ryl
    have ha6:=sH6 _ _ ha
    have Yx:=sH6 _ _ ha2
    have hl1:=rz.length
    have hl2:=rz2.length
    refine⟨_,_,_,true,rfl,.lst Yx,.inr ⟨tt,_,[.type "list",.type "tuple"],rfl,h6,rfl,asU⟩,_,rfl,pQ ?_⟩
    refine⟨_,rfl,_,_,_,true,rfl,.lst ha6,.inl ⟨_,rfl,aiG⟩,_,rfl,_,_,_,true,rfl,.lst Yx,.inl ⟨_,rfl,aiG⟩,rfl,_,rfl,aP rfl ?_⟩
    refine⟨_,rfl,_,_,_,false,rfl,.lst ha6,.inl ⟨_,rfl,amD⟩,_,rfl,_,_,_,false,rfl,.lst Yx,.inl ⟨_,rfl,amD⟩,rfl,_,rfl,aP rfl ?_⟩
    refine⟨_,rfl,a,zs,rfl,.inl (bZ.of ha6),_,rfl,a2,zs2,rfl,.inl (bZ.of Yx),rfl,_,rfl,aP (by rw[hl1,hl2];simp) ?_⟩
    have b1:xs0.length+zs.length<=sizeLine:=by
     have q1:=rx0.length
     have q2:=D.d9 ds0
     have q3:=D.d9 es
     have q4:(D.l es).size=1+D.sizes es:=by simp[D.size]
     have:(1000000:Nat)<=sizeLine:=by decide
     lia
    have b2:ys0.length+zs2.length<=sizeLine:=by
     have q1:=ry0.length
     have q2:=D.d9 ds0
     have q3:=D.d9 es
     have q4:(D.l es).size=1+D.sizes es:=by simp[D.size]
     have:(1000000:Nat)<=sizeLine:=by decide
     lia
    have aui:a2≠L:=aF ha2 hL
    have gL6:=s6 _ _ gL5
    have gR6:upd H6 L (.lst (xs0++zs)) R=some (.lst ys0):=by rw[aq nLR.symm];exact s6 _ _ gR5
    refine⟨_,rfl,.inl ⟨rfl,_,bZ.of gL6⟩,_,rfl,L,a,xs0,zs,rfl,rfl,gL6,(.inl (bZ.of ha6)),b1,?_⟩
    refine⟨_,rfl,.inl ⟨rfl,_,bZ.of gR6⟩,_,rfl,R,a2,ys0,zs2,rfl,rfl,gR6,(.inl (bZ.of (by rw[aq aui];exact Yx))),b2,?_⟩
    exact grow es zs zs2 rz rz2 (by simp[D.size]) H6 (bJ.refl _)
def nm0(ns:List Int)(i:Int):Int:=(ns[i.toNat]?).getD 0
def S0(ns:List Int):TS:=⟨λ_=>⟨λ_=>.no,nm0 ns,none⟩,pg0 ns,λ_=>[],λ_=>[],[]⟩
theorem apF(ns:List Int):ns.map V.int=(List.range ns.length).map λp:Nat=>V.int (nm0 ns p):=by
 refine List.ext_getElem? λi=>?_
 rw[List.getElem?_map,List.getElem?_map]
 by_cases h:i<ns.length
 ·rw[List.getElem?_range h,List.getElem?_eq_getElem h]
  simp[nm0,h]
 ·rw[List.getElem?_eq_none (by lia),List.getElem?_eq_none (by simpa using h)]
  rfl
theorem alo(n:Nat)(v:V):List.replicate n v=(List.range n).map λ_=>v:=by
 rw[List.map_const',List.length_range]
theorem yZ{n:Nat}{acc:Addr}{te:TE}{σ:St}{H1:Hp}{Q:VK}{c:List V}(Pσ:St->Prop)(h0:Pσ σ)(hacc:H1 acc=none)(hn:n<=1000)
 (hg:∀i σ',Pσ σ'->Pσ (σ'.set 0 (some (.int i))))
 (hel:∀σ' H' (R:VK),Pσ σ'->bJ H1 H'->(∀l H'',H' l=none->bJ H' H''->H'' l=some (.lst c)->R (.ref l) H'')->te σ' H' R)
 (hd:∀(f:Nat->Addr) H',bJ H1 H'->H' acc=some (.lst ((List.range n).map λd=>V.ref (f d)))->(∀d,d<n->H1 (f d)=none/\f d≠acc/\H' (f d)=some (.lst c))->(∀d e,d<n->e<n->f d=f e->d=e)->Q (.ref acc) H') :
 EY (Itr 0 n) (ab2 0) ak4 te σ acc H1 Q:=by
 have sl:sizeLine=16777216:=by decide
 let PV1:Nat->List V->St->Hp->Prop:=λi zs σ' H'=>Pσ σ'/\bJ H1 H'/\H' acc=some (.lst zs)/\∃f:Nat->Addr,zs=(List.range i).map (λd=>V.ref (f d))/\(∀d,d<i->H1 (f d)=none/\f d≠acc/\H' (f d)=some (.lst c))/\∀d e,d<i->e<i->f d=f e->d=e
 refine zQ PV1 ?_ ?_ ?_ ?_
 ·exact⟨h0,az hacc,aj,λ_=>0,rfl,λd hd=>absurd hd (Nat.not_lt_zero _),λd e hd=>absurd hd (Nat.not_lt_zero _)⟩
 ·rintro i zs σ' H' _ ⟨_,_,h,_⟩
  exact h
 ·rintro i zs σ' H' hi ⟨hp,s',ha',f,rfl,hf,inj⟩
  refine zR (hel _ H' _ (hg _ _ hp) s' λl H'' hl s'' hl''=>?_)
  have apG:=s'' _ _ ha'
  have nal:acc≠l:=aF ha' hl
  have hz:((List.range i).map λd=>V.ref (f d)).length<sizeLine:=by rw[List.length_map,List.length_range];lia
  refine t8.mk hi apG hz ⟨hg _ _ hp,dX (s'.trans s'') hacc,aj,aG f i l,?_,λd hd=>?_,λd e hd he h=>?_⟩
  ·rw[List.range_succ,List.map_append]
   congr 1
   ·refine List.map_congr_left λd hd=>?_
    rw[aW _ _ (Nat.ne_of_lt (List.mem_range.mp hd))]
   ·show [V.ref l]=[V.ref _];rw[aK]
  ·by_cases e:d=i
   ·subst e
    rw[aK]
    exact⟨bJ.free s' hl,nal.symm,by rw[aq nal.symm];exact hl''⟩
   ·rw[aW _ _ e]
    obtain⟨h1,h2,h3⟩:=hf d (by lia)
    exact⟨h1,h2,by rw[aq h2];exact s'' _ _ h3⟩
  ·have nl:∀d,d<i->f d≠l:=λd hd=>aF (hf d hd).2.2 hl
   by_cases h1:d=i
   ·by_cases h2:e=i
    ·rw[h1,h2]
    ·rw[h1,aK,aW _ _ h2]at h;exact absurd h.symm (nl e (by lia))
   ·by_cases h2:e=i
    ·rw[h2,aK,aW _ _ h1]at h;exact absurd h (nl d (by lia))
    ·rw[aW _ _ h1,aW _ _ h2]at h;exact inj d e (by lia) (by lia) h
 ·rintro zs σ' H' ⟨_,s',ha',f,rfl,hf,inj⟩
  exact hd f H' s' ha' hf inj
def oc(n:Nat)(ns:List Int)(A:Mb->Addr):Mb->HO
 | .dY=>.lst (List.replicate n .non)
 | .rights=>.lst ((List.range n).map λd=>V.ref (A (.rt d)))
 | .copies=>.lst ((List.range n).map λd=>V.ref (A (.cp d)))
 | .ups=>.lst ((List.range n).map λd=>V.ref (A (.up d)))
 | .downs=>.lst ((List.range n).map λd=>V.ref (A (.dn d)))
 | .rt _=>.lst (List.replicate ns.length (.str "none"))
 | .cp _=>.lst (ns.map V.int)
 | .bU p=>.dK (zF (pg0 ns p) (A (.jc p)) (A (.jL p)))
 | _=>.lst []
structure Stg(n:Nat)(ns:List Int)(H Hs:Hp)(A:Mb->Addr)(ok:Mb->Prop)(kv:List (Key×V))(zs:List V):Prop where
 sm:bJ H Hs
 inj:∀x y,ok x->ok y->A x=A y->x=y
 fr:∀x,ok x->H (A x)=none
 ct:∀x,ok x->x≠.bc->x≠.cV->Hs (A x)=some (oc n ns A x)
 ot:ok .bc
 os:ok .cV
 tw:Hs (A .bc)=some (.dK kv)
 sh:Hs (A .cV)=some (.lst zs)
theorem Stg.live{n:Nat}{ns:List Int}{H Hs:Hp}{A:Mb->Addr}{ok:Mb->Prop}{kv:List (Key×V)}{zs:List V}(S:Stg n ns H Hs A ok kv zs)(x:Mb)(hx:ok x):∃o,Hs (A x)=some o:=by
 by_cases h1:x=.bc
 ·rw[h1];exact⟨_,S.tw⟩
 ·by_cases h2:x=.cV
  ·rw[h2];exact⟨_,S.sh⟩
  ·exact⟨_,S.ct x hx h1 h2⟩
theorem Stg.same{n:Nat}{ns:List Int}{H Hs H2:Hp}{A:Mb->Addr}{ok:Mb->Prop}{kv:List (Key×V)}{zs:List V}(S:Stg n ns H Hs A ok kv zs)(s:bJ Hs H2):Stg n ns H H2 A ok kv zs :=
 ⟨S.sm.trans s,S.inj,S.fr,λx hx h1 h2=>s _ _ (S.ct x hx h1 h2),S.ot,S.os,s _ _ S.tw,s _ _ S.sh⟩
theorem Stg.more{n:Nat}{ns:List Int}{H Hs H2:Hp}{A A':Mb->Addr}{ok new:Mb->Prop}{kv kv':List (Key×V)}{zs:List V}(S:Stg n ns H Hs A ok kv zs)(s2:bJ Hs H2)(hA:∀x,ok x->A' x=A x)(hoc:∀x,ok x->oc n ns A' x=oc n ns A x)
 (hn:∀x,new x->Hs (A' x)=none/\H2 (A' x)=some (oc n ns A' x)) (hi:∀x y,new x->new y->A' x=A' y->x=y):Stg n ns H (upd H2 (A .bc) (.dK kv')) A' (λx=>ok x\/new x) kv' zs:=by
 have ntw:∀x,ok x->x≠.bc->A x≠A .bc:=λx hx h e=>h (S.inj _ _ hx S.ot e)
 have ai6:∀x y,ok x->new y->A x≠A' y:=λx y hx hy e=>by
  obtain⟨o,h1⟩:=S.live x hx
  rw[e,(hn y hy).1]at h1;cases h1
 have S2:=S.same s2
 refine⟨?_,λx y hx hy e=>?_,λx hx=>?_,λx hx h1 h2=>?_,.inl S.ot,.inl S.os,?_,?_⟩
 ·exact dX (S.sm.trans s2) (S.fr _ S.ot)
 ·rcases hx with hx | hx
  ·rcases hy with hy | hy
   ·rw[hA x hx,hA y hy]at e;exact S.inj x y hx hy e
   ·rw[hA x hx]at e;exact absurd e (ai6 x y hx hy)
  ·rcases hy with hy | hy
   ·rw[hA y hy]at e;exact absurd e.symm (ai6 y x hy hx)
   ·exact hi x y hx hy e
 ·rcases hx with hx | hx
  ·rw[hA x hx];exact S.fr x hx
  ·exact bJ.free S.sm (hn x hx).1
 ·rcases hx with hx | hx
  ·rw[hA x hx,hoc x hx,aq (ntw x hx h1)];exact S2.ct x hx h1 h2
  ·rw[aq (ai6 _ _ S.ot hx).symm];exact(hn x hx).2
 ·rw[hA _ S.ot,aj]
 ·rw[hA _ S.os,aq (ntw _ S.os (by intro z;cases z))];exact S2.sh
theorem Stg.bU{n:Nat}{ns:List Int}{H Hs H2:Hp}{A A':Mb->Addr}{ok new:Mb->Prop}{kv:List (Key×V)}{zs zs':List V}(S:Stg n ns H Hs A ok kv zs)(s2:bJ Hs H2)(hA:∀x,ok x->A' x=A x)(hoc:∀x,ok x->oc n ns A' x=oc n ns A x)
 (hn:∀x,new x->Hs (A' x)=none/\H2 (A' x)=some (oc n ns A' x)) (hi:∀x y,new x->new y->A' x=A' y->x=y):Stg n ns H (upd H2 (A .cV) (.lst zs')) A' (λx=>ok x\/new x) kv zs':=by
 have nsh:∀x,ok x->x≠.cV->A x≠A .cV:=λx hx h e=>h (S.inj _ _ hx S.os e)
 have ai6:∀x y,ok x->new y->A x≠A' y:=λx y hx hy e=>by
  obtain⟨o,h1⟩:=S.live x hx
  rw[e,(hn y hy).1]at h1;cases h1
 have S2:=S.same s2
 refine⟨?_,λx y hx hy e=>?_,λx hx=>?_,λx hx h1 h2=>?_,.inl S.ot,.inl S.os,?_,?_⟩
 ·exact dX (S.sm.trans s2) (S.fr _ S.os)
 ·rcases hx with hx | hx
  ·rcases hy with hy | hy
   ·rw[hA x hx,hA y hy]at e;exact S.inj x y hx hy e
   ·rw[hA x hx]at e;exact absurd e (ai6 x y hx hy)
  ·rcases hy with hy | hy
   ·rw[hA y hy]at e;exact absurd e.symm (ai6 y x hy hx)
   ·exact hi x y hx hy e
 ·rcases hx with hx | hx
  ·rw[hA x hx];exact S.fr x hx
  ·exact bJ.free S.sm (hn x hx).1
 ·rcases hx with hx | hx
  ·rw[hA x hx,hoc x hx,aq (nsh x hx h2)];exact S2.ct x hx h1 h2
  ·rw[aq (ai6 _ _ S.os hx).symm];exact(hn x hx).2
 ·rw[hA _ S.ot,aq (nsh _ S.ot (by intro z;cases z))];exact S2.tw
 ·rw[hA _ S.os,aj]
theorem Stg.weak{n:Nat}{ns:List Int}{H Hs:Hp}{A:Mb->Addr}{ok ok':Mb->Prop}{kv:List (Key×V)}{zs:List V}(S:Stg n ns H Hs A ok kv zs)(h:∀x,ok' x->ok x)(ht:ok' .bc)(hs:ok' .cV):Stg n ns H Hs A ok' kv zs :=
 ⟨S.sm,λx y hx hy e=>S.inj x y (h x hx) (h y hy) e,λx hx=>S.fr x (h x hx),λx hx=>S.ct x (h x hx),ht,hs,S.tw,S.sh⟩
theorem Stg.mir{n:Nat}{ns:List Int}{H Hs:Hp}{A:Mb->Addr}(S:Stg n ns H Hs A (Mb.ok n ns.length) (tkv A) ((List.range ns.length).map λp=>V.ref (A (.bU p)))):aY Hs A n ns.length (S0 ns) []:=by
 refine⟨S.inj,λx hx=>?_⟩
 cases x with
 | bc=>exact⟨_,S.tw,rfl⟩
 | cV=>exact⟨_,S.sh,rfl⟩
 | row=>exact⟨_,S.ct .row hx (by intro z;cases z) (by intro z;cases z),[],rfl,by simp[S0,aH]⟩
 | sent=>exact⟨_,S.ct .sent hx (by intro z;cases z) (by intro z;cases z),[],rfl,by simp[aH]⟩
 | dY =>
   refine⟨_,S.ct .dY hx (by intro z;cases z) (by intro z;cases z),_,rfl,List.length_replicate,λd hd=>⟨.non,?_,rfl⟩⟩
   rw[List.getElem?_replicate,if_pos hd]
 | rights=>exact⟨_,S.ct .rights hx (by intro z;cases z) (by intro z;cases z),rfl⟩
 | copies=>exact⟨_,S.ct .copies hx (by intro z;cases z) (by intro z;cases z),rfl⟩
 | ups=>exact⟨_,S.ct .ups hx (by intro z;cases z) (by intro z;cases z),rfl⟩
 | downs=>exact⟨_,S.ct .downs hx (by intro z;cases z) (by intro z;cases z),rfl⟩
 | rt d=>exact⟨_,S.ct (.rt d) hx (by intro z;cases z) (by intro z;cases z),by show HO.lst _=HO.lst _;rw[alo];rfl⟩
 | cp d=>exact⟨_,S.ct (.cp d) hx (by intro z;cases z) (by intro z;cases z),by show HO.lst _=HO.lst _;rw[apF];rfl⟩
 | up d=>exact⟨_,S.ct (.up d) hx (by intro z;cases z) (by intro z;cases z),[],rfl,by simp[S0,aH]⟩
 | dn d=>exact⟨_,S.ct (.dn d) hx (by intro z;cases z) (by intro z;cases z),[],rfl,by simp[S0,aH]⟩
 | bU p=>exact⟨_,S.ct (.bU p) hx (by intro z;cases z) (by intro z;cases z),rfl⟩
 | jc p=>exact⟨_,S.ct (.jc p) hx (by intro z;cases z) (by intro z;cases z),rfl⟩
 | jL p=>exact⟨_,S.ct (.jL p) hx (by intro z;cases z) (by intro z;cases z),[],rfl,by simp[S0,pg0,aH]⟩
def ok0(x:Mb):Prop:=x=.bc\/x=.row\/x=.dY\/x=.cV\/x=.sent
def ok8(n:Nat)(x:Mb):Prop:=(((ok0 x\/(x=.rights\/∃d,d<n/\x=.rt d))\/(x=.copies\/∃d,d<n/\x=.cp d))\/(x=.ups\/∃d,d<n/\x=.up d))\/(x=.downs\/∃d,d<n/\x=.dn d)
def A0(tw row wi sh se:Addr):Mb->Addr
 | .bc=>tw
 | .row=>row
 | .dY=>wi
 | .cV=>sh
 | _=>se
def A1(A:Mb->Addr)(a:Addr)(f:Nat->Addr):Mb->Addr
 | .rights=>a
 | .rt d=>f d
 | x=>A x
def A2(A:Mb->Addr)(a:Addr)(f:Nat->Addr):Mb->Addr
 | .copies=>a
 | .cp d=>f d
 | x=>A x
def A3(A:Mb->Addr)(a:Addr)(f:Nat->Addr):Mb->Addr
 | .ups=>a
 | .up d=>f d
 | x=>A x
def A4(A:Mb->Addr)(a:Addr)(f:Nat->Addr):Mb->Addr
 | .downs=>a
 | .dn d=>f d
 | x=>A x
def Ls(row wi sh se:Addr):List (Key×V):=[(ks "row",.ref row),(ks "wishes",.ref wi),(ks "shelves",.ref sh),(ks "sent",.ref se)]
theorem alp{row wi sh se:Addr}:JM [] (Ls row wi sh se)=Ls row wi sh se:=by kernel_rfl
theorem apI{row wi sh se a:Addr}:putK (Ls row wi sh se) (ks "rights") (.ref a)=Ls row wi sh se++[(ks "rights",.ref a)]:=by kernel_rfl
theorem apJ{row wi sh se a b:Addr}:putK (Ls row wi sh se++[(ks "rights",.ref a)]) (ks "copies") (.ref b)=Ls row wi sh se++[(ks "rights",.ref a),(ks "copies",.ref b)]:=by kernel_rfl
theorem apK{row wi sh se a b c:Addr}:putK (Ls row wi sh se++[(ks "rights",.ref a),(ks "copies",.ref b)]) (ks "ups") (.ref c)=Ls row wi sh se++[(ks "rights",.ref a),(ks "copies",.ref b),(ks "ups",.ref c)]:=by kernel_rfl
theorem apL{row wi sh se a b c d:Addr}:putK (Ls row wi sh se++[(ks "rights",.ref a),(ks "copies",.ref b),(ks "ups",.ref c)]) (ks "downs") (.ref d)=Ls row wi sh se++[(ks "rights",.ref a),(ks "copies",.ref b),(ks "ups",.ref c),(ks "downs",.ref d)]:=by kernel_rfl
theorem apM{row wi sh se:Addr}{l:List (Key×V)}:fW (Ls row wi sh se++l) (ks "shelves")=some (.ref sh):=by kernel_rfl
theorem akx(n:Nat)(v:V):(List.replicate n [v]).flatten=List.replicate n v:=by
 induction n with
 | zero=>rfl
 | succ n ih=>rw[List.replicate_succ,List.flatten_cons,ih,List.replicate_succ];rfl
def kvS(x:Int)(r q:Addr):List (Key×V):=[(ks "number",.int x),(ks "writer",.int (-1)),(ks "readers",.ref r),(ks "asked",.ref q),(ks "missing",.int 0)]
theorem alq{x:Int}{r q:Addr}:JM [] (kvS x r q)=zF ⟨x,none,[],[],0⟩ r q:=by kernel_rfl
def anr:Sp:=λvs H Q _=>∃n l,∃ns:List Int,vs=[.int ((n:Nat):Int),.ref l]/\H l=some (.lst (ns.map V.int))/\n<=1000/\ns.length<=1000/\
 ∀A H',aY H' A n ns.length (S0 ns) []->bJ H H'->(∀x:Mb,x.ok n ns.length->H (A x)=none)->Q (.ref (A .bc)) H'
theorem adL(T:Txt K w mg t):cZ P w K mg base oY 1 t.jj t.An ["_law_count","_law_numbers"] anr:=by
 refine T.Sv.ok sU (λvs H Q E h=>?_) (λcdv A outer s H vs Q E hr h=>?_)
 ·obtain⟨n,l,ns,rfl,_⟩:=h;rfl
 ·obtain⟨n,l,ns,rfl,hl,hn,hm,k⟩:=h
  have hu:=lG hr
  have sl:sizeLine=16777216:=by decide
  refine' ⟨_,?sr,?_⟩
  case' sr=>refine' ak ?Yy ?J7
  case' J7=>refine' ak ?Yz ?J8
  case' J8=>refine' ak ?YB ?J9
  case' J9=>refine' ak ?YC ?YD
  case' YD=>refine' ak ?ahb ?YF
  case' YF=>refine' ak ?ahc ?YG
  case' YG=>refine' aB ?ahd
  case' Yy=>refine' bz (X:=_) (x:="_law_town") (e:=_) (te:=_) (i:=2) ?apO ?apP ?apQ ?auj ?apR ?apS
  case' apO=>exact sU.nd
  case' apP=>rfl
  case' apQ=>exact(Or.inl rfl)
  case' apR=>rfl
  case' apS=>exact .inl rfl
  case' auj=>refine' ajZ (X:=_) (trs:=_) ?auk ?apT ?apU ?apV ?apW
  case' apT=>rfl
  case' apU=>rfl
  case' apV=>exact List.cons_ne_nil _ _
  case' apW=>decide
  case' auk=>refine' m7 (X:=_) (tk:=_) (tv:=_) (trs:=_) ?apY ?apZ ?ant
  case' apY=>exact aC
  case' apZ=>refine' (bO ao)
  case' ant=>refine' m7 (X:=_) (tk:=_) (tv:=_) (trs:=_) ?ap0 ?ap1 ?anu
  case' ap0=>exact aC
  case' ap1=>refine' bG aml ?anv ?anw
  case' anv=>refine' (bO (aa tX ao))
  case' anw=>refine' (pv 0)
  case' anu=>refine' m7 (X:=_) (tk:=_) (tv:=_) (trs:=_) ?ap2 ?ap3 ?anx
  case' ap2=>exact aC
  case' ap3=>refine' (bO ao)
  case' anx=>refine' m7 (X:=_) (tk:=_) (tv:=_) (trs:=_) ?ap4 ?ap5 ?anz
  case' ap4=>exact aC
  case' ap5=>refine' (bO ao)
  case' anz=>exact ajY
  case' Yz=>exact(lQ hu (pv 2) aC (jJ (fM (xs:=["_law_k"]) (ys:=["_law_numbers"]) (js:=[1]) rfl (by decide +kernel) (by decide +kernel) (by decide +kernel) (by rfl) ⟨⟨rfl,Or.inl rfl⟩,trivial⟩) rfl (gP (by rfl) T.lr (aa (pv 0) ao)) (λ_ _ _ _ _=>(cN (i:=0) (show List.Nodup ((["_law_k"]:List Str)++(["_law_numbers"]:List Str):List Str)by decide +kernel) rfl (Or.inl rfl))) (λ_ _ _ _ _=>kY) (λ_ _ _ _ _=>(bG aml (bO (aa aC ao)) (dI (aaM (K:=K) rfl) (by rfl) T.yU PySem.boot_len (aa (pv 1) ao))))) (by rfl))
  case' YB=>exact(lQ hu (pv 2) aC (jJ (fM (xs:=["_law_k"]) (ys:=["_law_numbers"]) (js:=[1]) rfl (by decide +kernel) (by decide +kernel) (by decide +kernel) (by rfl) ⟨⟨rfl,Or.inl rfl⟩,trivial⟩) rfl (gP (by rfl) T.lr (aa (pv 0) ao)) (λ_ _ _ _ _=>(cN (i:=0) (show List.Nodup ((["_law_k"]:List Str)++(["_law_numbers"]:List Str):List Str)by decide +kernel) rfl (Or.inl rfl))) (λ_ _ _ _ _=>kY) (λ_ _ _ _ _=>(iw (Iv (K:=K) rfl) (by rfl) T.Gn PyProof.Rows.Boot.«list» (aa (pv 1) ao)))) (by rfl))
  case' YC=>exact(lQ hu (pv 2) aC (jJ (fM (xs:=["_law_k"]) (ys:=[]) (js:=[]) rfl (by decide +kernel) (by decide +kernel) (by decide +kernel) (by rfl) trivial) rfl (gP (by rfl) T.lr (aa (pv 0) ao)) (λ_ _ _ _ _=>(cN (i:=0) (show List.Nodup ((["_law_k"]:List Str)++([]:List Str):List Str)by decide +kernel) rfl (Or.inl rfl))) (λ_ _ _ _ _=>kY) (λ_ _ _ _ _=>(bO ao))) (by rfl))
  case' ahb=>exact(lQ hu (pv 2) aC (jJ (fM (xs:=["_law_k"]) (ys:=[]) (js:=[]) rfl (by decide +kernel) (by decide +kernel) (by decide +kernel) (by rfl) trivial) rfl (gP (by rfl) T.lr (aa (pv 0) ao)) (λ_ _ _ _ _=>(cN (i:=0) (show List.Nodup ((["_law_k"]:List Str)++([]:List Str):List Str)by decide +kernel) rfl (Or.inl rfl))) (λ_ _ _ _ _=>kY) (λ_ _ _ _ _=>(bO ao))) (by rfl))
  case' ahc=>refine' tY PassesOwn.never rfl (lO (pv 1)) (cN (i:=3) sU.nd rfl (Or.inl rfl)) ?anA
  case' anA=>refine' ak ?YH ?YJ
  case' YJ=>refine' aB ?ahe
  case' YH=>refine' bz (X:=_) (x:="_law_shelf") (e:=_) (te:=_) (i:=4) ?ap6 ?ap7 ?ap8 ?aul ?ap9 ?aqa
  case' ap6=>exact sU.nd
  case' ap7=>rfl
  case' ap8=>exact(Or.inl rfl)
  case' ap9=>rfl
  case' aqa=>exact .inl rfl
  case' aul=>refine' ajZ (X:=_) (trs:=_) ?aum ?aqb ?aqc ?aqd ?aqe
  case' aqb=>rfl
  case' aqc=>rfl
  case' aqd=>exact List.cons_ne_nil _ _
  case' aqe=>decide
  case' aum=>refine' m7 (X:=_) (tk:=_) (tv:=_) (trs:=_) ?aqf ?aqg ?anB
  case' aqf=>exact aC
  case' aqg=>refine' (pv 3)
  case' anB=>refine' m7 (X:=_) (tk:=_) (tv:=_) (trs:=_) ?aqh ?aqi ?anC
  case' aqh=>exact aC
  case' aqi=>refine' (R6 Ew aA)
  case' anC=>refine' m7 (X:=_) (tk:=_) (tv:=_) (trs:=_) ?aqj ?aqk ?anD
  case' aqj=>exact aC
  case' aqk=>refine' (bO ao)
  case' anD=>refine' m7 (X:=_) (tk:=_) (tv:=_) (trs:=_) ?aql ?aqm ?anE
  case' aql=>exact aC
  case' aqm=>refine' (bO ao)
  case' anE=>refine' m7 (X:=_) (tk:=_) (tv:=_) (trs:=_) ?aqn ?aqo ?anF
  case' aqn=>exact aC
  case' aqo=>refine' aA
  case' anF=>exact ajY
  case' ahe=>exact(bM (eN PySem.F.plainAttrs_list PySem.F.slot_list_append PySem.F.type_list_append cD (bH hu (pv 2) aC (λ_ _=>rfl)) (aa (pv 4) ao)))
  case' ahd=>exact(bf (pv 2))
  try dsimp only[dm,Cx.lu]
  show let Z1:L2.TS:=_;let Z2:L2.TS:=_;let Z3:L2.TS:=_;let Z4:L2.TS:=_;let Z5:L2.TS:=_;let Z6:L2.TS:=_;let Z7:L2.TS:=_;let Z8:L2.TS:=aR Z6 (Z7);let Z9:L2.TS:=Ub _ _ Z8;let Cp:L2.TS:=_;let D0:Ends:=_;(aR Z1 (aR Z2 (aR Z3 (aR Z4 (aR Z5 (aR Z9 (Cp))))))) D0 _ _
  intro Z1 Z2 Z3 Z4 Z5 Z6 Z7 Z8 Z9 Cp D0
  refine λtw htw=>⟨Dg,λrow hrow=>⟨zz1,λq0 hq0=>⟨_,rfl,q0,(n:Int),[.non],rfl,rfl,aj,(by lia),(by lia),?_,λwi hwi=>⟨Dg,λsh hsh=>⟨Dg,λse hse=>?_⟩⟩⟩⟩⟩
  ·rw[Int.toNat_natCast];simp only[List.length_singleton];lia
  rw[Int.toNat_natCast,akx]at *
  have ntr:tw≠row:=λz=>by rw[<-z,aj]at hrow;cases hrow
  have ntq:tw≠q0:=λz=>by rw[<-z,aq ntr,aj]at hq0;cases hq0
  have nrq:row≠q0:=λz=>by rw[<-z,aj]at hq0;cases hq0
  have ntw:tw≠wi:=λz=>by rw[<-z,aq ntq,aq ntr,aj]at hwi;cases hwi
  have nrw:row≠wi:=λz=>by rw[<-z,aq nrq,aj]at hwi;cases hwi
  have nqw:q0≠wi:=λz=>by rw[<-z,aj]at hwi;cases hwi
  have nts:tw≠sh:=λz=>by rw[<-z,aq ntw,aq ntq,aq ntr,aj]at hsh;cases hsh
  have nrs:row≠sh:=λz=>by rw[<-z,aq nrw,aq nrq,aj]at hsh;cases hsh
  have nqs:q0≠sh:=λz=>by rw[<-z,aq nqw,aj]at hsh;cases hsh
  have nws:wi≠sh:=λz=>by rw[<-z,aj]at hsh;cases hsh
  have nte:tw≠se:=λz=>by rw[<-z,aq nts,aq ntw,aq ntq,aq ntr,aj]at hse;cases hse
  have nre:row≠se:=λz=>by rw[<-z,aq nrs,aq nrw,aq nrq,aj]at hse;cases hse
  have nqe:q0≠se:=λz=>by rw[<-z,aq nqs,aq nqw,aj]at hse;cases hse
  have nwe:wi≠se:=λz=>by rw[<-z,aq nws,aj]at hse;cases hse
  have nse:sh≠se:=λz=>by rw[<-z,aj]at hse;cases hse
  refine⟨by rw[aq nte,aq nts,aq ntw,aq ntq,aq ntr,aj],Ls row wi sh se,rfl,(by show 4<=15;decide),?_⟩
  rw[alp]
  have aAl:H row=none:=Lv.upd _ hrow
  have fwi:H wi=none:=Lv.upd _ (Lv.upd _ (Lv.upd _ hwi))
  have fsh:H sh=none:=Lv.upd _ (Lv.upd _ (Lv.upd _ (Lv.upd _ hsh)))
  have fse:H se=none:=Lv.upd _ (Lv.upd _ (Lv.upd _ (Lv.upd _ (Lv.upd _ hse))))
  have G0:Stg n ns H (upd (upd (upd (upd (upd (upd (upd H tw (.dK [])) row (.lst [])) q0 (.lst [.non])) wi (.lst (List.replicate n .non))) sh (.lst [])) se (.lst [])) tw (.dK (Ls row wi sh se))) (A0 tw row wi sh se) ok0 (Ls row wi sh se) []:=by
   refine⟨?_,λx y hx hy e=>?_,λx hx=>?_,λx hx h1 h2=>?_,.inl rfl,.inr (.inr (.inr (.inl rfl))),aj,?_⟩
   ·refine dX ?_ htw
    exact(((((az htw).trans (az hrow)).trans (az hq0)).trans (az hwi)).trans (az hsh)).trans (az hse)
   ·rcases hx with rfl | rfl | rfl | rfl | rfl<;>rcases hy with rfl | rfl | rfl | rfl | rfl<;>first
     | rfl
     | (exfalso;exact ntr e) | (exfalso;exact ntw e) | (exfalso;exact nts e) | (exfalso;exact nte e) | (exfalso;exact nrw e) | (exfalso;exact nrs e) | (exfalso;exact nre e) | (exfalso;exact nws e) | (exfalso;exact nwe e) | (exfalso;exact nse e)
     | (exfalso;exact ntr e.symm) | (exfalso;exact ntw e.symm) | (exfalso;exact nts e.symm) | (exfalso;exact nte e.symm) | (exfalso;exact nrw e.symm) | (exfalso;exact nrs e.symm) | (exfalso;exact nre e.symm) | (exfalso;exact nws e.symm) | (exfalso;exact nwe e.symm) | (exfalso;exact nse e.symm)
   ·rcases hx with rfl | rfl | rfl | rfl | rfl
    ·exact htw
    ·exact aAl
    ·exact fwi
    ·exact fsh
    ·exact fse
   ·rcases hx with rfl | rfl | rfl | rfl | rfl
    ·exact absurd rfl h1
    ·show upd _ tw _ row=_;rw[aq ntr.symm,aq nre,aq nrs,aq nrw,aq nrq,aj];rfl
    ·show upd _ tw _ wi=_;rw[aq ntw.symm,aq nwe,aq nws,aj];rfl
    ·exact absurd rfl h2
    ·show upd _ tw _ se=_;rw[aq nte.symm,aj];rfl
   ·show upd _ tw _ sh=_;rw[aq nts.symm,aq nse,aj]
  generalize upd (upd (upd (upd (upd (upd (upd H tw (.dK [])) row (.lst [])) q0 (.lst [.non])) wi (.lst (List.replicate n .non))) sh (.lst [])) se (.lst [])) tw (.dK (Ls row wi sh se))=H0 at G0
  clear hrow hq0 hwi hsh hse ntr ntq nrq ntw nrw nqw nts nrs nqs nws nte nre nqe nwe nse
  have nb : -(2 ^ 62)<=((n:Nat):Int)/\((n:Nat):Int)<2 ^ 62:=⟨by lia,by lia⟩
  refine⟨_,rfl,(n:Int),rfl,nb.1,nb.2,λar har=>?_⟩
  rw[Int.toNat_natCast]
  refine yZ (c:=List.replicate ns.length (.str "none")) (λσ'=>∃o,σ'=[o,some (.ref l)]) ⟨_,rfl⟩ har hn (λi σ' h=>by obtain⟨o,rfl⟩:=h;exact⟨_,rfl⟩) (λσ' H' R ⟨o,e⟩ s' hR=>?_) (λf1 H1 s1 ha1 hf1 aAm=>?_)
  ·subst e
   have hl':=s' _ _ (G0.sm _ _ hl)
   refine⟨zz1,λq hq=>⟨_,rfl,l,_,rfl,.inl (bZ.of (az hq _ _ hl')),q,_,[.str "none"],rfl,rfl,aj,(by lia),?_,?_,λz hz=>?_⟩⟩
   ·rw[List.length_map];lia
   ·rw[List.length_map,Int.toNat_natCast];simp only[List.length_singleton];lia
   ·rw[List.length_map,Int.toNat_natCast,akx]
    exact hR z _ (Lv.upd _ hz) ((az hq).trans (az hz)) aj
  have gt1:H1 tw=some (.dK _):=s1 _ _ G0.tw
  refine⟨_,rfl,tw,_,rfl,dput gt1 (by show 4<sizeLine;decide) apI,?_⟩
  have G1:=G0.more (A':=A1 (A0 tw row wi sh se) ar f1) (new:=λx=>x=.rights\/∃d,d<n/\x=.rt d) (kv':=Ls row wi sh se++[(ks "rights",.ref ar)]) s1 (λx hx=>by rcases hx with rfl | rfl | rfl | rfl | rfl<;>rfl) (λx hx=>by rcases hx with rfl | rfl | rfl | rfl | rfl<;>rfl)
   (λx hx=>by
     rcases hx with rfl | ⟨d,hd,rfl⟩
     ·exact⟨har,ha1⟩
     ·exact⟨(hf1 d hd).1,(hf1 d hd).2.2⟩)
   (λx y hx hy e=>by
     rcases hx with rfl | ⟨d,hd,rfl⟩<;>rcases hy with rfl | ⟨d',hd',rfl⟩
     ·rfl
     ·exact absurd e.symm (hf1 d' hd').2.1
     ·exact absurd e (hf1 d hd).2.1
     ·rw[aAm d d' hd hd' e])
  have G1':Stg n ns H (upd H1 tw (.dK (Ls row wi sh se++[(ks "rights",.ref ar)]))) _ _ _ []:=G1
  generalize upd H1 tw (.dK (Ls row wi sh se++[(ks "rights",.ref ar)]))=H1' at G1'
  clear G1
  refine⟨_,rfl,(n:Int),rfl,nb.1,nb.2,λac hac=>?_⟩
  rw[Int.toNat_natCast]
  refine yZ (c:=ns.map V.int) (λσ'=>∃o,σ'=[o,some (.ref l)]) ⟨_,rfl⟩ hac hn (λi σ' h=>by obtain⟨o,rfl⟩:=h;exact⟨_,rfl⟩) (λσ' H' R ⟨o,e⟩ s' hR=>?_) (λf2 H2 s2 ha2 hf2 anG=>?_)
  ·subst e
   have hl':=s' _ _ (G1'.sm _ _ hl)
   exact⟨_,rfl,l,_,rfl,.inl (bZ.of hl'),λz hz=>hR z _ hz (az hz) aj⟩
  have gt2:H2 tw=some (.dK _):=s2 _ _ G1'.tw
  refine⟨_,rfl,tw,_,rfl,dput gt2 (by show 5<sizeLine;decide) apJ,?_⟩
  have G2:=G1'.more (A':=A2 (A1 (A0 tw row wi sh se) ar f1) ac f2) (new:=λx=>x=.copies\/∃d,d<n/\x=.cp d) (kv':=Ls row wi sh se++[(ks "rights",.ref ar),(ks "copies",.ref ac)]) s2 (λx hx=>by rcases hx with (rfl | rfl | rfl | rfl | rfl) | rfl | ⟨d,_,rfl⟩<;>rfl) (λx hx=>by rcases hx with (rfl | rfl | rfl | rfl | rfl) | rfl | ⟨d,_,rfl⟩<;>rfl)
   (λx hx=>by
     rcases hx with rfl | ⟨d,hd,rfl⟩
     ·exact⟨hac,ha2⟩
     ·exact⟨(hf2 d hd).1,(hf2 d hd).2.2⟩)
   (λx y hx hy e=>by
     rcases hx with rfl | ⟨d,hd,rfl⟩<;>rcases hy with rfl | ⟨d',hd',rfl⟩
     ·rfl
     ·exact absurd e.symm (hf2 d' hd').2.1
     ·exact absurd e (hf2 d hd).2.1
     ·rw[anG d d' hd hd' e])
  have G2':Stg n ns H (upd H2 tw (.dK (Ls row wi sh se++[(ks "rights",.ref ar),(ks "copies",.ref ac)]))) _ _ _ []:=G2
  generalize upd H2 tw (.dK (Ls row wi sh se++[(ks "rights",.ref ar),(ks "copies",.ref ac)]))=H2' at G2'
  clear G2
  refine⟨_,rfl,(n:Int),rfl,nb.1,nb.2,λau hau=>?_⟩
  rw[Int.toNat_natCast]
  refine yZ (c:=[]) (λσ'=>∃o,σ'=[o]) ⟨_,rfl⟩ hau hn (λi σ' h=>by obtain⟨o,rfl⟩:=h;exact⟨_,rfl⟩) (λσ' H' R ⟨o,e⟩ s' hR=>?_) (λf3 H3 s3 ha3 hf3 aAo=>?_)
  ·exact⟨Dg,λz hz=>hR z _ hz (az hz) aj⟩
  have gt3:H3 tw=some (.dK _):=s3 _ _ G2'.tw
  refine⟨_,rfl,tw,_,rfl,dput gt3 (by show 6<sizeLine;decide) apK,?_⟩
  have G3:=G2'.more (A':=A3 (A2 (A1 (A0 tw row wi sh se) ar f1) ac f2) au f3) (new:=λx=>x=.ups\/∃d,d<n/\x=.up d) (kv':=Ls row wi sh se++[(ks "rights",.ref ar),(ks "copies",.ref ac),(ks "ups",.ref au)]) s3 (λx hx=>by rcases hx with ((rfl | rfl | rfl | rfl | rfl) | rfl | ⟨d,_,rfl⟩) | rfl | ⟨d,_,rfl⟩<;>rfl) (λx hx=>by rcases hx with ((rfl | rfl | rfl | rfl | rfl) | rfl | ⟨d,_,rfl⟩) | rfl | ⟨d,_,rfl⟩<;>rfl)
   (λx hx=>by
     rcases hx with rfl | ⟨d,hd,rfl⟩
     ·exact⟨hau,ha3⟩
     ·exact⟨(hf3 d hd).1,(hf3 d hd).2.2⟩)
   (λx y hx hy e=>by
     rcases hx with rfl | ⟨d,hd,rfl⟩<;>rcases hy with rfl | ⟨d',hd',rfl⟩
     ·rfl
     ·exact absurd e.symm (hf3 d' hd').2.1
     ·exact absurd e (hf3 d hd).2.1
     ·rw[aAo d d' hd hd' e])
  have G3':Stg n ns H (upd H3 tw (.dK (Ls row wi sh se++[(ks "rights",.ref ar),(ks "copies",.ref ac),(ks "ups",.ref au)]))) _ _ _ []:=G3
  generalize upd H3 tw (.dK (Ls row wi sh se++[(ks "rights",.ref ar),(ks "copies",.ref ac),(ks "ups",.ref au)]))=H3' at G3'
  clear G3
  refine⟨_,rfl,(n:Int),rfl,nb.1,nb.2,λad had=>?_⟩
  rw[Int.toNat_natCast]
  refine yZ (c:=[]) (λσ'=>∃o,σ'=[o]) ⟨_,rfl⟩ had hn (λi σ' h=>by obtain⟨o,rfl⟩:=h;exact⟨_,rfl⟩) (λσ' H' R ⟨o,e⟩ s' hR=>?_) (λf4 H4 s4 ha4 hf4 aun=>?_)
  ·exact⟨Dg,λz hz=>hR z _ hz (az hz) aj⟩
  have gt4:H4 tw=some (.dK _):=s4 _ _ G3'.tw
  refine⟨_,rfl,tw,_,rfl,dput gt4 (by show 7<sizeLine;decide) apL,?_⟩
  have G4:=G3'.more (A':=A4 (A3 (A2 (A1 (A0 tw row wi sh se) ar f1) ac f2) au f3) ad f4) (new:=λx=>x=.downs\/∃d,d<n/\x=.dn d) (kv':=Ls row wi sh se++[(ks "rights",.ref ar),(ks "copies",.ref ac),(ks "ups",.ref au),(ks "downs",.ref ad)]) s4 (λx hx=>by rcases hx with (((rfl | rfl | rfl | rfl | rfl) | rfl | ⟨d,_,rfl⟩) | rfl | ⟨d,_,rfl⟩) | rfl | ⟨d,_,rfl⟩<;>rfl) (λx hx=>by rcases hx with (((rfl | rfl | rfl | rfl | rfl) | rfl | ⟨d,_,rfl⟩) | rfl | ⟨d,_,rfl⟩) | rfl | ⟨d,_,rfl⟩<;>rfl)
   (λx hx=>by
     rcases hx with rfl | ⟨d,hd,rfl⟩
     ·exact⟨had,ha4⟩
     ·exact⟨(hf4 d hd).1,(hf4 d hd).2.2⟩)
   (λx y hx hy e=>by
     rcases hx with rfl | ⟨d,hd,rfl⟩<;>rcases hy with rfl | ⟨d',hd',rfl⟩
     ·rfl
     ·exact absurd e.symm (hf4 d' hd').2.1
     ·exact absurd e (hf4 d hd).2.1
     ·rw[aun d d' hd hd' e])
  have G4':Stg n ns H (upd H4 tw (.dK (Ls row wi sh se++[(ks "rights",.ref ar),(ks "copies",.ref ac),(ks "ups",.ref au),(ks "downs",.ref ad)]))) _ _ _ []:=G4
  generalize upd H4 tw (.dK (Ls row wi sh se++[(ks "rights",.ref ar),(ks "copies",.ref ac),(ks "ups",.ref au),(ks "downs",.ref ad)]))=H4' at G4'
  clear G4
  have okB:∀x,ok8 n x->(((ok0 x\/(x=.rights\/∃d,d<n/\x=.rt d))\/(x=.copies\/∃d,d<n/\x=.cp d))\/(x=.ups\/∃d,d<n/\x=.up d))\/(x=.downs\/∃d,d<n/\x=.dn d):=λx hx=>hx
  have G5:=G4'.weak (ok':=ok8 n) okB (.inl (.inl (.inl (.inl (.inl rfl))))) (.inl (.inl (.inl (.inl (.inr (.inr (.inr (.inl rfl))))))))
  clear G4' okB
  generalize hAB:A4 (A3 (A2 (A1 (A0 tw row wi sh se) ar f1) ac f2) au f3) ad f4=AB at G5
  have hkv:Ls row wi sh se++[(ks "rights",.ref ar),(ks "copies",.ref ac),(ks "ups",.ref au),(ks "downs",.ref ad)]=tkv AB:=by rw[<-hAB];rfl
  have axo:AB .bc=tw:=by rw[<-hAB];rfl
  have aAr:AB .cV=sh:=by rw[<-hAB];rfl
  refine⟨_,rfl,l,rfl,⟨_,bZ.of (G5.sm _ _ hl)⟩,?_⟩
  let PV2:Nat->St->Hp->Prop:=λi σ' H'=>(∃o3 o4,σ'=[some (.int n),some (.ref l),some (.ref tw),o3,o4])/\∃A,(∀x,ok8 n x->A x=AB x)/\Stg n ns H H' A (λx=>ok8 n x\/∃p,p<i/\(x=.bU p\/x=.jc p\/x=.jL p)) (Ls row wi sh se++[(ks "rights",.ref ar),(ks "copies",.ref ac),(ks "ups",.ref au),(ks "downs",.ref ad)]) ((List.range i).map λp=>V.ref (A (.bU p)))
  refine tZ (xs:=ns.map V.int) PV2 ?_ ?_ ?_ ?_
  ·refine⟨⟨_,_,rfl⟩,AB,λx _=>rfl,G5.weak (λx hx=>hx.elim id λz=>by obtain⟨p,hp,_⟩:=z;exact absurd hp (Nat.not_lt_zero _)) (.inl G5.ot) (.inl G5.os)⟩
  ·rintro i σ' H' _ ⟨_,A',_,G⟩
   exact bZ.of (G.sm _ _ hl)
  ·rintro i y σ' H' hy ⟨⟨o3,o4,rfl⟩,A',hA',G⟩
   have hi:i<ns.length:=by have:=(List.getElem?_eq_some_iff.mp hy).1;simpa using this
   have hy':y=.int ns[i]:=by
    rw[List.getElem?_map,List.getElem?_eq_getElem hi]at hy
    exact(Option.some.inj hy).symm
   subst hy'
   refine λsf hsf=>⟨_,rfl,_,rfl,⟨Dg,λr hr=>⟨Dg,λq hq=>?_⟩⟩⟩
   have nsr:sf≠r:=λz=>by rw[<-z,aj]at hr;cases hr
   have nsq:sf≠q:=λz=>by rw[<-z,aq nsr,aj]at hq;cases hq
   have nrq:r≠q:=λz=>by rw[<-z,aj]at hq;cases hq
   have hr0:H' r=none:=Lv.upd _ hr
   have hq0:H' q=none:=Lv.upd _ (Lv.upd _ hq)
   refine⟨by rw[aq nsq,aq nsr,aj],kvS ns[i] r q,rfl,(by show 5<=15;decide),?_⟩
   rw[alq]
   have hpg:pg0 ns i=⟨ns[i],none,[],[],0⟩:=by unfold pg0;rw[List.getElem?_eq_getElem hi];rfl
   rw[<-hpg]
   have s1:bJ H' (upd (upd (upd (upd H' sf (.dK [])) r (.lst [])) q (.lst [])) sf (.dK (zF (pg0 ns i) r q))):=dX (((az hsf).trans (az hr)).trans (az hq)) hsf
   have c1:upd (upd (upd (upd H' sf (.dK [])) r (.lst [])) q (.lst [])) sf (.dK (zF (pg0 ns i) r q)) sf=some (.dK (zF (pg0 ns i) r q)):=aj
   have c2:upd (upd (upd (upd H' sf (.dK [])) r (.lst [])) q (.lst [])) sf (.dK (zF (pg0 ns i) r q)) r=some (.lst []):=by rw[aq nsr.symm,aq nrq,aj]
   have c3:upd (upd (upd (upd H' sf (.dK [])) r (.lst [])) q (.lst [])) sf (.dK (zF (pg0 ns i) r q)) q=some (.lst []):=by rw[aq nsq.symm,aj]
   generalize upd (upd (upd (upd H' sf (.dK [])) r (.lst [])) q (.lst [])) sf (.dK (zF (pg0 ns i) r q))=H2 at s1 c1 c2 c3
   have htw:A' .bc=tw:=by rw[hA' _ G5.ot,axo]
   have hsh:A' .cV=sh:=by rw[hA' _ G5.os,aAr]
   have gt:=s1 _ _ G.tw
   have gs:=s1 _ _ G.sh
   rw[htw]at gt
   rw[hsh]at gs
   refine zd rfl (fG gt apM) ⟨.inl ⟨rfl,_,bZ.of gs⟩,_,rfl,sh,_,_,rfl,rfl,gs,by rw[List.length_map,List.length_range];lia,?_⟩
   have auo:∀x,(ok8 n x\/∃p,p<i/\(x=.bU p\/x=.jc p\/x=.jL p))->x≠.bU i/\x≠.jc i/\x≠.jL i:=by
    intro x hx
    rcases hx with hx | ⟨p,hp,hx⟩
    ·refine⟨?_,?_,?_⟩<;>(intro z;subst z;simp[ok8,ok0]at hx)
    ·rcases hx with rfl | rfl | rfl<;>refine⟨?_,?_,?_⟩<;>(intro z;cases z<;>exact absurd hp (Nat.lt_irrefl _))
   generalize hA2:jO (jO (jO A' (.bU i) sf) (.jc i) r) (.jL i) q=A2'
   have e1:A2' (.bU i)=sf:=by rw[<-hA2];simp[jO]
   have e2:A2' (.jc i)=r:=by rw[<-hA2];simp[jO]
   have e3:A2' (.jL i)=q:=by rw[<-hA2];simp[jO]
   have eo:∀x,x≠.bU i->x≠.jc i->x≠.jL i->A2' x=A' x:=λx h1 h2 h3=>by rw[<-hA2,bK _ _ h3,bK _ _ h2,bK _ _ h1]
   have G6:=G.bU (A':=A2') (new:=λx=>x=.bU i\/x=.jc i\/x=.jL i) (zs':=((List.range i).map λp=>V.ref (A' (.bU p)))++[.ref sf]) s1
    (λx hx=>by obtain⟨h1,h2,h3⟩:=auo x hx;exact eo x h1 h2 h3)
    (λx hx=>by
      obtain⟨h1,h2,h3⟩:=auo x hx
      cases x with
      | bU p =>
        have hp:p≠i:=λz=>h1 (by rw[z])
        show HO.dK _=HO.dK _
        rw[eo (.jc p) (by intro z;cases z) (by intro z;cases z;exact hp rfl) (by intro z;cases z),eo (.jL p) (by intro z;cases z) (by intro z;cases z) (by intro z;cases z;exact hp rfl)]
      | rights=>show HO.lst _=HO.lst _;congr 1;exact List.map_congr_left λd _=>by rw[eo (.rt d) (by intro z;cases z) (by intro z;cases z) (by intro z;cases z)]
      | copies=>show HO.lst _=HO.lst _;congr 1;exact List.map_congr_left λd _=>by rw[eo (.cp d) (by intro z;cases z) (by intro z;cases z) (by intro z;cases z)]
      | ups=>show HO.lst _=HO.lst _;congr 1;exact List.map_congr_left λd _=>by rw[eo (.up d) (by intro z;cases z) (by intro z;cases z) (by intro z;cases z)]
      | downs=>show HO.lst _=HO.lst _;congr 1;exact List.map_congr_left λd _=>by rw[eo (.dn d) (by intro z;cases z) (by intro z;cases z) (by intro z;cases z)]
      | _=>rfl)
    (λx hx=>by
      rcases hx with rfl | rfl | rfl
      ·rw[e1];exact⟨hsf,by rw[c1];show some (HO.dK _)=some (HO.dK _);rw[e2,e3]⟩
      ·rw[e2];exact⟨hr0,c2⟩
      ·rw[e3];exact⟨hq0,c3⟩)
    (λx y hx hy e=>by
      rcases hx with rfl | rfl | rfl<;>rcases hy with rfl | rfl | rfl<;>first
       | rfl
       | (exfalso;rw[e1,e2]at e;exact nsr e) | (exfalso;rw[e1,e3]at e;exact nsq e) | (exfalso;rw[e2,e3]at e;exact nrq e)
       | (exfalso;rw[e2,e1]at e;exact nsr e.symm) | (exfalso;rw[e3,e1]at e;exact nsq e.symm) | (exfalso;rw[e3,e2]at e;exact nrq e.symm))
   rw[hsh]at G6
   refine⟨⟨_,_,rfl⟩,A2',λx hx=>?_,?_⟩
   ·obtain⟨h1,h2,h3⟩:=auo x (.inl hx)
    rw[eo x h1 h2 h3];exact hA' x hx
   ·have ez:((List.range i).map λp=>V.ref (A' (.bU p)))++[.ref sf]=(List.range (i+1)).map λp=>V.ref (A2' (.bU p)):=by
     rw[List.range_succ,List.map_append]
     congr 1
     ·exact List.map_congr_left λp hp=>by rw[eo (.bU p) (by intro z;cases z;exact absurd (List.mem_range.mp hp) (Nat.lt_irrefl _)) (by intro z;cases z) (by intro z;cases z)]
     ·show [V.ref sf]=[V.ref _];rw[e1]
    rw[ez]at G6 ⊢
    refine G6.weak (ok':=λx=>ok8 n x\/∃p,p<i+1/\(x=.bU p\/x=.jc p\/x=.jL p)) (λx hx=>?_) (Or.inl G5.ot) (Or.inl G5.os)
    rcases hx with hx | ⟨p,hp,hx⟩
    ·exact .inl (.inl hx)
    ·by_cases e:p=i
     ·subst e;exact .inr hx
     ·exact .inl (.inr ⟨p,by lia,hx⟩)
  ·rintro σ' H' ⟨⟨o3,o4,rfl⟩,A',hA',G⟩
   rw[List.length_map]at G
   have hk:Ls row wi sh se++[(ks "rights",.ref ar),(ks "copies",.ref ac),(ks "ups",.ref au),(ks "downs",.ref ad)]=tkv A':=by
    rw[hkv]
    unfold tkv
    have o:∀x,ok8 n x->AB x=A' x:=λx hx=>(hA' x hx).symm
    rw[o .row (.inl (.inl (.inl (.inl (.inr (.inl rfl)))))),o .dY (.inl (.inl (.inl (.inl (.inr (.inr (.inl rfl))))))),o .cV (.inl (.inl (.inl (.inl (.inr (.inr (.inr (.inl rfl)))))))),o .sent (.inl (.inl (.inl (.inl (.inr (.inr (.inr (.inr rfl)))))))),o .rights (.inl (.inl (.inl (.inr (.inl rfl))))),o .copies (.inl (.inl (.inr (.inl rfl)))),o .ups (.inl (.inr (.inl rfl))),o .downs (.inr (.inl rfl))]
   rw[hk]at G
   have okF:∀x:Mb,x.ok n ns.length->ok8 n x\/∃p,p<ns.length/\(x=.bU p\/x=.jc p\/x=.jL p):=by
    intro x hx
    cases x with
    | bc=>exact .inl (.inl (.inl (.inl (.inl (.inl rfl)))))
    | row=>exact .inl (.inl (.inl (.inl (.inl (.inr (.inl rfl))))))
    | dY=>exact .inl (.inl (.inl (.inl (.inl (.inr (.inr (.inl rfl)))))))
    | cV=>exact .inl (.inl (.inl (.inl (.inl (.inr (.inr (.inr (.inl rfl))))))))
    | sent=>exact .inl (.inl (.inl (.inl (.inl (.inr (.inr (.inr (.inr rfl))))))))
    | rights=>exact .inl (.inl (.inl (.inl (.inr (.inl rfl)))))
    | copies=>exact .inl (.inl (.inl (.inr (.inl rfl))))
    | ups=>exact .inl (.inl (.inr (.inl rfl)))
    | downs=>exact .inl (.inr (.inl rfl))
    | rt d=>exact .inl (.inl (.inl (.inl (.inr (.inr ⟨d,hx,rfl⟩)))))
    | cp d=>exact .inl (.inl (.inl (.inr (.inr ⟨d,hx,rfl⟩))))
    | up d=>exact .inl (.inl (.inr (.inr ⟨d,hx,rfl⟩)))
    | dn d=>exact .inl (.inr (.inr ⟨d,hx,rfl⟩))
    | bU p=>exact .inr ⟨p,hx,.inl rfl⟩
    | jc p=>exact .inr ⟨p,hx,.inr (.inl rfl)⟩
    | jL p=>exact .inr ⟨p,hx,.inr (.inr rfl)⟩
   have G7:=G.weak (ok':=Mb.ok n ns.length) okF trivial trivial
   have htw:A' .bc=tw:=by rw[hA' _ G5.ot,axo]
   refine⟨_,rfl,?_⟩
   rw[<-htw]
   exact k A' H' G7.mir G7.sm G7.fr
theorem ahg{i j:Int}(h:i=j):decide (V.int i=V.int j)=true:=decide_eq_true (by rw[h])
theorem ahh{i j:Int}(h:i≠j):decide (V.int i=V.int j)=false:=decide_eq_false λz=>h (V.int.inj z)
theorem SN{ns:List Int}{k:Int}(h0:0<=k)(h1:k<(ns.length:Nat)):∃z,Qu (ns.map V.int) k=some (.int z):=by
 obtain⟨j,rfl⟩:∃j:Nat,k=(j:Int):=⟨k.toNat,by lia⟩
 have hj:j<ns.length:=by lia
 exact⟨ns[j],zL (by rw[List.getElem?_map,List.getElem?_eq_getElem hj];rfl)⟩
theorem cB.flat(x:cB):x.d.flat:=by cases x<;>simp[cB.d,D.flat,D.flats]
theorem anH{H:Hp}{b:Addr}{x:cB}(h:H b=some (.tup (cB.vs x))):Rep H (.ref b) x.d:=by
 cases x with
 | look d p=>simp only[cB.d,Rep,aH];exact⟨b,_,rfl,h,_,_,rfl,rfl,_,_,rfl,rfl,_,_,rfl,rfl,rfl⟩
 | put d p n=>simp only[cB.d,Rep,aH];exact⟨b,_,rfl,h,_,_,rfl,rfl,_,_,rfl,rfl,_,_,rfl,rfl,_,_,rfl,rfl,rfl⟩
 | rest d p=>simp only[cB.d,Rep,aH];exact⟨b,_,rfl,h,_,_,rfl,rfl,_,_,rfl,rfl,_,_,rfl,rfl,rfl⟩
 | up d=>simp only[cB.d,Rep,aH];exact⟨b,_,rfl,h,_,_,rfl,rfl,_,_,rfl,rfl,rfl⟩
 | down d=>simp only[cB.d,Rep,aH];exact⟨b,_,rfl,h,_,_,rfl,rfl,_,_,rfl,rfl,rfl⟩
theorem ahi{H:Hp}{v:V}{x:cB}(h:Rep H v x.d):∃b,v=.ref b/\H b=some (.tup (cB.vs x)):=by
 cases x with
 | look d p=>simp only[cB.d,Rep,aH]at h;obtain⟨b,xs,rfl,hb,_,_,rfl,rfl,_,_,rfl,rfl,_,_,rfl,rfl,rfl⟩:=h;exact⟨b,rfl,hb⟩
 | put d p n=>simp only[cB.d,Rep,aH]at h;obtain⟨b,xs,rfl,hb,_,_,rfl,rfl,_,_,rfl,rfl,_,_,rfl,rfl,_,_,rfl,rfl,rfl⟩:=h;exact⟨b,rfl,hb⟩
 | rest d p=>simp only[cB.d,Rep,aH]at h;obtain⟨b,xs,rfl,hb,_,_,rfl,rfl,_,_,rfl,rfl,_,_,rfl,rfl,rfl⟩:=h;exact⟨b,rfl,hb⟩
 | up d=>simp only[cB.d,Rep,aH]at h;obtain⟨b,xs,rfl,hb,_,_,rfl,rfl,_,_,rfl,rfl,rfl⟩:=h;exact⟨b,rfl,hb⟩
 | down d=>simp only[cB.d,Rep,aH]at h;obtain⟨b,xs,rfl,hb,_,_,rfl,rfl,_,_,rfl,rfl,rfl⟩:=h;exact⟨b,rfl,hb⟩
def DL(H:Hp)(vs:List V)(k:Nat):Prop:=∃ds:List cB,aH H vs (ds.map cB.d)/\ds.length<=k
theorem DL.nil(H:Hp):DL H [] 0:=⟨[],by simp[aH],Nat.le_refl _⟩
theorem DL.aZ{H H':Hp}{vs:List V}{k:Nat}(t:cg H H')(h:DL H vs k):DL H' vs k:=by obtain⟨ds,r,l⟩:=h;exact⟨ds,r.aZ t (bY cB.flat _),l⟩
theorem DL.more{H:Hp}{vs:List V}{k j:Nat}(h:DL H vs k)(hk:k<=j):DL H vs j:=by obtain⟨ds,r,l⟩:=h;exact⟨ds,r,Nat.le_trans l hk⟩
theorem DL.append{H:Hp}{vs us:List V}{k j:Nat}(a:DL H vs k)(b:DL H us j):DL H (vs++us) (k+j):=by
 obtain⟨ds,r,l⟩:=a
 obtain⟨es,r',l'⟩:=b
 exact⟨ds++es,by rw[List.map_append];exact r.append r',by rw[List.length_append];lia⟩
theorem DL.cons{H:Hp}{us:List V}{k:Nat}{b:Addr}(x:cB)(h:H b=some (.tup (cB.vs x)))(r:DL H us k):DL H (.ref b::us) (k+1):=by
 obtain⟨ds,r,l⟩:=r
 refine⟨x::ds,?_,by simp;lia⟩
 simp only[List.map_cons,aH]
 exact⟨_,_,rfl,anH h,r⟩
theorem DL.one{H:Hp}{b:Addr}(x:cB)(h:H b=some (.tup (cB.vs x))):DL H [.ref b] 1:=DL.cons x h (DL.nil H)
theorem DL.len{H:Hp}{vs:List V}{k:Nat}(h:DL H vs k):vs.length<=k:=by obtain⟨ds,r,l⟩:=h;rw[r.length,List.length_map];exact l
theorem aqq{H:Hp}{d z fl:Addr}{us zs fs:List V}{Q:VK}{o:Option (Option V)}(ho:o=some (some (.ref fl)))(hd:H d=some (.lst us))(hz:H z=some (.lst zs))(hf:H fl=some (.lst fs))(hl:us.length+zs.length+fs.length<=16000000)
 (k:∀r H',bJ H H'->H r=none->H' r=some (.lst (us++zs++fs))->Q (.ref r) H'):asC (.ref d) (.ref z) H λx H1=>∃v,o=some (some v)/\asC x v H1 Q:=by
 have sl:sizeLine=16777216:=by decide
 refine⟨d,z,us,zs,rfl,rfl,hd,hz,by lia,λp hp=>⟨_,ho,p,fl,_,fs,rfl,rfl,aj,az hp _ _ hf,by rw[List.length_append];lia,λq hq=>?_⟩⟩
 exact k q _ ((az hp).trans (az hq)) (Lv.upd _ hq) aj
def auq:Sp:=λvs H Q _=>∃c:Int,∃m:Nat,vs=[.int c,.int m]/\m<=1000/\∀l (ns:List Int) H',ns.length=m->H l=none->bJ H H'->H' l=some (.lst (ns.map V.int))->Q (.ref l) H'
def aqr:Sp:=λvs H Q _=>∃n:Nat,∃c:Int,vs=[.int n,.int c]/\n<=100/\∀l us H',H l=none->bJ H H'->H' l=some (.lst us)->DL H' us (20*n+100)->Q (.ref l) H'
theorem UG(T:Txt K w mg t):cZ P w K mg base oY 1 t.gb t.rP ["_law_cell","_law_pages"] auq:=by
 refine T.Gm.ok rE (λvs H Q E h=>?_) (λcdv A outer s H vs Q E hr h=>?_)
 ·obtain⟨c,m,rfl,_⟩:=h;rfl
 ·obtain⟨c,m,rfl,hm,k⟩:=h
  have sl:sizeLine=16777216:=by decide
  refine⟨_,(ak (bz (i:=2) rE.nd rfl (Or.inl rfl) (bG fL (bG zK (pv 0) aA) (bG acU aA aA)))
   (ak (bz (i:=3) rE.nd rfl (Or.inr rfl) (bO (aa aA (aa (R6 Ew aA) (aa aA (aa (pv 2) (aa (bG Eu aA (pv 2)) ao)))))))
   (aB (bf (jJ (fM (xs:=["_law_k"]) (ys:=["_law_some","_law_cell"]) (js:=[3,0]) rfl (by decide +kernel) (by decide +kernel) (by decide +kernel) (by rfl) ⟨⟨rfl,Or.inl rfl⟩,⟨⟨rfl,Or.inl rfl⟩,trivial⟩⟩) rfl (gP (by rfl) T.lr (aa (pv 1) ao)) (λ_ _ _ _ _=>(cN (i:=0) (show List.Nodup ((["_law_k"]:List Str)++(["_law_some","_law_cell"]:List Str):List Str)by decide +kernel) rfl (Or.inl rfl))) (λ_ _ _ _ _=>kY) (λ_ _ _ _ _=>(bG jQ (aO (arF (K:=K) (r:=aiu) bF rfl) (pv 1) (bG fL (bG jQ (pv 2) (pv 0)) aA) (λ_ _=>rfl)) (bG zK aA (pv 0))))))))),?_⟩
  try dsimp only[dm,Cx.lu]
  show let Z1:L2.TS:=_;let Z2:L2.TS:=_;let Z3:L2.TS:=_;let D0:Ends:=_;(aR Z1 (aR Z2 (Z3))) D0 _ _
  intro Z1 Z2 Z3 D0
  refine⟨_,rfl,_,_,rfl,rfl,.inr ⟨by decide,by decide⟩,_,_,rfl,rfl,⟨by decide,by decide,by decide⟩,_,_,rfl,rfl,(show(0:Int)<(10:Int) ^ (30:Int).toNat by decide),?_⟩
  refine⟨_,rfl,_,rfl,_,rfl,_,_,rfl,rfl,zz5,λz hz=>?_⟩
  have fact:∃far:Int,bJ H (upd H z (.lst [.int 0,.int (-1),.int 1000000000000,.int (c*48271 % (10:Int) ^ (30:Int).toNat),.int (0 - c*48271 % (10:Int) ^ (30:Int).toNat)]))/\upd H z (.lst [.int 0,.int (-1),.int 1000000000000,.int (c*48271 % (10:Int) ^ (30:Int).toNat),.int (0 - c*48271 % (10:Int) ^ (30:Int).toNat)]) z=some (.lst ([0,-1,1000000000000,far,0 - far].map V.int)):=⟨_,az hz,aj⟩
  obtain⟨far,s1,hz'⟩:=fact
  have go:∀H1:Hp,bJ H H1->H1 z=some (.lst ([0,-1,1000000000000,far,0 - far].map V.int))->∀acc,H1 acc=none->EY (Itr 0 m) (ab2 0) ak4 (W0 (rI0 λi j=>V.int (i+j)) (W0 (aiu K) (jm 1) (W0 (rI (λ_ j=>0<j) λi j=>V.int (i % j)) (W0 (rI0 λi j=>V.int (i+j)) (jm 2) (jm 0)) (tC (V.int 5)))) (W0 (rI al8 λi j=>V.int (i*j)) (tC (V.int 5)) (jm 0))) [none,some (.ref z),some (.int c)] acc H1 Q:=λH1 s1 hz' acc hacc => ?go
  ·refine⟨_,rfl,(m:Int),rfl,(by lia),(by lia),λacc hacc=>?_⟩
   exact go _ s1 hz' acc hacc
  let PV1:Nat->List V->St->Hp->Prop:=λi zs σ' H'=>(∃o,σ'=[o,some (.ref z),some (.int c)])/\bJ H1 H'/\H' acc=some (.lst zs)/\∃ns:List Int,ns.length=i/\zs=ns.map V.int
  refine zQ PV1 ?_ ?_ ?_ ?_
  ·exact⟨⟨_,rfl⟩,az hacc,aj,[],rfl,rfl⟩
  ·rintro i zs σ' H' _ ⟨_,_,h,_⟩;exact h
  ·rintro i zs σ' H' hi ⟨⟨o,rfl⟩,s',ha',ns,hl,rfl⟩
   obtain⟨y,hy⟩:=SN (ns:=[0,-1,1000000000000,far,0 - far]) (k:=(c+(0+(i:Int))) % 5) (by lia) (by show _<((5:Nat):Int);lia)
   refine zR ⟨_,rfl,_,rfl,_,rfl,_,_,rfl,rfl,_,_,rfl,rfl,(show(0:Int)<5 by decide),z,_,_,_,rfl,rfl,bZ.of (s' _ _ hz'),hy,_,rfl,_,_,rfl,rfl,.inl ⟨by decide,by decide⟩,_,_,rfl,rfl,?_⟩
   refine t8.mk hi ha' (by rw[List.length_map];lia) ⟨⟨_,rfl⟩,dX s' hacc,aj,ns++[y+5*(0+(i:Int))],by rw[List.length_append,hl];rfl,by rw[List.map_append];rfl⟩
  ·rintro zs σ' H' ⟨_,s',ha',ns,hl,rfl⟩
   exact k acc ns H' hl (bJ.free s1 hacc) (s1.trans s') ha'
theorem Q4(T:Txt K w mg t):cZ P w K mg base oY 1 t.fJ t.qi ["_law_count","_law_cell"] aqr:=by
 refine T.Cj.ok cU (λvs H Q E h=>?_) (λcdv A outer s H vs Q E hr h=>?_)
 ·obtain⟨n,c,rfl,_⟩:=h;rfl
 ·obtain⟨n,c,rfl,hn,k⟩:=h
  have sl:sizeLine=16777216:=by decide
  refine' ⟨_,?sr,?_⟩
  case' sr=>refine' ak ?Yy ?J7
  case' J7=>refine' ak ?Yz ?J8
  case' J8=>refine' ak ?YB ?J9
  case' J9=>refine' ak ?YC ?YD
  case' YD=>refine' ak ?ahb ?YF
  case' YF=>refine' ak ?ahc ?YG
  case' YG=>refine' ak ?ahd ?ai7
  case' ai7=>refine' ak ?anI ?ai8
  case' ai8=>refine' ak ?anJ ?ai9
  case' ai9=>refine' ak ?anK ?aja
  case' aja=>refine' aB ?ajb
  case' Yy=>exact(bz (i:=2) cU.nd rfl (Or.inl rfl) (bG Eu (pv 0) aA))
  case' Yz=>exact(bz (i:=3) cU.nd rfl (Or.inl rfl) (bO ao))
  case' YB=>refine' tY PassesOwn.never rfl (gP (by rfl) T.lr (aa (pv 0) ao)) (cN (i:=4) cU.nd rfl (Or.inl rfl)) ?anL
  case' anL=>refine' aB ?YH
  case' YH=>exact(bM (eN PySem.F.plainAttrs_list PySem.F.slot_list_extend PySem.F.type_list_extend lX (pv 3) (aa (bO (aa (cu (aa aC (aa (pv 4) ao))) (aa (cu (aa aC (aa (pv 4) ao))) ao))) ao)))
  case' YC=>exact(bz (i:=3) cU.nd rfl (Or.inl rfl) (bG m6 (pv 3) (pv 3)))
  case' ahb=>exact(bz (i:=5) cU.nd rfl (Or.inl rfl) (bO ao))
  case' ahc=>refine' tY PassesOwn.never rfl (gP (by rfl) T.lr (aa (pv 0) ao)) (cN (i:=4) cU.nd rfl (Or.inl rfl)) ?anA
  case' anA=>refine' aB ?ahj
  case' ahj=>exact(bM (eN PySem.F.plainAttrs_list PySem.F.slot_list_extend PySem.F.type_list_extend lX (pv 5) (aa (bO (aa (cu (aa aC (aa (pv 4) (aa aA ao)))) (aa (cu (aa aC (aa (pv 4) ao))) (aa (cu (aa aC (aa (pv 4) ao))) ao)))) ao)))
  case' ahd=>exact(bz (i:=5) cU.nd rfl (Or.inl rfl) (bG m6 (pv 5) (bO (aa (cu (aa aC (aa aA (aa aA ao)))) (aa (cu (aa aC (aa aA (aa aA ao)))) (aa (cu (aa aC (aa aA ao))) (aa (cu (aa aC (aa aA ao))) ao)))))))
  case' anI=>exact(bz (i:=5) cU.nd rfl (Or.inl rfl) (bG m6 (bG m6 (pv 5) (bO (aa (cu (aa aC (aa (pv 2) (aa aA (aa (aO bF (bO (aa aA (aa aA ao))) (bG fL (pv 1) aA) (λ_ _=>rfl)) ao))))) (aa (cu (aa aC (aa (pv 2) ao))) ao)))) (pv 3)))
  case' anJ=>exact(b8 (aU cR (bG fL (bG jH (pv 1) aA) aA) aA (bu _)) (aB (bz (i:=5) cU.nd rfl (Or.inl rfl) (bG m6 (bG m6 (pv 5) (bO (aa (cu (aa aC (aa (pv 2) (aa aA ao)))) ao))) (pv 3)))) bD)
  case' anK=>exact(bz (i:=5) cU.nd rfl (Or.inl rfl) (bG m6 (bG m6 (pv 5) (bO (aa (cu (aa aC (aa aA (aa aA ao)))) (aa (cu (aa aC (aa aA ao))) ao)))) (pv 3)))
  case' ajb=>exact(bf (bG m6 (bG m6 (pv 5) (bO (aa (cu (aa aC (aa aA (aa aA (aa aA ao))))) (aa (cu (aa aC (aa aA ao))) ao)))) (pv 3)))
  try dsimp only[dm,Cx.lu]
  show let Z1:L2.TS:=_;let Z2:L2.TS:=_;let Z3:L2.TS:=_;let Z4:L2.TS:=Ub _ _ Z3;let Z5:L2.TS:=_;let Z6:L2.TS:=_;let Z7:L2.TS:=_;let Z8:L2.TS:=Ub _ _ Z7;let Z9:L2.TS:=_;let Cp:L2.TS:=_;let Nu:L2.TS:=_;let Nv:L2.TS:=di _ Nu bN;let Sy:L2.TS:=_;let SJ:L2.TS:=_;let D0:Ends:=_;(aR Z1 (aR Z2 (aR Z4 (aR Z5 (aR Z6 (aR Z8 (aR Z9 (aR Cp (aR Nv (aR Sy (SJ))))))))))) D0 _ _
  intro Z1 Z2 Z3 Z4 Z5 Z6 Z7 Z8 Z9 Cp Nu Nv Sy SJ D0
  refine⟨_,rfl,_,_,rfl,rfl,?_⟩
  refine⟨Dg,λfl hfl=>?_⟩
  have nb : -(2 ^ 62)<=((n:Nat):Int)/\((n:Nat):Int)<2 ^ 62:=⟨by lia,by lia⟩
  refine⟨_,rfl,(n:Int),rfl,nb.1,nb.2,?_⟩
  rw[Int.toNat_natCast]
  let PV2:Nat->St->Hp->Prop:=λi σ' H'=>(∃o4,σ'=[some (.int n),some (.int c),some (.int ((n:Int) - 1)),some (.ref fl),o4,none])/\bJ H H'/\∃us,H' fl=some (.lst us)/\DL H' us (2*i)
  refine HX PV2 ?_ ?_ ?_
  ·exact⟨⟨_,rfl⟩,az hfl,[],aj,DL.nil _⟩
  ·rintro i σ' H' hi ⟨⟨o4,rfl⟩,s',us,hf',dl⟩
   refine⟨_,rfl,.inl ⟨rfl,_,bZ.of hf'⟩,⟨_,rfl,vC,λb1 h1=>⟨_,rfl,vC,λb2 h2=>⟨vC,λz hz=>?_⟩⟩⟩⟩
   have sa:=((az h1).trans (az h2)).trans (az (o:=.lst [.ref b1,.ref b2]) hz)
   have hlen:=dl.len
   refine⟨fl,z,us,_,rfl,rfl,sa _ _ hf',.inl (bZ.of aj),by simp only[List.length_cons,List.length_nil];lia,?_⟩
   have n12:b1≠b2:=λq=>by rw[<-q,aj]at h2;cases h2
   have c1:(upd (upd H' b1 (.tup [.str "down",.int (0+(i:Int))])) b2 (.tup [.str "up",.int (0+(i:Int))])) b1=some (.tup (cB.down (0+(i:Int))).vs):=by rw[aq n12,aj];rfl
   have c2:(upd (upd H' b1 (.tup [.str "down",.int (0+(i:Int))])) b2 (.tup [.str "up",.int (0+(i:Int))])) b2=some (.tup (cB.up (0+(i:Int))).vs):=by rw[aj];rfl
   have sz:=az (o:=.lst [.ref b1,.ref b2]) hz
   have tl:=jK (vs:=us++[.ref b1,.ref b2]) (sa _ _ hf')
   refine⟨⟨_,rfl⟩,dX (s'.trans sa) hfl,_,aj,?_⟩
   have:=((dl.aZ (bh sa)).append (DL.cons _ (sz _ _ c1) (DL.one _ (sz _ _ c2)))).aZ tl
   exact this.more (by lia)
  ·rintro σ' H1 ⟨⟨o4,rfl⟩,s1,us,hf1,dl1⟩
   have aBS:=dl1.len
   refine⟨_,rfl,_,rfl,fl,fl,us,us,rfl,rfl,hf1,hf1,by lia,λfl2 axq=>?_⟩
   have s2:=s1.trans (az (o:=.lst (us++us)) axq)
   have dl2:DL (upd H1 fl2 (.lst (us++us))) (us++us) (4*n):=((dl1.append dl1).more (by lia)).aZ (bh (az axq))
   have hf2:upd H1 fl2 (.lst (us++us)) fl2=some (.lst (us++us)):=aj
   generalize upd H1 fl2 (.lst (us++us))=H2 at s2 dl2 hf2
   generalize us++us=fs at dl2 hf2
   refine⟨Dg,λde hde=>?_⟩
   have hden:H de=none:=bJ.free s2 hde
   have s3:=az (o:=.lst []) hde
   refine⟨_,rfl,(n:Int),rfl,nb.1,nb.2,?_⟩
   rw[Int.toNat_natCast]
   let PV3:Nat->St->Hp->Prop:=λi σ' H'=>(∃o4,σ'=[some (.int n),some (.int c),some (.int ((n:Int) - 1)),some (.ref fl2),o4,some (.ref de)])/\bJ H2 H'/\∃us,H' de=some (.lst us)/\DL H' us (3*i)
   refine HX PV3 ?_ ?_ ?_
   ·exact⟨⟨_,rfl⟩,s3,[],aj,DL.nil _⟩
   ·rintro i σ' H' hi ⟨⟨o4,rfl⟩,s',us,hf',dl⟩
    refine⟨_,rfl,.inl ⟨rfl,_,bZ.of hf'⟩,⟨_,rfl,zz3,λb1 h1=>⟨_,rfl,vC,λb2 h2=>⟨_,rfl,vC,λb3 h3=>⟨zz3,λz hz=>?_⟩⟩⟩⟩⟩
    have sb2:=az (o:=.tup [.str "up",.int (0+(i:Int))]) h2
    have sb3:=az (o:=.tup [.str "down",.int (0+(i:Int))]) h3
    have sz:=az (o:=.lst [.ref b1,.ref b2,.ref b3]) hz
    have sa:=(((az h1).trans sb2).trans sb3).trans sz
    have hlen:=dl.len
    have c1:=sz _ _ (sb3 _ _ (sb2 _ _ (show upd H' b1 (.tup [.str "look",.int (0+(i:Int)),.int 0]) b1=some (.tup (cB.look (0+(i:Int)) 0).vs)from aj)))
    have c2:=sz _ _ (sb3 _ _ (show _=some (.tup (cB.up (0+(i:Int))).vs)from aj))
    have c3:=sz _ _ (show _=some (.tup (cB.down (0+(i:Int))).vs)from aj)
    refine⟨de,z,us,_,rfl,rfl,sa _ _ hf',.inl (bZ.of aj),by simp only[List.length_cons,List.length_nil];lia,?_⟩
    have tl:=jK (vs:=us++[.ref b1,.ref b2,.ref b3]) (sa _ _ hf')
    refine⟨⟨_,rfl⟩,dX (s'.trans sa) hde,_,aj,?_⟩
    have:=((dl.aZ (bh sa)).append (DL.cons _ c1 (DL.cons _ c2 (DL.one _ c3)))).aZ tl
    exact this.more (by lia)
   ·rintro σ' H3 ⟨⟨o4,rfl⟩,s3',us3,hd3,dl3⟩
    have hf3:=s3' _ _ hf2
    have axs:=dl2.aZ (bh s3')
    have s03:=s2.trans s3'
    have hl3:=dl3.len
    refine⟨_,rfl,⟨zz3,λb1 h1=>⟨zz3,λb2 h2=>⟨vC,λb3 h3=>⟨vC,λb4 h4=>⟨zz4,λz hz=>?_⟩⟩⟩⟩⟩⟩
    have sb2:=az (o:=.tup [.str "look",.int 0,.int 0]) h2
    have sb3:=az (o:=.tup [.str "up",.int 0]) h3
    have sb4:=az (o:=.tup [.str "down",.int 0]) h4
    have sz:=az (o:=.lst [.ref b1,.ref b2,.ref b3,.ref b4]) hz
    have sa:=((((az h1).trans sb2).trans sb3).trans sb4).trans sz
    have c1:=sz _ _ (sb4 _ _ (sb3 _ _ (sb2 _ _ (show upd H3 b1 (.tup [.str "rest",.int 0,.int 0]) b1=some (.tup (cB.rest 0 0).vs)from aj))))
    have c2:=sz _ _ (sb4 _ _ (sb3 _ _ (show _=some (.tup (cB.look 0 0).vs)from aj)))
    have c3:=sz _ _ (sb4 _ _ (show _=some (.tup (cB.up 0).vs)from aj))
    have c4:=sz _ _ (show _=some (.tup (cB.down 0).vs)from aj)
    refine⟨de,z,us3,_,rfl,rfl,sa _ _ hd3,aj,by simp only[List.length_cons,List.length_nil];lia,λd4 hd4=>?_⟩
    have s4:=az (o:=.lst (us3++[.ref b1,.ref b2,.ref b3,.ref b4])) hd4
    have dl4:=((dl3.aZ (bh sa)).append (DL.cons _ c1 (DL.cons _ c2 (DL.cons _ c3 (DL.one _ c4))))).aZ (bh s4)
    have anM:=axs.aZ (bh (sa.trans s4))
    have hf4:=(sa.trans s4) _ _ hf3
    have s04:=s03.trans (sa.trans s4)
    have aqw:upd (upd (upd (upd (upd (upd H3 b1 (.tup [.str "rest",.int 0,.int 0])) b2 (.tup [.str "look",.int 0,.int 0])) b3 (.tup [.str "up",.int 0])) b4 (.tup [.str "down",.int 0])) z (.lst [.ref b1,.ref b2,.ref b3,.ref b4])) d4 (.lst (us3++[.ref b1,.ref b2,.ref b3,.ref b4])) d4=some (.lst (us3++[.ref b1,.ref b2,.ref b3,.ref b4])):=aj
    generalize upd (upd (upd (upd (upd (upd H3 b1 (.tup [.str "rest",.int 0,.int 0])) b2 (.tup [.str "look",.int 0,.int 0])) b3 (.tup [.str "up",.int 0])) b4 (.tup [.str "down",.int 0])) z (.lst [.ref b1,.ref b2,.ref b3,.ref b4])) d4 (.lst (us3++[.ref b1,.ref b2,.ref b3,.ref b4]))=H4 at dl4 anM hf4 s04 aqw
    generalize us3++[.ref b1,.ref b2,.ref b3,.ref b4]=u4 at dl4 aqw
    clear sb2 sb3 sb4 sz sa c1 c2 c3 c4 s4 h1 h2 h3 h4 hz hd4 dl3 axs hf3 s03 hd3 s3' hl3
    have hl4:=dl4.len
    have hlf:=anM.len
    have hpk:∃x:Int,Qu ([V.int 0,V.int 5]:List V) (c % 2)=some (.int x):=by
     have:c % 2=0\/c % 2=1:=by lia
     rcases this with e | e<;>rw[e]<;>exact⟨_,rfl⟩
    obtain⟨px,hpx⟩:=hpk
    refine⟨_,rfl,_,rfl,⟨vC,λy hy=>⟨_,rfl,_,_,rfl,rfl,(show(0:Int)<2 by decide),y,_,_,_,rfl,rfl,bZ.of aj,hpx,zz4,λb1 h1=>⟨_,rfl,vC,λb2 h2=>⟨vC,λz hz=>?_⟩⟩⟩⟩⟩
    have sy:=az (o:=.lst [.int 0,.int 5]) hy
    have sb1:=az (o:=.tup [.str "put",.int ((n:Int) - 1),.int 0,.int px]) h1
    have sb2:=az (o:=.tup [.str "up",.int ((n:Int) - 1)]) h2
    have sz:=az (o:=.lst [.ref b1,.ref b2]) hz
    have sa:=((sy.trans sb1).trans sb2).trans sz
    have c1:=sz _ _ (sb2 _ _ (show _=some (.tup (cB.put ((n:Int) - 1) 0 px).vs)from aj))
    have c2:=sz _ _ (show _=some (.tup (cB.up ((n:Int) - 1)).vs)from aj)
    refine aqq rfl (sa _ _ aqw) aj (sa _ _ hf4) (by simp only[List.length_cons,List.length_nil];lia) λd5 H5 s5 hd5 aus=>?_
    have dl5:DL H5 _ _:=(((dl4.aZ (bh sa)).append (DL.cons _ c1 (DL.one _ c2))).append (anM.aZ (bh sa))).aZ (bh s5)
    have aut:=anM.aZ (bh (sa.trans s5))
    have hf5:=(sa.trans s5) _ _ hf4
    have s05:=s04.trans (sa.trans s5)
    generalize (u4++[.ref b1,.ref b2])++fs=u5 at dl5 aus
    clear sy sb1 sb2 sz sa c1 c2 s5 hy h1 h2 hz hd5 dl4 anM hf4 s04 aqw hl4
    have hl5:=dl5.len
    try dsimp only[bN]
    refine gf (λσ' H'=>∃o4 d6 us6,σ'=[some (.int n),some (.int c),some (.int ((n:Int) - 1)),some (.ref fl2),o4,some (.ref d6)]/\bJ H H'/\H' fl2=some (.lst fs)/\DL H' fs (4*n)/\H' d6=some (.lst us6)/\DL H' us6 (11*n+20)) (λN hN=>?_) ?_
    ·refine⟨_,rfl,_,_,rfl,rfl,⟨by decide,by decide⟩,_,_,rfl,rfl,(show(0:Int)<3 by decide),rfl,_,rfl,?_⟩
     by_cases e:c / 2 % 3=1
     ·refine bI (ahg e) ?_
      refine⟨_,rfl,⟨_,rfl,zz3,λb1 h1=>⟨zz1,λz hz=>?_⟩⟩⟩
      have sb1:=az (o:=.tup [.str "rest",.int ((n:Int) - 1),.int 0]) h1
      have sz:=az (o:=.lst [.ref b1]) hz
      have sa:=sb1.trans sz
      have c1:=sz _ _ (show _=some (.tup (cB.rest ((n:Int) - 1) 0).vs)from aj)
      refine aqq rfl (sa _ _ aus) aj (sa _ _ hf5) (by simp only[List.length_cons,List.length_nil];lia) λd6 H6 s6 hd6 aAw=>?_
      have dl6:DL H6 _ _:=(((dl5.aZ (bh sa)).append (DL.one _ c1)).append (aut.aZ (bh sa))).aZ (bh s6)
      exact hN _ _ ⟨_,d6,_,rfl,s05.trans (sa.trans s6),(sa.trans s6) _ _ hf5,aut.aZ (bh (sa.trans s6)),aAw,dl6.more (by lia)⟩
     ·refine aP (ahh e) ?_
      exact hN _ _ ⟨_,d5,_,rfl,s05,hf5,aut,aus,dl5.more (by lia)⟩
    ·rintro σ' H6 ⟨o4',d6,us6,rfl,s06,hf6,axv,hd6,dl6⟩
     have hl6:=dl6.len
     refine⟨_,rfl,⟨zz3,λb1 h1=>⟨vC,λb2 h2=>⟨vC,λz hz=>?_⟩⟩⟩⟩
     have sb1:=az (o:=.tup [.str "look",.int 0,.int 0]) h1
     have sb2:=az (o:=.tup [.str "up",.int 0]) h2
     have sz:=az (o:=.lst [.ref b1,.ref b2]) hz
     have sa:=(sb1.trans sb2).trans sz
     have c1:=sz _ _ (sb2 _ _ (show _=some (.tup (cB.look 0 0).vs)from aj))
     have c2:=sz _ _ (show _=some (.tup (cB.up 0).vs)from aj)
     refine aqq rfl (sa _ _ hd6) aj (sa _ _ hf6) (by simp only[List.length_cons,List.length_nil];lia) λd7 H7 s7 hd7 aAx=>?_
     have dl7:DL H7 _ _:=(((dl6.aZ (bh sa)).append (DL.cons _ c1 (DL.one _ c2))).append (axv.aZ (bh sa))).aZ (bh s7)
     have aAy:=axv.aZ (bh (sa.trans s7))
     have hf7:=(sa.trans s7) _ _ hf6
     have s07:=s06.trans (sa.trans s7)
     have hl7:=dl7.len
     clear sb1 sb2 sz sa c1 c2 s7 h1 h2 hz hd7
     refine⟨_,rfl,⟨zz4,λe1 h1=>⟨vC,λe2 h2=>⟨vC,λz2 hz=>?_⟩⟩⟩⟩
     have sb1:=az (o:=.tup [.str "put",.int 0,.int 0,.int 7]) h1
     have sb2:=az (o:=.tup [.str "up",.int 0]) h2
     have sz:=az (o:=.lst [.ref e1,.ref e2]) hz
     have sa:=(sb1.trans sb2).trans sz
     have c1:=sz _ _ (sb2 _ _ (show _=some (.tup (cB.put 0 0 7).vs)from aj))
     have c2:=sz _ _ (show _=some (.tup (cB.up 0).vs)from aj)
     refine aqq rfl (sa _ _ aAx) aj (sa _ _ hf7) (by simp only[List.length_cons,List.length_nil];lia) λd8 H8 s8 hd8 aAz=>?_
     have dl8:DL H8 _ _:=(((dl7.aZ (bh sa)).append (DL.cons _ c1 (DL.one _ c2))).append (aAy.aZ (bh sa))).aZ (bh s8)
     exact k d8 _ H8 (bJ.free (s07.trans sa) hd8) (s07.trans (sa.trans s8)) aAz (dl8.more (by lia))
def aqz:Sp:=λvs H Q _=>∃l,∃n m:Nat,∃cs:List Int,vs=[.ref l,.int n,.int m]/\H l=some (.lst (cs.map V.int))/\0<n/\n<=100/\0<m/\m<=100/\cs.length<=100/\
 ∀r us H',H r=none->bJ H H'->H' r=some (.lst us)->DL H' us 400->Q (.ref r) H'
def xR:List V:=[.str "look",.str "put",.str "up",.str "down",.str "put",.str "look",.str "rest",.str "down"]
theorem anO{j:Int}(h0:0<=j)(h1:j<8):∃s:Str,Qu xR j=some (.str s)/\(s="put"\/s="look"\/s="rest"\/s="up"\/s="down"):=by
 have:j=0\/j=1\/j=2\/j=3\/j=4\/j=5\/j=6\/j=7:=by lia
 rcases this with rfl | rfl | rfl | rfl | rfl | rfl | rfl | rfl
 ·exact⟨_,rfl,.inr (.inl rfl)⟩
 ·exact⟨_,rfl,.inl rfl⟩
 ·exact⟨_,rfl,.inr (.inr (.inr (.inl rfl)))⟩
 ·exact⟨_,rfl,.inr (.inr (.inr (.inr rfl)))⟩
 ·exact⟨_,rfl,.inl rfl⟩
 ·exact⟨_,rfl,.inr (.inl rfl)⟩
 ·exact⟨_,rfl,.inr (.inr (.inl rfl))⟩
 ·exact⟨_,rfl,.inr (.inr (.inr (.inr rfl)))⟩
set_option maxHeartbeats 8000000 in
theorem aa5(T:Txt K w mg t):cZ P w K mg base oY 1 t.iW t.xJ ["_law_cells","_law_count","_law_pages"] aqz:=by
 refine T.Nk.ok cA (λvs H Q E h=>?_) (λcdv A outer s H vs Q E hr h=>?_)
 ·obtain⟨l,n,m,cs,rfl,_⟩:=h;rfl
 ·obtain⟨l,n,m,cs,rfl,hl,hn0,hn,hm0,hm,hcs,k⟩:=h
  have sl:sizeLine=16777216:=by decide
  refine' ⟨_,?sr,?_⟩
  case' sr=>refine' ak ?Yy ?J7
  case' J7=>refine' ak ?Yz ?J8
  case' J8=>refine' ak ?YB ?J9
  case' J9=>refine' aB ?YC
  case' Yy=>exact(bz (i:=3) cA.nd rfl (Or.inl rfl) (bO (aa aC (aa aC (aa aC (aa aC (aa aC (aa aC (aa aC (aa aC ao))))))))))
  case' Yz=>exact(bz (i:=4) cA.nd rfl (Or.inl rfl) (bO ao))
  case' YB=>refine' tY PassesOwn.never rfl (gP (by rfl) T.lr (aa (bG jH (dI dJ (by rfl) T.yU PySem.boot_len (aa (pv 0) ao)) aA) ao)) (cN (i:=5) cA.nd rfl (Or.inl rfl)) ?anL
  case' anL=>refine' ak ?YH ?YJ
  case' YJ=>refine' ak ?ahe ?auu
  case' auu=>refine' ak ?axw ?auv
  case' auv=>refine' ak ?axx ?auw
  case' auw=>refine' ak ?axy ?auy
  case' auy=>refine' ak ?axz ?auz
  case' auz=>refine' ak ?axA ?auA
  case' auA=>refine' ak ?axB ?auB
  case' auB=>refine' ak ?axC ?auC
  case' auC=>refine' aB ?axD
  case' YH=>exact(bz (i:=6) cA.nd rfl (Or.inl rfl) (bG jQ (bG jH (aO bF (pv 0) (bG zK aA (pv 5)) (λ_ _=>rfl)) aA) (pv 5)))
  case' ahe=>exact(bz (i:=7) cA.nd rfl (Or.inl rfl) (bG jQ (aO bF (pv 0) (bG jQ (bG zK aA (pv 5)) aA) (λ_ _=>rfl)) (pv 5)))
  case' axw=>exact(bz (i:=8) cA.nd rfl (Or.inl rfl) (bG jQ (aO bF (pv 0) (bG jQ (bG zK aA (pv 5)) aA) (λ_ _=>rfl)) (pv 5)))
  case' axx=>exact(bz (i:=9) cA.nd rfl (Or.inl rfl) (aO bF (pv 3) (bG fL (bG jQ (aO bF (pv 0) (bG zK aA (pv 5)) (λ_ _=>rfl)) (bG zK aA (pv 5))) aA) (λ_ _=>rfl)))
  case' axy=>exact(bz (i:=10) cA.nd rfl (Or.inl rfl) (bG fL (pv 6) (pv 1)))
  case' axz=>exact(bz (i:=11) cA.nd rfl (Or.inl rfl) (bG fL (pv 7) (pv 2)))
  case' axA=>refine' b8 (aU cR (bG fL (bG jH (pv 8) aA) aA) aA (bu _)) ?axE ?axF
  case' axE=>refine' ak ?ahj ?auD
  case' auD=>refine' aB ?axG
  case' ahj=>exact(bz (i:=12) cA.nd rfl (Or.inl rfl) (bG fL (pv 6) (bG acU aA aA)))
  case' axG=>exact(bz (i:=10) cA.nd rfl (Or.inl rfl) (aO bF (bO (aa (R6 Ew aA) (aa (pv 1) (aa aA (aa (bG Eu (R6 Ew aA) (pv 12)) (aa (bG jQ (pv 1) (pv 12)) ao)))))) (bG fL (pv 6) aA) (λ_ _=>rfl)))
  case' axF=>exact bD
  case' axB=>refine' b8 (aU cR (bG fL (bG jH (pv 8) aA) aA) aA (bu _)) ?axH ?axI
  case' axH=>refine' ak ?anP ?auE
  case' auE=>refine' aB ?axJ
  case' anP=>exact(bz (i:=12) cA.nd rfl (Or.inl rfl) (bG fL (pv 7) (bG acU aA aA)))
  case' axJ=>exact(bz (i:=11) cA.nd rfl (Or.inl rfl) (aO bF (bO (aa (R6 Ew aA) (aa (pv 2) (aa aA (aa (bG Eu (R6 Ew aA) (pv 12)) (aa (bG jQ (pv 2) (pv 12)) ao)))))) (bG fL (pv 7) aA) (λ_ _=>rfl)))
  case' axI=>exact bD
  case' axC=>refine' b8 (aU cR (pv 9) aC (bu _)) ?axK ?axL
  case' axK=>refine' ak ?axM ?auF
  case' auF=>refine' ak ?axN ?auG
  case' auG=>refine' ak ?axO ?auH
  case' auH=>refine' ak ?axP ?auI
  case' auI=>refine' aB ?axQ
  case' axM=>exact(bz (i:=13) cA.nd rfl (Or.inl rfl) (bG Eu (bG fL (bG jQ (bG jH (pv 7) aA) (bG zK aA (pv 5))) aA) aA))
  case' axN=>refine' b8 (aU aru (pv 13) aA (bu _)) ?axR ?axS
  case' axR=>refine' aB ?axT
  case' axT=>exact(bz (i:=13) cA.nd rfl (Or.inl rfl) aA)
  case' axS=>refine' aB ?axU
  case' axU=>exact(b8 (aU aru (pv 13) aA (bu _)) (aB (bz (i:=13) cA.nd rfl (Or.inl rfl) (bG jQ aA (pv 13)))) bD)
  case' axO=>exact(bz (i:=14) cA.nd rfl (Or.inl rfl) (bG fL (bG zK (pv 7) aA) (bG acU aA aA)))
  case' axP=>exact(bz (i:=13) cA.nd rfl (Or.inl rfl) (aO bF (bO (aa (pv 13) (aa (pv 13) (aa (pv 14) (aa (bG Eu aA (pv 14)) ao))))) (bG fL (pv 6) aA) (λ_ _=>rfl)))
  case' axQ=>exact(bM (eN PySem.F.plainAttrs_list PySem.F.slot_list_append PySem.F.type_list_append cD (pv 4) (aa (cu (aa (pv 9) (aa (pv 10) (aa (pv 11) (aa (pv 13) ao))))) ao)))
  case' axL=>refine' aB ?axV
  case' axV=>refine' b8 (PW.pt (vH (aU cR (pv 9) aC (bu _)) (pP (aU cR (pv 9) aC (bu _))))) ?axW ?axX
  case' axW=>refine' ak ?axY ?auJ
  case' auJ=>refine' aB ?axZ
  case' axY=>exact(bM (eN PySem.F.plainAttrs_list PySem.F.slot_list_append PySem.F.type_list_append cD (pv 4) (aa (cu (aa (pv 9) (aa (pv 10) (aa (pv 11) ao)))) ao)))
  case' axZ=>exact(b8 (PW.pt (Qp (aU cR (pv 9) aC (bu _)) (Lx (aU cR (bG fL (bG jH (pv 7) aA) aA) aA (bu _))))) (aB (bM (eN PySem.F.plainAttrs_list PySem.F.slot_list_append PySem.F.type_list_append cD (pv 4) (aa (cu (aa aC (aa (pv 10) (aa (pv 11) ao)))) ao)))) bD)
  case' axX=>refine' aB ?auK
  case' auK=>exact(bM (eN PySem.F.plainAttrs_list PySem.F.slot_list_append PySem.F.type_list_append cD (pv 4) (aa (cu (aa (pv 9) (aa (pv 10) ao))) ao)))
  case' axD=>refine' b8 (aU ab3 (bG fL (pv 8) aA) aA (bu _)) ?ax0 ?ax1
  case' ax0=>refine' ak ?auL ?aqA
  case' aqA=>refine' aB ?auM
  case' auL=>exact(bM (eN PySem.F.plainAttrs_list PySem.F.slot_list_append PySem.F.type_list_append cD (pv 4) (aa (cu (aa aC (aa (bG fL (pv 8) (pv 1)) ao))) ao)))
  case' auM=>exact(bM (eN PySem.F.plainAttrs_list PySem.F.slot_list_append PySem.F.type_list_append cD (pv 4) (aa (cu (aa aC (aa (bG fL (bG jQ (bG jH (pv 8) aA) (pv 5)) (pv 1)) ao))) ao)))
  case' ax1=>exact bD
  case' YC=>exact(bf (pv 4))
  try dsimp only[dm,Cx.lu]
  show let Z1:L2.TS:=_;let Z2:L2.TS:=_;let Z3:L2.TS:=_;let Z4:L2.TS:=_;let Z5:L2.TS:=_;let Z6:L2.TS:=_;let Z7:L2.TS:=_;let Z8:L2.TS:=_;let Z9:L2.TS:=_;let Cp:L2.TS:=_;let Nu:L2.TS:=aR Z9 (Cp);let Nv:L2.TS:=di _ Nu bN;let Sy:L2.TS:=_;let SJ:L2.TS:=_;let Z15:L2.TS:=aR Sy (SJ);let Z16:L2.TS:=di _ Z15 bN;let Z17:L2.TS:=_;let Z18:L2.TS:=_;let Z19:L2.TS:=_;let Z20:L2.TS:=di _ Z19 bN;let Z21:L2.TS:=di _ Z18 Z20;let Z22:L2.TS:=_;let Z23:L2.TS:=_;let Z24:L2.TS:=_;let Z25:L2.TS:=aR Z17 (aR Z21 (aR Z22 (aR Z23 (Z24))));let Z26:L2.TS:=_;let Z27:L2.TS:=_;let Z28:L2.TS:=di _ Z27 bN;let Z29:L2.TS:=aR Z26 (Z28);let Z30:L2.TS:=_;let Z31:L2.TS:=di _ Z29 Z30;let Z32:L2.TS:=di _ Z25 Z31;let Z33:L2.TS:=_;let Z34:L2.TS:=_;let Z35:L2.TS:=aR Z33 (Z34);let Z36:L2.TS:=di _ Z35 bN;let Z37:L2.TS:=aR Z3 (aR Z4 (aR Z5 (aR Z6 (aR Z7 (aR Z8 (aR Nv (aR Z16 (aR Z32 (Z36)))))))));let Z38:L2.TS:=Ub _ _ Z37;let Z39:L2.TS:=_;let D0:Ends:=_;(aR Z1 (aR Z2 (aR Z38 (Z39)))) D0 _ _
  intro Z1 Z2 Z3 Z4 Z5 Z6 Z7 Z8 Z9 Cp Nu Nv Sy SJ Z15 Z16 Z17 Z18 Z19 Z20 Z21 Z22 Z23 Z24 Z25 Z26 Z27 Z28 Z29 Z30 Z31 Z32 Z33 Z34 Z35 Z36 Z37 Z38 Z39 D0
  refine⟨zz8,λwl hwl=>⟨Dg,λas has=>?_⟩⟩
  have sw:=az (o:=.lst xR) hwl
  have nwa:wl≠as:=λz=>by rw[<-z,aj]at has;cases has
  have ax4:H as=none:=Lv.upd _ has
  have s0:bJ H (upd (upd H wl (.lst xR)) as (.lst [])):=sw.trans (az has)
  have hw0:upd (upd H wl (.lst xR)) as (.lst []) wl=some (.lst xR):=by rw[aq nwa,aj]
  refine⟨_,rfl,l,_,rfl,.inl (bZ.of (s0 _ _ hl)),_,_,rfl,rfl,⟨by decide,by decide⟩,((cs.length / 3:Nat):Int),by rw[List.length_map];rfl,(by lia),(by lia),?_⟩
  rw[Int.toNat_natCast]
  let PV1:Nat->St->Hp->Prop:=λi σ' H'=>(∃o5 o6 o7 o8 o9 o10 o11 o12 o13 o14,σ'=[some (.ref l),some (.int n),some (.int m),some (.ref wl),some (.ref as),o5,o6,o7,o8,o9,o10,o11,o12,o13,o14])/\bJ H H'/\H' wl=some (.lst xR)/\∃us,H' as=some (.lst us)/\DL H' us (4*i)
  refine HX PV1 ?_ ?_ ?_
  ·exact⟨⟨_,_,_,_,_,_,_,_,_,_,rfl⟩,s0,hw0,[],aj,DL.nil _⟩
  ·rintro i σ' H' hi ⟨⟨o5,o6,o7,o8,o9,o10,o11,o12,o13,o14,rfl⟩,s',hw',us,ha',dl⟩
   have hl':=s' _ _ hl
   have hul:=dl.len
   obtain⟨x0,hx0⟩:=SN (ns:=cs) (k:=3*(0+(i:Int))) (by lia) (by lia)
   obtain⟨x1,hx1⟩:=SN (ns:=cs) (k:=3*(0+(i:Int))+1) (by lia) (by lia)
   obtain⟨x2,hx2⟩:=SN (ns:=cs) (k:=3*(0+(i:Int))+2) (by lia) (by lia)
   obtain⟨wd0,hwd,hwo⟩:=anO (j:=(x0+3*(0+(i:Int))) % 8) (by lia) (by lia)
   have M5:al8 3 (0+(i:Int)):=.inl ⟨by decide,by decide⟩
   refine⟨_,rfl,_,rfl,_,_,rfl,rfl,M5,l,_,_,_,rfl,rfl,bZ.of hl',hx0,_,_,rfl,rfl,⟨by decide,by decide⟩,_,rfl,_,_,rfl,rfl,?_⟩
   refine⟨_,rfl,_,rfl,_,_,rfl,rfl,M5,_,_,rfl,rfl,l,_,_,_,rfl,rfl,bZ.of hl',hx1,_,rfl,_,_,rfl,rfl,?_⟩
   refine⟨_,rfl,_,rfl,_,_,rfl,rfl,M5,_,_,rfl,rfl,l,_,_,_,rfl,rfl,bZ.of hl',hx2,_,rfl,_,_,rfl,rfl,?_⟩
   refine⟨_,rfl,_,rfl,_,rfl,_,_,rfl,rfl,M5,l,_,_,_,rfl,rfl,bZ.of hl',hx0,_,rfl,_,_,rfl,rfl,M5,_,_,rfl,rfl,_,_,rfl,rfl,(show(0:Int)<8 by decide),wl,_,_,_,rfl,rfl,bZ.of hw',hwd,?_⟩
   refine⟨_,rfl,_,rfl,_,_,rfl,rfl,(show(0:Int)<n by lia),?_⟩
   refine⟨_,rfl,_,rfl,_,_,rfl,rfl,(show(0:Int)<m by lia),?_⟩
   have P30:(0:Int)<(10:Int) ^ (30:Int).toNat:=by decide
   try dsimp only[bN]
   refine gf (λσ' H''=>∃dk p12,σ'=[some (.ref l),some (.int n),some (.int m),some (.ref wl),some (.ref as),some (.int (0+(i:Int))),some (.int (x0 / 8+(0+(i:Int)))),some (.int (x1+(0+(i:Int)))),some (.int (x2+(0+(i:Int)))),some (.str wd0),some (.int dk),some (.int ((x1+(0+(i:Int))) % (m:Int))),p12,o13,o14]/\bJ H' H'') (λN hN=>?_) ?_
   ·refine⟨_,rfl,_,_,rfl,rfl,⟨by decide,by decide⟩,_,_,rfl,rfl,(show(0:Int)<16 by decide),rfl,_,rfl,?_⟩
    by_cases e:(x2+(0+(i:Int))) / 16 % 16=7
    ·refine bI (ahg e) ?_
     refine⟨_,rfl,_,_,rfl,rfl,⟨by decide,by decide,by decide⟩,_,_,rfl,rfl,P30,?_⟩
     obtain⟨y,hy⟩:=SN (ns:=[-1,(n:Int),1000000000000,-2 - (x0 / 8+(0+(i:Int))) % (10:Int) ^ (30:Int).toNat,(n:Int)+(x0 / 8+(0+(i:Int))) % (10:Int) ^ (30:Int).toNat]) (k:=(x0 / 8+(0+(i:Int))) % 5) (by lia) (by show _<((5:Nat):Int);lia)
     refine⟨_,rfl,_,rfl,_,rfl,_,rfl,_,_,rfl,rfl,_,rfl,_,rfl,_,_,rfl,rfl,zz5,λz hz=>⟨_,rfl,_,_,rfl,rfl,(show(0:Int)<5 by decide),z,_,_,_,rfl,rfl,bZ.of aj,hy,?_⟩⟩
     exact hN _ _ ⟨_,_,rfl,az hz⟩
    ·refine aP (ahh e) ?_
     exact hN _ _ ⟨_,_,rfl,bJ.refl _⟩
   rintro σ' H1 ⟨dk,p12,rfl,s1⟩
   try dsimp only[bN]
   refine gf (λσ' H''=>∃pg q12,σ'=[some (.ref l),some (.int n),some (.int m),some (.ref wl),some (.ref as),some (.int (0+(i:Int))),some (.int (x0 / 8+(0+(i:Int)))),some (.int (x1+(0+(i:Int)))),some (.int (x2+(0+(i:Int)))),some (.str wd0),some (.int dk),some (.int pg),q12,o13,o14]/\bJ H' H'') (λN hN=>?_) ?_
   ·refine⟨_,rfl,_,_,rfl,rfl,⟨by decide,by decide⟩,_,_,rfl,rfl,(show(0:Int)<16 by decide),rfl,_,rfl,?_⟩
    by_cases e:(x2+(0+(i:Int))) / 16 % 16=11
    ·refine bI (ahg e) ?_
     refine⟨_,rfl,_,_,rfl,rfl,⟨by decide,by decide,by decide⟩,_,_,rfl,rfl,P30,?_⟩
     obtain⟨y,hy⟩:=SN (ns:=[-1,(m:Int),1000000000000,-2 - (x1+(0+(i:Int))) % (10:Int) ^ (30:Int).toNat,(m:Int)+(x1+(0+(i:Int))) % (10:Int) ^ (30:Int).toNat]) (k:=(x1+(0+(i:Int))) % 5) (by lia) (by show _<((5:Nat):Int);lia)
     refine⟨_,rfl,_,rfl,_,rfl,_,rfl,_,_,rfl,rfl,_,rfl,_,rfl,_,_,rfl,rfl,zz5,λz hz=>⟨_,rfl,_,_,rfl,rfl,(show(0:Int)<5 by decide),z,_,_,_,rfl,rfl,bZ.of aj,hy,?_⟩⟩
     exact hN _ _ ⟨_,_,rfl,s1.trans (az hz)⟩
    ·refine aP (ahh e) ?_
     exact hN _ _ ⟨_,_,rfl,s1⟩
   rintro σ' H2 ⟨pg,q12,rfl,s2⟩
   have ha2:=s2 _ _ ha'
   have dl2:=dl.aZ (bh s2)
   have s02:=s'.trans s2
   have hw2:=s2 _ _ hw'
   have one:∀(H3:Hp) (x:cB) (b:Addr) (us3:List V) (j:Nat),bJ H H3->H3 wl=some (.lst xR)->H3 as=some (.lst us3)->DL H3 us3 j->H3 b=none->bJ H (upd (upd H3 b (.tup x.vs)) as (.lst (us3++[.ref b])))/\upd (upd H3 b (.tup x.vs)) as (.lst (us3++[.ref b])) wl=some (.lst xR)/\DL (upd (upd H3 b (.tup x.vs)) as (.lst (us3++[.ref b]))) (us3++[.ref b]) (j+1):=λH3 x b us3 j s3 hw3 ha3 dl3 hb=>by
    have sb:=az (o:=.tup x.vs) hb
    have nwb:wl≠b:=aF hw3 hb
    refine⟨dX (s3.trans sb) ax4,by rw[aq nwa,aq nwb];exact hw3,?_⟩
    have tl:=jK (vs:=us3++[.ref b]) (sb _ _ ha3)
    exact((dl3.aZ (bh sb)).append (DL.one x aj)).aZ tl
   try dsimp only[bN]
   refine gf (λσ' H''=>∃p13 p14 us2,σ'=[some (.ref l),some (.int n),some (.int m),some (.ref wl),some (.ref as),some (.int (0+(i:Int))),some (.int (x0 / 8+(0+(i:Int)))),some (.int (x1+(0+(i:Int)))),some (.int (x2+(0+(i:Int)))),some (.str wd0),some (.int dk),some (.int pg),q12,p13,p14]/\bJ H H''/\H'' wl=some (.lst xR)/\H'' as=some (.lst us2)/\DL H'' us2 (4*i+2)) (λN hN=>?_) ?_
   ·refine⟨_,rfl,rfl,_,rfl,?_⟩
    rcases hwo with e | e | e | e | e
    ·subst e
     refine bI fK ?_
     refine⟨_,rfl,_,_,rfl,rfl,⟨by decide,by decide⟩,_,rfl,_,_,rfl,rfl,.inl ⟨by decide,by decide⟩,_,_,rfl,rfl,_,_,rfl,rfl,(show(0:Int)<120 by decide),_,_,rfl,rfl,?_⟩
     try dsimp only[bN]
     refine gf (λσ' H''=>∃nb,σ'=[some (.ref l),some (.int n),some (.int m),some (.ref wl),some (.ref as),some (.int (0+(i:Int))),some (.int (x0 / 8+(0+(i:Int)))),some (.int (x1+(0+(i:Int)))),some (.int (x2+(0+(i:Int)))),some (.str "put"),some (.int dk),some (.int pg),q12,some (.int nb),o14]/\H''=H2) (λN' hN'=>?_) ?_
     ·refine⟨_,rfl,_,_,rfl,rfl,_,rfl,?_⟩
      by_cases e1:(69:Int)<((x1+(0+(i:Int))) / 3+7*(0+(i:Int))) % 120 - 20
      ·refine bI (decide_eq_true e1) ?_
       exact hN' _ _ ⟨_,rfl,rfl⟩
      ·refine aP (decide_eq_false e1) ?_
       refine⟨_,rfl,_,_,rfl,rfl,_,rfl,?_⟩
       by_cases e2:(60:Int)<((x1+(0+(i:Int))) / 3+7*(0+(i:Int))) % 120 - 20
       ·refine bI (decide_eq_true e2) ?_
        refine⟨_,rfl,_,_,rfl,rfl,?_⟩
        exact hN' _ _ ⟨_,rfl,rfl⟩
       ·refine aP (decide_eq_false e2) ?_
        exact hN' _ _ ⟨_,rfl,rfl⟩
     rintro σ' H2' ⟨nb,rfl,rfl⟩
     refine⟨_,rfl,_,_,rfl,rfl,.inr ⟨by decide,by decide⟩,_,_,rfl,rfl,⟨by decide,by decide,by decide⟩,_,_,rfl,rfl,P30,?_⟩
     obtain⟨y,hy⟩:=SN (ns:=[nb,nb,(x1+(0+(i:Int)))*48271 % (10:Int) ^ (30:Int).toNat,0 - (x1+(0+(i:Int)))*48271 % (10:Int) ^ (30:Int).toNat]) (k:=(x0 / 8+(0+(i:Int))) % 4) (by lia) (by show _<((4:Nat):Int);lia)
     refine⟨_,rfl,_,rfl,_,rfl,_,rfl,_,_,rfl,rfl,zz4,λz hz=>⟨_,rfl,_,_,rfl,rfl,(show(0:Int)<4 by decide),z,_,_,_,rfl,rfl,bZ.of aj,hy,?_⟩⟩
     have sz:=az (o:=.lst ([nb,nb,(x1+(0+(i:Int)))*48271 % (10:Int) ^ (30:Int).toNat,0 - (x1+(0+(i:Int)))*48271 % (10:Int) ^ (30:Int).toNat].map V.int)) hz
     refine⟨_,rfl,.inl ⟨rfl,_,bZ.of (sz _ _ ha2)⟩,_,rfl,_,rfl,_,rfl,_,rfl,zz4,λb hb=>⟨as,us,_,rfl,rfl,(az hb) _ _ (sz _ _ ha2),by lia,?_⟩⟩
     obtain⟨k1,k2,k3⟩:=one _ (.put dk pg y) b us (4*i) (s02.trans sz) (sz _ _ hw2) (sz _ _ ha2) (dl2.aZ (bh sz)) hb
     exact hN _ _ ⟨_,_,_,rfl,k1,k2,aj,k3.more (by lia)⟩
    ·subst e
     refine aP (dj (by decide +kernel)) ?_
     refine⟨_,rfl,rfl,_,rfl,?_⟩
     refine bI fK (pQ ?_)
     refine⟨_,rfl,.inl ⟨rfl,_,bZ.of ha2⟩,_,rfl,_,rfl,_,rfl,zz3,λb hb=>⟨as,us,_,rfl,rfl,(az hb) _ _ ha2,by lia,?_⟩⟩
     obtain⟨k1,k2,k3⟩:=one _ (.look dk pg) b us (4*i) s02 hw2 ha2 dl2 hb
     refine⟨_,rfl,rfl,_,rfl,?_⟩
     refine aP (dj (by decide +kernel)) (w6 ?_)
     exact hN _ _ ⟨_,_,_,rfl,k1,k2,aj,k3.more (by lia)⟩
    ·subst e
     refine aP (dj (by decide +kernel)) ?_
     refine⟨_,rfl,rfl,_,rfl,?_⟩
     refine aP (dj (by decide +kernel)) ?_
     refine⟨_,rfl,rfl,_,rfl,?_⟩
     refine bI fK ?_
     refine⟨_,rfl,.inl ⟨rfl,_,bZ.of ha2⟩,_,rfl,_,rfl,_,rfl,zz3,λb hb=>⟨as,us,_,rfl,rfl,(az hb) _ _ ha2,by lia,?_⟩⟩
     obtain⟨k1,k2,k3⟩:=one _ (.rest dk pg) b us (4*i) s02 hw2 ha2 dl2 hb
     have aAE:=k3.len
     have ha3:upd (upd H2 b (.tup (cB.rest dk pg).vs)) as (.lst (us++[.ref b])) as=some (.lst (us++[.ref b])):=aj
     have go:∀H3:Hp,bJ H H3->H3 wl=some (.lst xR)->H3 as=some (.lst (us++[.ref b]))->DL H3 (us++[.ref b]) (4*i+1)->
      (di (avY (afU (W0 rEq (jm 9) (tC (.str "rest")))) (afU (W0 rEq (W0 (rI (λ_ j=>0<j) λi j=>V.int (i % j)) (W0 (rI awa λi j=>V.int (i / j)) (jm 7) (tC (.int 3))) (tC (.int 2))) (tC (.int 1))))) (ajM (tBM K "list" Ma (jm 4) (mO (amc (mO (tC (.str "look")) (mO (jm 10) (mO (jm 11) Ii)))) Ii))) bN) {nx:=N,rt:=Q} [some (.ref l),some (.int n),some (.int m),some (.ref wl),some (.ref as),some (.int (0+(i:Int))),some (.int (x0 / 8+(0+(i:Int)))),some (.int (x1+(0+(i:Int)))),some (.int (x2+(0+(i:Int)))),some (.str "rest"),some (.int dk),some (.int pg),q12,o13,o14] H3:=λH3 g1 g2 g3 g4=>by
      refine⟨_,rfl,rfl,_,rfl,?_⟩
      refine bI fK ?_
      refine⟨_,rfl,_,_,rfl,rfl,⟨by decide,by decide⟩,_,_,rfl,rfl,(show(0:Int)<2 by decide),rfl,_,rfl,?_⟩
      by_cases e3:(x1+(0+(i:Int))) / 3 % 2=1
      ·refine bI (ahg e3) ?_
       refine⟨_,rfl,.inl ⟨rfl,_,bZ.of g3⟩,_,rfl,_,rfl,zz3,λb2 hb2=>⟨as,_,_,rfl,rfl,(az hb2) _ _ g3,by lia,?_⟩⟩
       obtain⟨m1,m2,m3⟩:=one _ (.look dk pg) b2 _ (4*i+1) g1 g2 g3 g4 hb2
       exact hN _ _ ⟨_,_,_,rfl,m1,m2,aj,m3.more (by lia)⟩
      ·refine aP (ahh e3) ?_
       exact hN _ _ ⟨_,_,_,rfl,g1,g2,g3,g4.more (by lia)⟩
     exact go _ k1 k2 ha3 k3
    ·subst e
     refine aP (dj (by decide +kernel)) ?_
     refine⟨_,rfl,rfl,_,rfl,?_⟩
     refine aP (dj (by decide +kernel)) ?_
     refine⟨_,rfl,rfl,_,rfl,?_⟩
     refine aP (dj (by decide +kernel)) ?_
     refine⟨_,rfl,.inl ⟨rfl,_,bZ.of ha2⟩,_,rfl,_,rfl,vC,λb hb=>⟨as,us,_,rfl,rfl,(az hb) _ _ ha2,by lia,?_⟩⟩
     obtain⟨k1,k2,k3⟩:=one _ (.up dk) b us (4*i) s02 hw2 ha2 dl2 hb
     exact hN _ _ ⟨_,_,_,rfl,k1,k2,aj,k3.more (by lia)⟩
    ·subst e
     refine aP (dj (by decide +kernel)) ?_
     refine⟨_,rfl,rfl,_,rfl,?_⟩
     refine aP (dj (by decide +kernel)) ?_
     refine⟨_,rfl,rfl,_,rfl,?_⟩
     refine aP (dj (by decide +kernel)) ?_
     refine⟨_,rfl,.inl ⟨rfl,_,bZ.of ha2⟩,_,rfl,_,rfl,vC,λb hb=>⟨as,us,_,rfl,rfl,(az hb) _ _ ha2,by lia,?_⟩⟩
     obtain⟨k1,k2,k3⟩:=one _ (.down dk) b us (4*i) s02 hw2 ha2 dl2 hb
     exact hN _ _ ⟨_,_,_,rfl,k1,k2,aj,k3.more (by lia)⟩
   rintro σ' H3 ⟨p13,p14,us3,rfl,s03,hw3,ha3,dl3⟩
   have aAE:=dl3.len
   refine⟨_,rfl,_,_,rfl,rfl,(show(0:Int)<5 by decide),_,_,rfl,rfl,_,rfl,?_⟩
   by_cases e:(x2+(0+(i:Int))) % 5<4
   ·refine bI (decide_eq_true e) ?_
    refine⟨_,rfl,.inl ⟨rfl,_,bZ.of ha3⟩,_,rfl,_,rfl,_,_,rfl,rfl,(show(0:Int)<n by lia),vC,λb hb=>⟨as,us3,_,rfl,rfl,(az hb) _ _ ha3,by lia,?_⟩⟩
    obtain⟨k1,k2,k3⟩:=one _ (.up ((x2+(0+(i:Int))) % (n:Int))) b us3 (4*i+2) s03 hw3 ha3 dl3 hb
    have aDL:=k3.len
    have ha4:upd (upd H3 b (.tup (cB.up ((x2+(0+(i:Int))) % (n:Int))).vs)) as (.lst (us3++[.ref b])) as=some (.lst (us3++[.ref b])):=aj
    refine⟨_,rfl,.inl ⟨rfl,_,bZ.of ha4⟩,_,rfl,_,_,rfl,rfl,⟨by decide,by decide⟩,_,rfl,_,_,rfl,rfl,_,rfl,_,_,rfl,rfl,(show(0:Int)<n by lia),vC,λb2 hb2=>⟨as,us3++[.ref b],_,rfl,rfl,az hb2 as (.lst (us3++[.ref b])) aj,by lia,?_⟩⟩
    obtain⟨m1,m2,m3⟩:=one _ (.down (((x2+(0+(i:Int))) / 4+(0+(i:Int))) % (n:Int))) b2 _ (4*i+3) k1 k2 ha4 k3 hb2
    exact⟨⟨_,_,_,_,_,_,_,_,_,_,rfl⟩,m1,m2,_,aj,m3.more (by lia)⟩
   ·refine aP (decide_eq_false e) ?_
    exact⟨⟨_,_,_,_,_,_,_,_,_,_,rfl⟩,s03,hw3,_,ha3,dl3.more (by lia)⟩
  ·rintro σ' H' ⟨⟨o5,o6,o7,o8,o9,o10,o11,o12,o13,o14,rfl⟩,s',_,us,ha',dl⟩
   exact⟨_,rfl,k as us H' ax4 s' ha' (dl.more (by lia))⟩
def aAF(K:PySem.W.Frag):Sp:=λvs H Q _=>∃(a:Addr) (ns:List Int) (k:Int),vs=[.ref a,.int k]/\bZ K H a (ns.map V.int)/\0<=k/\∀z:Int,Q (.int z) H
theorem WQ(T:Txt K w mg t):cZ P w K mg base oY 1 t.FQ t.adi ["_law_script","_law_k"] (aAF K):=by
 refine T.Ye.ok api (λvs H Q E h=>?_) (λcdv A outer s H vs Q E hr h=>?_)
 ·obtain⟨a,ns,k,rfl,_⟩:=h;rfl
 ·obtain⟨a,ns,k,rfl,ha,hk,q⟩:=h
  refine⟨_,(ak (b8 (aU ab3 (pv 1) (dI dJ (by rfl) T.yU PySem.boot_len (aa (pv 0) ao)) (bu _)) (aB (bf (aO bF (pv 0) (pv 1) (λ_ _=>rfl)))) bD)
   (aB (bf aA))),?_⟩
  try dsimp only[dm,Cx.lu]
  show let Z1:L2.TS:=_;let Z2:L2.TS:=di _ Z1 bN;let Z3:L2.TS:=_;let D0:Ends:=_;(aR Z2 (Z3)) D0 _ _
  intro Z1 Z2 Z3 D0
  refine⟨_,rfl,_,rfl,a,_,rfl,.inl ha,_,_,rfl,rfl,_,rfl,?_⟩
  by_cases h:k<((ns.map V.int).length:Nat)
  ·refine bI (decide_eq_true h) ?_
   obtain⟨z,hz⟩:=SN hk (by simpa using h)
   exact⟨_,rfl,_,rfl,a,_,k,_,rfl,rfl,ha,hz,q z⟩
  ·refine aP (decide_eq_false h) ?_
   exact q 0
theorem anQ(n p:Nat):cnt n p (λ_=>[]) (λ_=>[])=0:=by
 unfold cnt
 induction n with
 | zero=>rfl
 | succ n ih=>rw[yx,ih];rfl
theorem jy.start(n:Nat)(ns:List Int):jy n ns.length (S0 ns) where
 pn p _:=⟨(λx h=>nomatch h),(λx h=>nomatch h),(λx h=>nomatch h)⟩
 am p _:=⟨λ_=>rfl,λ_=>rfl⟩
 up d _ l h:=by cases h
 dn d _ l h:=by cases h
 ws d _ w h:=by cases h
 ct p _:=by rw[show(S0 ns).up=λ_=>[]from rfl,show(S0 ns).dn=λ_=>[]from rfl,anQ];rfl
theorem Bd.start(ns:List Int):Bd 0 (S0 ns) []:=⟨λp=>Nat.le_refl _,λd=>Nat.le_refl _,Nat.le_refl _,λd=>Nat.zero_le _,Nat.zero_le _⟩
theorem Bd.sent{t:Nat}{S:TS}{se:List (Nat×Let)}(b:Bd t S se):Bd t S []:=⟨b.mu,b.up,b.row,b.dn,Nat.zero_le _⟩
theorem ints_rep(H:Hp):∀ns:List Int,aH H (ns.map V.int) (ns.map D.i)
 | []=>by simp[aH]
 | x::ns=>by simp only[List.map_cons,aH];exact⟨_,_,rfl,rfl,ints_rep H ns⟩
theorem ints_size:∀ns:List Int,D.sizes (ns.map D.i)<=2*ns.length
 | []=>by simp[D.sizes]
 | x::ns=>by have:=ints_size ns;simp only[List.map_cons,D.sizes,D.size,List.length_cons];lia
theorem anR(u v:Int)(hu:1<=u/\u<=20)(hv:1<=v/\v<=20)(b:Bool):∃n:Nat,0<n/\n<=20/\Qu [V.int u,V.int v] (if b=true then 1 else 0)=some (.int n):=by
 cases b with
 | false=>exact⟨u.toNat,by lia,by lia,by rw[Int.toNat_of_nonneg (by lia)];rfl⟩
 | true=>exact⟨v.toNat,by lia,by lia,by rw[Int.toNat_of_nonneg (by lia)];rfl⟩
theorem anS(ns:List Int)(lo hi:Option Int):∃cs:List Int,aaJ (ns.map V.int) lo hi=cs.map V.int/\cs.length<=ns.length:=by
 refine⟨((ns.drop (HT.oX (ns.map V.int).length 0 lo)).take (HT.oX (ns.map V.int).length (ns.map V.int).length hi - HT.oX (ns.map V.int).length 0 lo)),?_,?_⟩
 ·unfold aaJ;rw[<-List.map_drop,<-List.map_take]
 ·rw[List.length_take,List.length_drop];lia
theorem bZ.same{K:PySem.W.Frag}{H H':Hp}{a:Addr}{xs:List V}(h:bZ K H a xs)(s:bJ H H'):bZ K H' a xs:=by
 rcases h with (h | ⟨o,h⟩) | h
 ·exact .inl (.inl (s _ _ h))
 ·exact .inl (.inr ⟨o,s _ _ h⟩)
 ·exact .inr h
def anT(c:C4)(X:Addr):Sp:=λvs H Q E=>∃B n m S k,∃d:Int,vs=[.ref (B .bc),.int d]/\cG c H B n m S k/\(inR d n->Q .non H)/\(¬inR d n->E (.ref X) none H)
def anU(c:C4)(X:Addr):Sp:=λvs H Q E=>∃B n m S k,∃d:Int,vs=[.ref (B .bc),.int d]/\cG c H B n m S k/\(inR d m->Q .non H)/\(¬inR d m->E (.ref X) none H)
def auO(X:Addr):Sp:=λvs H Q E=>∃s l xs,vs=[s,.ref l]/\H l=some (.lst xs)/\(xs=[]->E (.ref X) none H)/\∀v r,xs=v::r->Q v (upd H l (.lst r))
def aky(c:C4):Sp:=λvs H Q _=>∃B n m S k a l1 l2 xs ys es us,∃d:Nat,vs=[.ref (B .bc),.int d,.ref a]/\cG c H B n m S k/\d<n/\H a=some (.tup [.ref l1,.ref l2])/\H l1=some (.lst xs)/\H l2=some (.lst ys)/\aH H xs (es.map evD)/\aH H ys (us.map UL.d)/\
 (∀x:Tb,x.ok n m->l1≠B x)/\(∀x:Tb,x.ok n m->l2≠B x)/\S.row.length+es.length<=1000000/\(S.up d).length+us.length<=1000000/\
 ∀H',cG c H' B n m {S with up:=aG S.up d (S.up d++us),row:=c7 S.row d es} k->TF H H' B n m->H' l1=some (.lst xs)->aH H' xs (es.map evD)->Q (.ref l1) H'
theorem ahl(es:List Ev):D.flats (es.map evD):=bY (λe=>by simp[evD,D.flat,D.flats]) es
theorem akz{H:Hp}:∀{es:List Ev} {xs:List V} {i:Nat} {y:V},aH H xs (es.map evD)->xs[i]? = some y->∃e,es[i]? = some e/\Rep H y (evD e)
 | [],xs,i,y,h,hy=>by simp only[List.map_nil,aH]at h;subst h;simp at hy
 | e::es,xs,i,y,h,hy=>by
   simp only[List.map_cons,aH]at h
   obtain⟨v,us,rfl,rv,rl⟩:=h
   cases i with
   | zero=>simp at hy;subst hy;exact⟨e,rfl,rv⟩
   | succ i=>simp at hy;obtain⟨e',h1,h2⟩:=akz rl hy;exact⟨e',by simpa using h1,h2⟩
theorem ahm{row:List RE}{d i:Nat}{es:List Ev}{e:Ev}(h:es[i]? = some e):c7 row d (es.take (i+1))=c7 row d (es.take i)++[⟨e.1,d,e.2.1,e.2.2⟩]:=by
 unfold c7
 rw[List.take_add_one,h]
 simp
abbrev c4(t:JT):C4:=⟨t.bA,t.bL,t.iu,t.aD⟩
theorem Ka(T:Txt K w mg t):cZ P w K mg base (CX1 P w) 1 t.dw t.my ["self","desk"] (anT (c4 t) t.bj):=by
 refine T.MJ.okX JQ (λvs H Q E h=>?_) (λcdv A outer s H vs Q E hr h=>?_)
 ·obtain⟨B,n,m,S,k,d,rfl,_⟩:=h;rfl
 ·obtain⟨B,n,m,S,k,d,rfl,TA,k1,k2⟩:=h
  refine⟨_,(aB (b8 (PW.pt (vH (aU ab3 (pv 1) aA (bu _)) (pP (aU W2 (pv 1) (dI dJ (by rfl) T.yU PySem.boot_len (aa (cM (pv 0) (by rfl)) ao)) (bu _))))) (aB (Ez T.XN (by rfl) T.agy rfl Mh (aa aC ao))) bD)),?_⟩
  try dsimp only[dm,Cx.lu]
  show let Z1:L2.TS:=_;let Z2:L2.TS:=di _ Z1 bN;let D0:Ends:=_;(Z2) D0 _ _
  intro Z1 Z2 D0
  obtain⟨dx,ht⟩:=TA.ob
  refine⟨_,rfl,_,_,rfl,rfl,_,rfl,?_⟩
  by_cases h0:d<0
  ·refine bI (decide_eq_true h0) (pQ ?_)
   exact⟨zz1,k2 λh=>by unfold inR at h;lia⟩
  ·refine aP (decide_eq_false h0) ?_
   refine⟨_,rfl,_,rfl,B .bc,_,dx,_,_,rfl,ht,T.dH,T.fQ,tU,B .lL,_,rfl,.inl (bZ.of TA.ds),_,_,rfl,rfl,_,rfl,?_⟩
   rw[List.length_map,List.length_range]
   by_cases h1:(n:Int)<=d
   ·refine bI (decide_eq_true h1) ?_
    exact⟨zz1,k2 λh=>by unfold inR at h;lia⟩
   ·refine aP (decide_eq_false h1) ?_
    exact k1 ⟨by lia,by lia⟩
theorem Kc(T:Txt K w mg t):cZ P w K mg base (CX1 P w) 1 t.dB t.mz ["self","page"] (anU (c4 t) t.aX):=by
 refine T.MN.okX JR (λvs H Q E h=>?_) (λcdv A outer s H vs Q E hr h=>?_)
 ·obtain⟨B,n,m,S,k,d,rfl,_⟩:=h;rfl
 ·obtain⟨B,n,m,S,k,d,rfl,TA,k1,k2⟩:=h
  refine⟨_,(aB (b8 (PW.pt (vH (aU ab3 (pv 1) aA (bu _)) (pP (aU W2 (pv 1) (cM (pv 0) (by rfl)) (bu _))))) (aB (Ez T.Mw (by rfl) T.agz rfl Mh (aa aC ao))) bD)),?_⟩
  try dsimp only[dm,Cx.lu]
  show let Z1:L2.TS:=_;let Z2:L2.TS:=di _ Z1 bN;let D0:Ends:=_;(Z2) D0 _ _
  intro Z1 Z2 D0
  obtain⟨dx,ht⟩:=TA.ob
  refine⟨_,rfl,_,_,rfl,rfl,_,rfl,?_⟩
  by_cases h0:d<0
  ·refine bI (decide_eq_true h0) (pQ ?_)
   exact⟨zz1,k2 λh=>by unfold inR at h;lia⟩
  ·refine aP (decide_eq_false h0) ?_
   refine⟨_,rfl,_,rfl,B .bc,_,dx,_,_,rfl,ht,T.dH,T.g8,acj,_,_,rfl,rfl,_,rfl,?_⟩
   by_cases h1:(m:Int)<=d
   ·refine bI (decide_eq_true h1) ?_
    exact⟨zz1,k2 λh=>by unfold inR at h;lia⟩
   ·refine aP (decide_eq_false h1) ?_
    exact k1 ⟨by lia,by lia⟩
theorem qT(T:Txt K w mg t):cZ P w K mg base (CX1 P w) 1 t.cT t.j9 ["self","road"] (auO t.aJ):=by
 refine T.Il.okX FN (λvs H Q E h=>?_) (λcdv A outer s H vs Q E hr h=>?_)
 ·obtain⟨B,n,m,rfl,_⟩:=h;rfl
 ·obtain⟨sv,l,xs,rfl,hl,k1,k2⟩:=h
  refine⟨_,(ak (b8 (wY (Ex (pv 1) (λ_=>rfl))) (aB (Ez T.mF (by rfl) T.XQ rfl Mh (aa aC ao))) bD)
   (aB (bf (eN PySem.F.plainAttrs_list PySem.F.slot_list_pop PySem.F.type_list_pop Ey (pv 1) (aa aA ao))))),?_⟩
  try dsimp only[dm,Cx.lu]
  show let Z1:L2.TS:=_;let Z2:L2.TS:=di _ Z1 bN;let Z3:L2.TS:=_;let D0:Ends:=_;(aR Z2 (Z3)) D0 _ _
  intro Z1 Z2 Z3 D0
  cases xs with
  | nil =>
    refine⟨_,rfl,_,.inl ⟨[],bZ.of hl,rfl⟩,?_⟩
    exact pQ ⟨zz1,k1 rfl⟩
  | cons v r =>
    refine⟨_,rfl,_,.inl ⟨v::r,bZ.of hl,rfl⟩,w6 ?_⟩
    exact⟨_,rfl,.inl ⟨rfl,_,bZ.of hl⟩,l,_,0,0,_,rfl,rfl,hl,(by decide),(by decide),amH _ _,rfl,k2 v r rfl⟩
theorem oH(T:Txt K w mg t):cZ P w K mg base oY 1 t.dR t.nY ["self","desk","told"] (aky (c4 t)):=by
 refine T.QT.ok jM (λvs H Q E h=>?_) (λcdv A outer s H vs Q E hr h=>?_)
 ·obtain⟨B,n,m,S,k,a,l1,l2,xs,ys,es,us,d,rfl,_⟩:=h;rfl
 ·obtain⟨B,n,m,S,k,a,l1,l2,xs,ys,es,us,d,rfl,TA,hd,ha,h1,h2,r1,r2,n1,n2,z1,z2,fin⟩:=h
  have sl:sizeLine=16777216:=by decide
  refine⟨_,(ak (tY PassesOwn.never rfl (lO (aO bC (pv 2) aA (λ_ _=>rfl))) (Qq rfl (jd (cN (i:=3) jM.nd rfl (Or.inl rfl)) (jd (cN (i:=4) jM.nd rfl (Or.inl rfl)) (jd (cN (i:=5) jM.nd rfl (Or.inl rfl)) HW)))) (aB (bM (eN PySem.F.plainAttrs_list PySem.F.slot_list_append PySem.F.type_list_append cD (cM (pv 0) (by rfl)) (aa (cu (aa (pv 3) (aa (pv 1) (aa (pv 4) (aa (pv 5) ao))))) ao)))))
   (ak (bM (eN PySem.F.plainAttrs_list PySem.F.slot_list_extend PySem.F.type_list_extend lX (aO bF (cM (pv 0) (by rfl)) (pv 1) (λ_ _=>rfl)) (aa (aO bC (pv 2) aA (λ_ _=>rfl)) ao)))
   (aB (bf (aO bC (pv 2) aA (λ_ _=>rfl)))))),?_⟩
  try dsimp only[dm,Cx.lu]
  show let Z1:L2.TS:=_;let Z2:L2.TS:=Ub _ _ Z1;let Z3:L2.TS:=_;let Z4:L2.TS:=_;let D0:Ends:=_;(aR Z2 (aR Z3 (Z4))) D0 _ _
  intro Z1 Z2 Z3 Z4 D0
  refine zt rfl (dF.of ha) rfl ⟨l1,rfl,⟨_,bZ.of h1⟩,?_⟩
  have hxl:xs.length=es.length:=by rw[r1.length,List.length_map]
  let PV1:Nat->St->Hp->Prop:=λi σ' H'=>(∃o1 o2 o3,σ'=[some (.ref (B .bc)),some (.int d),some (.ref a),o1,o2,o3])/\i<=xs.length/\cG (c4 t) H' B n m {S with row:=c7 S.row d (es.take i)} k/\TF H H' B n m
  refine tZ (xs:=xs) PV1 ?_ ?_ ?_ ?_
  ·refine⟨⟨_,_,_,rfl⟩,Nat.zero_le _,?_,TF.refl _ _ _ _⟩
   simpa[c7] using TA
  ·rintro i σ' H' _ ⟨_,_,_,f'⟩
   exact bZ.of (f'.kp _ _ h1 n1)
  ·rintro i y σ' H' hy ⟨⟨o1,o2,o3,rfl⟩,hi,T',f'⟩
   have hi':i<xs.length:=(List.getElem?_eq_some_iff.mp hy).1
   obtain⟨e,he,re⟩:=akz (r1.aZ (f'.tups TA) (ahl _)) hy
   simp only[evD,Rep,aH]at re
   obtain⟨c,us',rfl,hc,_,_,rfl,rfl,_,_,rfl,rfl,_,_,rfl,rfl,rfl⟩:=re
   refine⟨c,_,rfl,dF.of hc,rfl,_,_,rfl,_,_,rfl,_,_,rfl,rfl,?_⟩
   obtain⟨dx,ht⟩:=T'.ob
   obtain⟨rv,e1,e2⟩:=T'.row
   have hrl:rv.length<sizeLine:=by
    rw[e2.length,List.length_map]
    show(c7 S.row d (es.take i)).length<_
    unfold c7
    rw[List.length_append,List.length_map,List.length_take]
    lia
   refine⟨_,rfl,B .bc,_,dx,_,_,rfl,ht,T.dH,T.wz,apg,.inl ⟨rfl,_,bZ.of e1⟩,_,rfl,_,rfl,_,rfl,_,rfl,zz4,λb hbn=>?_⟩
   have s3:=az (o:=.tup [.str (agh e.1),.int d,.int e.2.1,.int e.2.2]) hbn
   refine⟨B .row,rv,_,rfl,rfl,s3 _ _ e1,hrl,?_⟩
   have rp3:aH (upd H' b (.tup [.str (agh e.1),.int d,.int e.2.1,.int e.2.2])) (rv++[.ref b]) ((c7 S.row d (es.take (i+1))).map RE.d):=by
    rw[ahm he,List.map_append]
    refine aH.snoc (e2.aZ (bh s3) (bY RE.flat _)) ?_
    simp only[RE.d,Rep,aH]
    exact⟨b,_,rfl,aj,_,_,rfl,rfl,_,_,rfl,rfl,_,_,rfl,rfl,_,_,rfl,rfl,rfl⟩
   have T4:=(T'.same s3).amQ rp3
   exact⟨⟨_,_,_,rfl⟩,by lia,T4,f'.trans ((TF.of_same s3).trans (TF.wr (x:=.row) trivial) (Tv.refl _ _ _ _)) (Tv.refl _ _ _ _)⟩
  ·rintro σ' H' ⟨⟨o1,o2,o3,rfl⟩,_,T',f'⟩
   rw[hxl,List.take_length]at T'
   obtain⟨dx,ht⟩:=T'.ob
   obtain⟨uv,u1,u2⟩:=T'.up d hd
   have ha':=f'.tups TA _ _ ha
   have h2':=f'.kp _ _ h2 n2
   have r2':=r2.aZ (f'.tups TA) (bY UL.flat _)
   have hul:uv.length+ys.length<=sizeLine:=by
    rw[u2.length,r2.length,List.length_map,List.length_map]
    show(S.up d).length+us.length<=_
    lia
   refine⟨_,rfl,B .bc,_,dx,_,_,rfl,ht,T.dH,T.gQ,ac5,_,rfl,B .ups,_,_,_,rfl,rfl,bZ.of T'.us,bQ hd,.inl ⟨rfl,_,bZ.of u1⟩,zt rfl (dF.of ha') rfl ⟨B (.up d),l2,uv,ys,rfl,rfl,u1,.inl (bZ.of h2'),hul,?_⟩⟩
   have ru:aH H' (uv++ys) ((S.up d++us).map UL.d):=by rw[List.map_append];exact aH.append u2 r2'
   have T5:=T'.ago hd ru
   have f5:=f'.trans (TF.wr (B:=B) (x:=.up d) (n:=n) (m:=m) hd (o:=.lst (uv++ys))) (Tv.refl _ _ _ _)
   have ha5:=f5.tups TA _ _ ha
   refine zt rfl (dF.of ha5) rfl ?_
   exact fin _ T5 f5 (f5.kp _ _ h1 n1) (r1.aZ (f5.tups TA) (ahl _))
theorem anV{H H1:Hp}{v:V}{es:List Ev}{us:List UL}(t:cg H H1)(r:Rep (nw H H1) v (.t [.l (es.map evD),.l (us.map UL.d)])) :
 ∃a l1 l2 xs ys,v=.ref a/\H1 a=some (.tup [.ref l1,.ref l2])/\H1 l1=some (.lst xs)/\H1 l2=some (.lst ys)/\aH H1 xs (es.map evD)/\aH H1 ys (us.map UL.d)/\H l1=none/\H l2=none:=by
 simp only[Rep,aH]at r
 obtain⟨a,xs,rfl,ha,v1,q1,rfl,⟨l1,x1,rfl,h1,r1⟩,v2,q2,rfl,⟨l2,x2,rfl,h2,r2⟩,rfl⟩:=r
 have key:∀{l:Addr} {z:List V},nw H H1 l=some (.lst z)->H l=none:=λ{l z} e=>by
  obtain⟨e1,e2 | ⟨ys,e2⟩⟩:=m8 e
  ·exact e2
  ·have:=t _ _ e2;rw[e1]at this;cases this
 exact⟨a,l1,l2,x1,x2,rfl,(m8 ha).1,(m8 h1).1,(m8 h2).1,r1.mono aiH,r2.mono aiH,key h1,key h2⟩
theorem YK{c:C4}{H H1:Hp}{B:Tb->Addr}{n m d:Nat}{S:TS}{k k':Nat}{z:DS×List Ev×List UL}{v:V}{Q:VK}{E:XK}(TA:cG c H B n m S k)(hd:d<n)(z1:z.2.1.length<=1)(z2:z.2.2.length<=1)(hr:S.row.length<=1500)(hu:(S.up d).length<=1500)
 (D1:cz c.D H1 (B (.dk d)) (B (.cp d)) z.1 k') (hk:k<=k') (f1:DF H H1 (B (.dk d)) (B (.cp d))) (r1:Rep (nw H H1) v (.t [.l (z.2.1.map evD),.l (z.2.2.map UL.d)]))
 (fin:∀l1 xs H2,cG c H2 B n m (S.jY d z) k'->TF H H2 B n m->H2 l1=some (.lst xs)->aH H2 xs (z.2.1.map evD)->Q (.ref l1) H2):aky c [.ref (B .bc),.int d,v] H1 Q E:=by
 obtain⟨T1,g1⟩:=TA.jY hd D1 f1 hk
 obtain⟨a,l1,l2,xs,ys,rfl,ha,h1,h2,q1,q2,n1,n2⟩:=anV (g1.tups TA) r1
 refine⟨B,n,m,_,k',a,l1,l2,xs,ys,z.2.1,z.2.2,d,rfl,T1,hd,ha,h1,h2,q1,q2,λx hx=>(TA.ne hx n1).symm,λx hx=>(TA.ne hx n2).symm,?_,?_,λH2 T2 f2 e1 e2=>fin l1 xs H2 T2 (g1.trans f2 (Tv.refl _ _ _ _)) e1 e2⟩
 ·show S.row.length+_<=_;lia
 ·show(S.up d).length+_<=_;lia
def akA(S:DS):W->D
 | .look p=>if S.ok (.look p)then .i (S.nm p)else .s "waits"
 | .put p x=>if S.ok (.put p x)then .s "done" else .s "waits"
def auP(c:C4)(X:Addr)(H:Hp)(B:Tb->Addr)(n m:Nat)(S:TS)(k d p:Nat)(w:W)(Q:VK)(E:XK):Prop :=
 ((S.ds d).ws=none->∀v H',cG c H' B n m (S.jY d ((S.ds d).il w p)) (k+2)->TF H H' B n m->Rep H' v (akA (S.ds d) w)->Q v H')/\((S.ds d).ws≠none->∀H',bJ H H'->E (.ref X) none H')
def auQ(c:C4)(X:Addr):Sp:=λvs H Q E=>∃B n m S k,∃d p:Nat,vs=[.ref (B .bc),.int d,.int p]/\cG c H B n m S k/\d<n/\S.row.length<=1500/\(S.up d).length<=1500/\k<=800000/\auP c X H B n m S k d p (.look p) Q E
def ax7(c:C4)(X:Addr):Sp:=λvs H Q E=>∃B n m S k,∃d p:Nat,∃x:Int,vs=[.ref (B .bc),.int d,.int p,.int x]/\cG c H B n m S k/\d<n/\S.row.length<=1500/\(S.up d).length<=1500/\k<=800000/\auP c X H B n m S k d p (.put p x) Q E
def auR(c:C4)(X:Addr):Sp:=λvs H Q E=>∃B n m S k,∃d p:Nat,vs=[.ref (B .bc),.int d,.int p]/\cG c H B n m S k/\d<n/\(S.up d).length<=1500/\k<=800000/\
 ((S.ds d).rt p≠.no->∀H',cG c H' B n m (S.lB d p) (k+2)->TF H H' B n m->Q (.str "done") H')/\((S.ds d).rt p=.no->E (.ref X) none H)
theorem UJ(T:Txt K w mg t):cZ P w K mg base (CX1 P w) 4 t.fu t.rK ["self","desk","page"] (auQ (c4 t) t.aM):=by
 refine T.X5.okX Cd (λvs H Q E h=>?_) (λcdv A outer s H vs Q E hr h=>?_)
 ·obtain⟨B,n,m,S,k,d,p,rfl,_⟩:=h;rfl
 ·obtain⟨B,n,m,S,k,d,p,rfl,TA,hd,z1,z2,z3,k1,k2⟩:=h
  refine⟨_,(ak (bz (i:=3) Cd.nd rfl (Or.inl rfl) (cC (pv 0) T.dH T.oE (oH T) (hr.mono (by decide):bR 1 _) T.qt .nil bW (aa (pv 1) (aa (cC (aO bF (cM (pv 0) (by rfl)) (pv 1) (λ_ _=>rfl)) T.dG T.My (Nr T) (hr.mono (by decide):bR 3 _) T.Ss .nil BW (aa (cu (aa aC (aa (pv 2) ao))) ao)) ao))))
   (aB (bf (qF (Ex (pv 3) (λ_=>rfl)) (aO bC (aO bF (pv 3) aA (λ_ _=>rfl)) aA (λ_ _=>rfl)) (iC (by rfl) T.akq))))),?_⟩
  try dsimp only[dm,Cx.lu]
  show let Z1:L2.TS:=_;let Z2:L2.TS:=_;let D0:Ends:=_;(aR Z1 (Z2)) D0 _ _
  intro Z1 Z2 D0
  obtain⟨dx,ht⟩:=TA.ob
  obtain⟨⟨yg,wv,g1,_⟩,_⟩:=TA.dk d hd
  refine⟨_,rfl,B .bc,dx,_,rfl,ht,aiS,_,rfl,_,rfl,B .bc,_,dx,_,_,rfl,ht,T.dH,T.fQ,tU,_,rfl,B .lL,_,_,_,rfl,rfl,bZ.of TA.ds,bQ hd,B (.dk d),yg,_,rfl,g1,eX _ _ (by decide +kernel) (by decide +kernel),_,rfl,vC,λb hb=>?_⟩
  have TB:=TA.new (o:=.tup [.str "look",.int p]) hb
  refine⟨B (.dk d),B (.cp d),S.ds d,k,b,.look p,rfl,TB.dk d hd,by lia,aj,?_⟩
  cases hw:(S.ds d).ws with
  | some w'=>exact k2 (by rw[hw];exact nofun) _ (az hb)
  | none =>
    intro v H1 D1 f1 r1
    have e1:=(S.ds d).aj6 (.look p) (p:=p) rfl
    rw[e1]at D1 r1
    dsimp only[Ii,List.append_nil]
    refine YK (z:=(S.ds d).il (.look p) p) TB hd (DS.mU _ _ _).1 (DS.mU _ _ _).2 z1 z2 D1 (by lia) f1 r1 λl1 xs H2 T2 f2 h1 r2=>?_
    have f3:TF H H2 B n m:=(TF.of_same (az hb)).trans f2 (Tv.refl _ _ _ _)
    have fin:=k1 hw
    refine⟨_,rfl,_,.inl ⟨xs,bZ.of h1,rfl⟩,?_⟩
    unfold akA at fin
    by_cases ho:(S.ds d).ok (.look p)
    ·have ez:((S.ds d).il (.look p) p).2.1=[(false,(p:Int),(S.ds d).nm p)]:=by unfold DS.il;rw[if_pos ho];rfl
     rw[ez]at r2
     simp only[List.map_cons,List.map_nil,evD,aH,Rep]at r2
     obtain⟨_,_,rfl,⟨c,us',rfl,hc,_,_,rfl,rfl,_,_,rfl,rfl,_,_,rfl,rfl,rfl⟩,rfl⟩:=r2
     refine pQ ?_
     refine⟨_,rfl,l1,_,0,_,rfl,rfl,bZ.of h1,rfl,c,_,2,_,rfl,rfl,dF.of hc,rfl,?_⟩
     refine fin _ _ T2 f3 ?_
     dsimp only
     rw[if_pos ho]
     simp only[Rep]
    ·have ez:((S.ds d).il (.look p) p).2.1=[]:=by unfold DS.il;rw[if_neg ho]
     rw[ez]at r2
     simp only[List.map_nil,aH]at r2
     subst r2
     refine w6 ?_
     refine fin _ _ T2 f3 ?_
     dsimp only
     rw[if_neg ho]
     simp only[Rep]
theorem YL(T:Txt K w mg t):cZ P w K mg base (CX1 P w) 4 t.fP t.uJ ["self","desk","page","number"] (ax7 (c4 t) t.aM):=by
 refine T.aaV.okX FJ (λvs H Q E h=>?_) (λcdv A outer s H vs Q E hr h=>?_)
 ·obtain⟨B,n,m,S,k,d,p,x,rfl,_⟩:=h;rfl
 ·obtain⟨B,n,m,S,k,d,p,x,rfl,TA,hd,z1,z2,z3,k1,k2⟩:=h
  refine⟨_,(ak (bz (i:=4) FJ.nd rfl (Or.inl rfl) (cC (pv 0) T.dH T.oE (oH T) (hr.mono (by decide):bR 1 _) T.qt .nil bW (aa (pv 1) (aa (cC (aO bF (cM (pv 0) (by rfl)) (pv 1) (λ_ _=>rfl)) T.dG T.My (Nr T) (hr.mono (by decide):bR 3 _) T.Ss .nil BW (aa (cu (aa aC (aa (pv 2) (aa (pv 3) ao)))) ao)) ao))))
   (aB (bf (qF (Ex (pv 4) (λ_=>rfl)) (iC (by rfl) T.am3) (iC (by rfl) T.akq))))),?_⟩
  try dsimp only[dm,Cx.lu]
  show let Z1:L2.TS:=_;let Z2:L2.TS:=_;let D0:Ends:=_;(aR Z1 (Z2)) D0 _ _
  intro Z1 Z2 D0
  obtain⟨dx,ht⟩:=TA.ob
  obtain⟨⟨yg,wv,g1,_⟩,_⟩:=TA.dk d hd
  refine⟨_,rfl,B .bc,dx,_,rfl,ht,aiS,_,rfl,_,rfl,B .bc,_,dx,_,_,rfl,ht,T.dH,T.fQ,tU,_,rfl,B .lL,_,_,_,rfl,rfl,bZ.of TA.ds,bQ hd,B (.dk d),yg,_,rfl,g1,eX _ _ (by decide +kernel) (by decide +kernel),_,rfl,_,rfl,zz3,λb hb=>?_⟩
  have TB:=TA.new (o:=.tup [.str "put",.int p,.int x]) hb
  refine⟨B (.dk d),B (.cp d),S.ds d,k,b,.put p x,rfl,TB.dk d hd,by lia,aj,?_⟩
  cases hw:(S.ds d).ws with
  | some w'=>exact k2 (by rw[hw];exact nofun) _ (az hb)
  | none =>
    intro v H1 D1 f1 r1
    have e1:=(S.ds d).aj6 (.put p x) (p:=p) rfl
    rw[e1]at D1 r1
    dsimp only[Ii,List.append_nil]
    refine YK (z:=(S.ds d).il (.put p x) p) TB hd (DS.mU _ _ _).1 (DS.mU _ _ _).2 z1 z2 D1 (by lia) f1 r1 λl1 xs H2 T2 f2 h1 r2=>?_
    have f3:TF H H2 B n m:=(TF.of_same (az hb)).trans f2 (Tv.refl _ _ _ _)
    have fin:=k1 hw
    refine⟨_,rfl,_,.inl ⟨xs,bZ.of h1,rfl⟩,?_⟩
    unfold akA at fin
    by_cases ho:(S.ds d).ok (.put p x)
    ·have ez:((S.ds d).il (.put p x) p).2.1=[(true,(p:Int),x)]:=by unfold DS.il;rw[if_pos ho];rfl
     rw[ez]at r2
     simp only[List.map_cons,List.map_nil,evD,aH]at r2
     obtain⟨_,_,rfl,_,rfl⟩:=r2
     refine pQ ?_
     refine fin _ _ T2 f3 ?_
     dsimp only
     rw[if_pos ho]
     simp only[Rep]
    ·have ez:((S.ds d).il (.put p x) p).2.1=[]:=by unfold DS.il;rw[if_neg ho]
     rw[ez]at r2
     simp only[List.map_nil,aH]at r2
     subst r2
     refine w6 ?_
     refine fin _ _ T2 f3 ?_
     dsimp only
     rw[if_neg ho]
     simp only[Rep]
theorem UT(T:Txt K w mg t):cZ P w K mg base (CX1 P w) 4 t.fB t.rM ["self","desk","page"] (auR (c4 t) t.aV):=by
 refine T.X8.okX Uk (λvs H Q E h=>?_) (λcdv A outer s H vs Q E hr h=>?_)
 ·obtain⟨B,n,m,S,k,d,p,rfl,_⟩:=h;rfl
 ·obtain⟨B,n,m,S,k,d,p,rfl,TA,hd,z2,z3,k1,k2⟩:=h
  have sl:sizeLine=16777216:=by decide
  refine⟨_,(ak (bM (eN PySem.F.plainAttrs_list PySem.F.slot_list_extend PySem.F.type_list_extend lX (aO bF (cM (pv 0) (by rfl)) (pv 1) (λ_ _=>rfl)) (aa (cC (aO bF (cM (pv 0) (by rfl)) (pv 1) (λ_ _=>rfl)) T.dG T.adu (adF T) (hr.mono (by decide):bR 3 _) T.agI .nil BW (aa (pv 2) ao)) ao)))
   (aB (bf (iC (by rfl) T.am3)))),?_⟩
  try dsimp only[dm,Cx.lu]
  show let Z1:L2.TS:=_;let Z2:L2.TS:=_;let D0:Ends:=_;(aR Z1 (Z2)) D0 _ _
  intro Z1 Z2 D0
  obtain⟨dx,ht⟩:=TA.ob
  obtain⟨⟨yg,wv,g1,_⟩,_⟩:=TA.dk d hd
  obtain⟨uv,u1,u2⟩:=TA.up d hd
  refine⟨_,rfl,B .bc,_,dx,_,_,rfl,ht,T.dH,T.gQ,ac5,_,rfl,B .ups,_,_,_,rfl,rfl,bZ.of TA.us,bQ hd,.inl ⟨rfl,_,bZ.of u1⟩,_,rfl,B .bc,_,dx,_,_,rfl,ht,T.dH,T.fQ,tU,_,rfl,B .lL,_,_,_,rfl,rfl,bZ.of TA.ds,bQ hd,B (.dk d),yg,_,rfl,g1,eX _ _ (by decide +kernel) (by decide +kernel),_,rfl,?_⟩
  refine⟨B (.dk d),B (.cp d),S.ds d,k,p,rfl,TA.dk d hd,by lia,?_⟩
  by_cases e:(S.ds d).rt p=.no
  ·rw[if_pos e];exact k2 e
  ·rw[if_neg e]
   intro v H1 D1 f1 r1
   obtain⟨T1,g2⟩:=TA.jY hd D1 f1 (by lia)
   have er:((S.ds d).rest p).2=.l ((if(S.ds d).rt p=.wr then [UL.gave p ((S.ds d).nm p)]else []).map UL.d):=by
    unfold DS.rest
    dsimp only
    split<;>rfl
   rw[er]at r1
   simp only[Rep]at r1
   obtain⟨l,ys,rfl,hl,r2⟩:=r1
   obtain⟨hl1,hl0⟩:=m8 hl
   obtain⟨uw,u3,u4⟩:=T1.up d hd
   have hlen:((if(S.ds d).rt p=.wr then [UL.gave p ((S.ds d).nm p)]else []:List UL)).length<=1:=by split<;>simp
   have hyl:uw.length+ys.length<=sizeLine:=by
    rw[u4.length,r2.length,List.length_map,List.length_map]
    show(S.up d).length+_<=_
    lia
   refine⟨B (.up d),l,uw,ys,rfl,rfl,u3,.inl (bZ.of hl1),hyl,?_⟩
   have ru:aH H1 (uw++ys) ((S.up d++(if(S.ds d).rt p=.wr then [UL.gave p ((S.ds d).nm p)]else [])).map UL.d):=by rw[List.map_append];exact aH.append u4 (r2.mono aiH)
   have T5:=T1.ago hd ru
   have f5:=g2.trans (TF.wr (B:=B) (x:=.up d) (n:=n) (m:=m) hd (o:=.lst (uw++ys))) (Tv.refl _ _ _ _)
   refine k1 e _ ?_ f5
   have es:S.lB d p={S with ds:=aG S.ds d ((S.ds d).rest p).1,up:=aG S.up d (S.up d++(if(S.ds d).rt p=.wr then [UL.gave p ((S.ds d).nm p)]else []))}:=by
    unfold TS.lB TS.jY c7 DS.rest
    simp
   rw[es]
   exact T5
def ax8(c:C4)(X:Addr):Sp:=λvs H Q E=>∃B n m S k,∃d:Nat,vs=[.ref (B .bc),.int d]/\cG c H B n m S k/\d<n/\jy n m S/\(∀p,(S.pg p).mu<=3000)/\(∀e,(S.dn e).length<=9030000)/\(S.up d=[]->E (.ref X) none H)/\
 ∀l r,S.up d=l::r->∀b B' H',cG c H' B' n m (S.Xi d l r) k->TF H H' B n m->Tv H B B' n m->B' .bc=B .bc->H' b=some (.tup l.vs)->Q (.ref b) H'
def ax9(c:C4)(X:Addr):Sp:=λvs H Q E=>∃B n m S k,∃d:Nat,vs=[.ref (B .bc),.int d]/\cG c H B n m S k/\d<n/\jy n m S/\S.row.length<=1500/\(S.up d).length<=1500/\k<=800000/\(S.dn d=[]->E (.ref X) none H)/\
 ∀l r,S.dn d=l::r->∀b H',cG c H' B n m (S.Ik d l r) (k+2)->TF H H' B n m->H' b=some (.tup l.vs)->Q (.ref b) H'
theorem acA{H:Hp}:∀{l:List (Nat×Let)} {vs:List V} {i:Nat} {v:V},aH H vs (l.map pairD)->vs[i]? = some v->∃x,l[i]? = some x/\Rep H v (pairD x)
 | [],vs,i,v,h,hv=>by simp only[List.map_nil,aH]at h;subst h;simp at hv
 | x::l,vs,i,v,h,hv=>by
   simp only[List.map_cons,aH]at h
   obtain⟨u,us,rfl,ru,rl⟩:=h
   cases i with
   | zero=>simp at hv;subst hv;exact⟨x,rfl,ru⟩
   | succ i=>simp at hv;obtain⟨x',h1,h2⟩:=acA rl hv;exact⟨x',by simpa using h1,h2⟩
theorem Kd(T:Txt K w mg t):cZ P w K mg base (CX1 P w) 6 t.dC t.mC ["self","desk"] (ax9 (c4 t) t.aJ):=by
 refine T.MT.okX uE (λvs H Q E h=>?_) (λcdv A outer s H vs Q E hr h=>?_)
 ·obtain⟨B,n,m,S,k,d,rfl,_⟩:=h;rfl
 ·obtain⟨B,n,m,S,k,d,rfl,TA,hd,I,z1,z2,z3,k1,k2⟩:=h
  refine⟨_,(ak (bz (i:=2) uE.nd rfl (Or.inl rfl) (cC (pv 0) T.dH T.qR (qT T) (hr.mono (by decide):bR 1 _) T.sH .nil BW (aa (aO bF (cM (pv 0) (by rfl)) (pv 1) (λ_ _=>rfl)) ao)))
   (ak (bM (cC (pv 0) T.dH T.oE (oH T) (hr.mono (by decide):bR 1 _) T.qt .nil bW (aa (pv 1) (aa (cC (aO bF (cM (pv 0) (by rfl)) (pv 1) (λ_ _=>rfl)) T.dG T.adt (adE T) (hr.mono (by decide):bR 4 _) T.agG .nil bW (aa (pv 2) ao)) ao))))
   (aB (bf (pv 2))))),?_⟩
  try dsimp only[dm,Cx.lu]
  show let Z1:L2.TS:=_;let Z2:L2.TS:=_;let Z3:L2.TS:=_;let D0:Ends:=_;(aR Z1 (aR Z2 (Z3))) D0 _ _
  intro Z1 Z2 Z3 D0
  obtain⟨dx,ht⟩:=TA.ob
  obtain⟨uv,u1,u2⟩:=TA.dn d hd
  refine⟨_,rfl,B .bc,dx,_,rfl,ht,amU,_,rfl,B .bc,_,dx,_,_,rfl,ht,T.dH,T.ie,ack,_,rfl,B .downs,_,_,_,rfl,rfl,bZ.of TA.os,bQ hd,?_⟩
  refine⟨_,B (.dn d),uv,rfl,u1,λe0=>?_,λv r0 e0=>?_⟩
  ·subst e0
   refine k1 ?_
   cases e:S.dn d with
   | nil=>rfl
   | cons l r=>rw[e]at u2;simp only[List.map_cons,aH]at u2;obtain⟨_,_,z,_⟩:=u2;cases z
  ·subst e0
   cases e:S.dn d with
   | nil=>rw[e]at u2;simp only[List.map_nil,aH]at u2;cases u2
   | cons l r =>
     rw[e]at u2
     obtain⟨b,us,z,hb,u3⟩:=ag6 u2
     cases z
     have T1:=TA.ala hd u3
     have f1:TF H (upd H (B (.dn d)) (.lst r0)) B n m:=TF.wr (x:=.dn d) hd
     have hb1:=f1.tups TA _ _ hb
     generalize upd H (B (.dn d)) (.lst r0)=H1 at T1 f1 hb1
     obtain⟨yg,ht1⟩:=T1.ob
     obtain⟨⟨dx2,wv,g1,_⟩,_⟩:=T1.dk d hd
     obtain⟨p,hp,hpl,_⟩:=I.dn d hd l (by rw[e];simp)
     refine⟨_,rfl,B .bc,yg,_,rfl,ht1,aiS,_,rfl,_,rfl,B .bc,_,yg,_,_,rfl,ht1,T.dH,T.fQ,tU,_,rfl,B .lL,_,_,_,rfl,rfl,bZ.of T1.ds,bQ hd,B (.dk d),dx2,_,rfl,g1,eX _ _ (by decide +kernel) (by decide +kernel),_,rfl,?_⟩
     refine⟨B (.dk d),B (.cp d),S.ds d,k,b,l,rfl,T1.dk d hd,by lia,hb1,λv H2 D2 f2 r2=>?_⟩
     rw[(S.ds d).ao6 l hpl]at D2 r2
     dsimp only[Ii,List.append_nil]
     refine YK (z:=(S.ds d).ug l) T1 hd (DS.Ie _ _).1 (DS.Ie _ _).2 z1 z2 D2 (by lia) f2 r2 λl1 xs H3 T3 f3 h1 r3=>?_
     refine⟨_,rfl,?_⟩
     exact k2 l r e b H3 T3 (f1.trans f3 (Tv.refl _ _ _ _)) (f3.tups T1 _ _ hb1)
theorem Q5(T:Txt K w mg t):cZ P w K mg base (CX1 P w) 6 t.eG t.qg ["self","desk"] (ax8 (c4 t) t.aJ):=by
 refine T.Uu.okX jf (λvs H Q E h=>?_) (λcdv A outer s H vs Q E hr h=>?_)
 ·obtain⟨B,n,m,S,k,d,rfl,_⟩:=h;rfl
 ·obtain⟨B,n,m,S,k,d,rfl,TA,hd,I,z1,z2,k1,k2⟩:=h
  have sl:sizeLine=16777216:=by decide
  refine⟨_,(ak (bz (i:=2) jf.nd rfl (Or.inl rfl) (cC (pv 0) T.dH T.qR (qT T) (hr.mono (by decide):bR 1 _) T.sH .nil BW (aa (aO bF (cM (pv 0) (by rfl)) (pv 1) (λ_ _=>rfl)) ao)))
   (ak (bz (i:=3) jf.nd rfl (Or.inl rfl) (cC (cM (pv 0) (by rfl)) T.aiZ T.adv (adG T) (hr.mono (by decide):bR 5 _) T.agN .nil bW (aa (pv 1) (aa (pv 2) ao))))
   (ak (tY PassesOwn.leaving rfl (lO (pv 3)) (Qq rfl (jd (cN (i:=4) jf.nd rfl (Or.inl rfl)) (jd (cN (i:=5) jf.nd rfl (Or.inl rfl)) HW))) (aB (bM (eN PySem.F.plainAttrs_list PySem.F.slot_list_append PySem.F.type_list_append cD (aO bF (cM (pv 0) (by rfl)) (pv 4) (λ_ _=>rfl)) (aa (pv 5) ao)))))
   (aB (bf (pv 2)))))),?_⟩
  try dsimp only[dm,Cx.lu]
  show let Z1:L2.TS:=_;let Z2:L2.TS:=_;let Z3:L2.TS:=_;let Z4:L2.TS:=Ub _ _ Z3;let Z5:L2.TS:=_;let D0:Ends:=_;(aR Z1 (aR Z2 (aR Z4 (Z5)))) D0 _ _
  intro Z1 Z2 Z3 Z4 Z5 D0
  obtain⟨dx,ht⟩:=TA.ob
  obtain⟨uv,u1,u2⟩:=TA.up d hd
  refine⟨_,rfl,B .bc,dx,_,rfl,ht,amU,_,rfl,B .bc,_,dx,_,_,rfl,ht,T.dH,T.gQ,ac5,_,rfl,B .ups,_,_,_,rfl,rfl,bZ.of TA.us,bQ hd,?_⟩
  refine⟨_,B (.up d),uv,rfl,u1,λe0=>?_,λv r0 e0=>?_⟩
  ·subst e0
   refine k1 ?_
   cases e:S.up d with
   | nil=>rfl
   | cons l r=>rw[e]at u2;simp only[List.map_cons,aH]at u2;obtain⟨_,_,z,_⟩:=u2;cases z
  ·subst e0
   cases e:S.up d with
   | nil=>rw[e]at u2;simp only[List.map_nil,aH]at u2;cases u2
   | cons l r =>
     rw[e]at u2
     obtain⟨b,us,z,hb,u3⟩:=akt u2
     cases z
     obtain⟨_,hlp,hlg,hok⟩:=I.take hd e
     have T1:=TA.ago hd u3
     have f1:TF H (upd H (B (.up d)) (.lst r0)) B n m:=TF.wr (x:=.up d) hd
     have hb1:=f1.tups TA _ _ hb
     generalize upd H (B (.up d)) (.lst r0)=H1 at T1 f1 hb1
     obtain⟨yg,ht1⟩:=T1.ob
     obtain⟨dx2,hh⟩:=T1.hl.ob
     refine⟨_,rfl,B .bc,_,yg,_,_,rfl,ht1,T.dH,T.sW,amT,B (.h .hall),dx2,_,rfl,hh,amL,_,rfl,_,rfl,?_⟩
     refine⟨λx=>B (.h x),m,S.pg,b,l,d,rfl,T1.hl,hb1,hlp,hlg,(I.pn _ hlp).rw,by have:=z1 l.pg;lia,?_⟩
     intro pl A' vs H2 hpl HA2 hf2 mv nl eh hl2 rp2
     obtain⟨T2,f2,tv2⟩:=T1.hall HA2 hf2 mv eh
     have hb2:=f2.tups T1 _ _ hb1
     have nl2:∀x:Tb,x.ok n m->pl≠mvB B A' x:=λx hx=>by
      cases x with
      | h y=>exact nl y hx
      | _=>exact(T1.ne hx hpl).symm
     generalize hB2:mvB B A'=B2 at T2 tv2 nl2
     have et:B2 .bc=B .bc:=by rw[<-hB2];rfl
     have f12:=f1.trans f2 (Tv.refl _ _ _ _)
     have aya:Tv H B B2 n m:=λx hx=>(tv2 x hx).imp id λz=>f1.lv _ z
     have hvl:vs.length=((S.pg l.pg).take l.pg d l).2.length:=by rw[rp2.length,List.length_map]
     have htl:=((S.pg l.pg).akd l.pg d l).2
     have hmu:=z1 l.pg
     generalize hz:((S.pg l.pg).take l.pg d l).2=zs at rp2 hvl htl hok
     rw[<-et]
     refine⟨_,rfl,pl,rfl,⟨_,bZ.of hl2⟩,?_⟩
     let PV1:Nat->St->Hp->Prop:=λi σ' H'=>(∃o1 o2,σ'=[some (.ref (B2 .bc)),some (.int d),some (.ref b),some (.ref pl),o1,o2])/\i<=vs.length/\cG (c4 t) H' B2 n m {S with up:=aG S.up d r,pg:=aG S.pg l.pg ((S.pg l.pg).take l.pg d l).1,dn:=post S.dn (zs.take i)} k/\TF H2 H' B2 n m
     refine tZ (xs:=vs) PV1 ?_ ?_ ?_ ?_
     ·refine⟨⟨_,_,rfl⟩,Nat.zero_le _,?_,TF.refl _ _ _ _⟩
      simpa[post] using T2
     ·rintro i σ' H' _ ⟨_,_,_,f'⟩
      exact bZ.of (f'.kp _ _ hl2 nl2)
     ·rintro i y σ' H' hy ⟨⟨o1,o2,rfl⟩,hi,T',f'⟩
      have hi':i<vs.length:=(List.getElem?_eq_some_iff.mp hy).1
      obtain⟨q,hq,rq⟩:=acA (rp2.aZ (f'.tups T2) (dg _)) hy
      have hqm:q∈zs:=List.mem_of_getElem? hq
      have hqn:q.1<n:=(hok q hqm).1
      obtain⟨qd,ql⟩:=q
      simp only[pairD,Rep,aH]at rq
      obtain⟨c,us',rfl,hc,_,_,rfl,rfl,lv,_,rfl,rlv,rfl⟩:=rq
      have htk:zs.take (i+1)=zs.take i++[(qd,ql)]:=by rw[List.take_add_one,hq];rfl
      refine⟨c,_,rfl,dF.of hc,rfl,_,_,rfl,_,_,rfl,rfl,?_⟩
      obtain⟨dx3,ht3⟩:=T'.ob
      obtain⟨dv,d1,d2⟩:=T'.dn qd hqn
      have hdl:dv.length<sizeLine:=by
       rw[d2.length,List.length_map]
       show(post S.dn (zs.take i) qd).length<_
       have h1:=Ml S.dn (zs.take i) qd
       have h2:=z2 qd
       have h3:(zs.take i).length<=zs.length:=by rw[List.length_take];lia
       lia
      refine⟨_,rfl,B2 .bc,_,dx3,_,_,rfl,ht3,T.dH,T.ie,ack,_,rfl,B2 .downs,_,_,_,rfl,rfl,bZ.of T'.os,bQ hqn,.inl ⟨rfl,_,bZ.of d1⟩,_,rfl,B2 (.dn qd),dv,_,rfl,rfl,d1,hdl,?_⟩
      have rp3:aH H' (dv++[lv]) ((post S.dn (zs.take i) qd++[ql]).map Let.d):=by
       rw[List.map_append]
       exact aH.snoc d2 rlv
      have T4:=T'.ala hqn rp3
      refine⟨⟨_,_,rfl⟩,by lia,?_,f'.trans (TF.wr (x:=.dn qd) hqn) (Tv.refl _ _ _ _)⟩
      rw[htk,acg]
      exact T4
     ·rintro σ' H' ⟨⟨o1,o2,rfl⟩,_,T',f'⟩
      rw[hvl,List.take_length]at T'
      refine⟨_,rfl,?_⟩
      refine k2 l r e b B2 H' ?_ (f12.trans f' aya) aya et (f'.tups T2 _ _ hb2)
      unfold TS.Xi
      rw[hz]
      exact T'
end
def xOf(nd np wt nc nl:Addr)(s:Str):Addr:=if s="no desk" then nd else if s="no page" then np else if s="waiting" then wt else if s="no copy" then nc else nl
section
variable{nd np wt nc nl:Addr}
theorem anW:xOf nd np wt nc nl "no desk"=nd:=by kernel_rfl
theorem anY:xOf nd np wt nc nl "no page"=np:=by kernel_rfl
theorem anZ:xOf nd np wt nc nl "waiting"=wt:=by kernel_rfl
theorem an0:xOf nd np wt nc nl "no copy"=nc:=by kernel_rfl
theorem ajc:xOf nd np wt nc nl "no letter"=nl:=by kernel_rfl
end
def auS(c:C4)(X:Str->Addr):Sp:=λvs H Q E=>∃B n m S k a x se,∃tt:Nat,vs=[.ref (B .bc),.ref a]/\cG c H B n m S k/\H a=some (.tup (cB.vs x))/\jy n m S/\Bd tt S se/\tt<=1500/\k<=800000/\
 (qu n m S x=""->∀v B' H',cG c H' B' n m (S.step n m x).1 (k+2)->TF H H' B n m->Tv H B B' n m->B' .bc=B .bc->Rep H' v (S.step n m x).2->Q v H')/\
 ∀s,qu n m S x=s->s≠""->∀H',bJ H H'->E (.ref (X s)) none H'
section
variable{n m d:Nat}{S:TS}(h1:inR (d:Int) n)
include h1
theorem akB:qu n m S (.up d)=bif (S.up d).isEmpty then("no letter":Str)else "":=by show(if inR (d:Int) n then _ else _)=_;rw[if_pos h1];rfl
theorem acB:qu n m S (.down d)=bif (S.dn d).isEmpty then("no letter":Str)else "":=by show(if inR (d:Int) n then _ else _)=_;rw[if_pos h1];rfl
theorem acC{p:Int}(h2:inR p m):qu n m S (.rest d p)=bif decide ((S.ds d).rt p=.no)then("no copy":Str)else "":=by show(if inR (d:Int) n then(if inR p m then _ else _)else _)=_;rw[if_pos h1,if_pos h2];rfl
theorem als{p:Int}(h2:inR p m):qu n m S (.look d p)=bif (S.ds d).ws.isSome then("waiting":Str)else "":=by show(if inR (d:Int) n then(if inR p m then _ else _)else _)=_;rw[if_pos h1,if_pos h2];rfl
theorem an1{p y:Int}(h2:inR p m):qu n m S (.put d p y)=bif (S.ds d).ws.isSome then("waiting":Str)else "":=by show(if inR (d:Int) n then(if inR p m then _ else _)else _)=_;rw[if_pos h1,if_pos h2];rfl
theorem akC{q:W}(h2:inR q.pg m):qu n m S (wd d q)=bif (S.ds d).ws.isSome then("waiting":Str)else "":=by
 cases q with
 | look p=>exact als h1 h2
 | put p y=>exact an1 h1 h2
theorem aqC{p:Int}{x:cB}(h2:¬inR p m)(hx:x=.look d p\/(∃y,x=.put d p y)\/x=.rest d p):qu n m S x="no page":=by
 rcases hx with rfl | ⟨y,rfl⟩ | rfl<;>(show(if inR (d:Int) n then(if inR p m then _ else _)else _)=_;rw[if_pos h1,if_neg h2])
end
theorem an2(S:DS)(w:W):akA S w=if S.ok w then acz S w else .s "waits":=by cases w<;>rfl
section
variable{P:Program}{w:World}{K:PySem.W.Frag}{mg:Str->Option Value}{base:Heap}{t:JT}
abbrev xT(t:JT):Str->Addr:=xOf t.bj t.aX t.aM t.aV t.aJ
theorem UW(T:Txt K w mg t):cZ P w K mg base (CX1 P w) 7 t.fj t.rJ ["self","deed"] (auS (c4 t) (xT t)):=by
 refine T.X3.okX lU (λvs H Q E h=>?_) (λcdv A outer s H vs Q E hr h=>?_)
 ·obtain⟨B,n,m,S,k,a,x,se,tt,rfl,_⟩:=h;rfl
 ·obtain⟨B,n,m,S,k,a,x,se,tt,rfl,TA,ha,I,bd,ht0,hk,k1,k2⟩:=h
  have n1:("no desk":Str)≠"":=by decide +kernel
  have n2:("no page":Str)≠"":=by decide +kernel
  have n3:("no letter":Str)≠"":=by decide +kernel
  have n4:("no copy":Str)≠"":=by decide +kernel
  have n5:("waiting":Str)≠"":=by decide +kernel
  have hbt:=arJ ht0
  obtain⟨dx,ht⟩:=TA.ob
  have hrow:=bd.row
  refine⟨_,(ak (bz (i:=2) lU.nd rfl (Or.inl rfl) (aO bC (pv 1) aA (λ_ _=>rfl)))
   (ak (bz (i:=3) lU.nd rfl (Or.inl rfl) (aO bC (pv 1) aA (λ_ _=>rfl)))
   (ak (bM (cC (pv 0) T.dH T.JZ (Ka T) (hr.mono (by decide):bR 1 _) T.MK .nil BW (aa (pv 3) ao)))
   (ak (b8 (aU cR (pv 2) aC (bu _)) (aB (bf (cC (pv 0) T.dH T.QS (Q5 T) (hr.mono (by decide):bR 6 _) T.Uv .nil BW (aa (pv 3) ao)))) bD)
   (ak (b8 (aU cR (pv 2) aC (bu _)) (aB (bf (cC (pv 0) T.dH T.J3 (Kd T) (hr.mono (by decide):bR 6 _) T.M8 .nil BW (aa (pv 3) ao)))) bD)
   (ak (bz (i:=4) lU.nd rfl (Or.inl rfl) (aO bC (pv 1) aA (λ_ _=>rfl)))
   (ak (bM (cC (pv 0) T.dH T.J0 (Kc T) (hr.mono (by decide):bR 1 _) T.MP .nil BW (aa (pv 4) ao)))
   (ak (b8 (aU cR (pv 2) aC (bu _)) (aB (bf (cC (pv 0) T.dH T.Ut (UT T) (hr.mono (by decide):bR 4 _) T.Yb .nil BW (aa (pv 3) (aa (pv 4) ao))))) bD)
   (ak (b8 (aU cR (pv 2) aC (bu _)) (aB (bf (cC (pv 0) T.dH T.Us (UJ T) (hr.mono (by decide):bR 4 _) T.X6 .nil BW (aa (pv 3) (aa (pv 4) ao))))) bD)
   (aB (bf (cC (pv 0) T.dH T.X7 (YL T) (hr.mono (by decide):bR 4 _) T.aaW .nil BW (aa (pv 3) (aa (pv 4) (aa (aO bC (pv 1) aA (λ_ _=>rfl)) ao))))))))))))))),?_⟩
  try dsimp only[dm,Cx.lu]
  show let Z1:L2.TS:=_;let Z2:L2.TS:=_;let Z3:L2.TS:=_;let Z4:L2.TS:=_;let Z5:L2.TS:=di _ Z4 bN;let Z6:L2.TS:=_;let Z7:L2.TS:=di _ Z6 bN;let Z8:L2.TS:=_;let Z9:L2.TS:=_;let Cp:L2.TS:=_;let Nu:L2.TS:=di _ Cp bN;let Nv:L2.TS:=_;let Sy:L2.TS:=di _ Nv bN;let SJ:L2.TS:=_;let D0:Ends:=_;(aR Z1 (aR Z2 (aR Z3 (aR Z5 (aR Z7 (aR Z8 (aR Z9 (aR Nu (aR Sy (SJ)))))))))) D0 _ _
  intro Z1 Z2 Z3 Z4 Z5 Z6 Z7 Z8 Z9 Cp Nu Nv Sy SJ D0
  refine zt rfl (dF.of ha) (cB.at0 x) ?_
  refine zt rfl (dF.of ha) (cB.at1 x) ?_
  refine⟨_,rfl,B .bc,dx,_,rfl,ht,atq,_,rfl,B,n,m,S,k,x.dk,rfl,TA,λhin=>?_,λhn=>?_⟩
  ·obtain⟨d,hd⟩:∃d:Nat,x.dk=(d:Int):=⟨x.dk.toNat,by unfold inR at hin;lia⟩
   have hdn:d<n:=by unfold inR at hin;lia
   have U0:inR (d:Int) n:=by rw[<-hd];exact hin
   have hup:=bd.up d
   rw[hd]
   have dY:∀(wq:W) (p:Nat),x=wd d wq->wq.pg=(p:Int)->p<m->auP (c4 t) t.aM H B n m S k d p wq Q E:=λwq p ex ew hp=>by
    subst ex
    have h2:inR wq.pg m:=by rw[ew];exact⟨by lia,by lia⟩
    refine⟨λh0 v H' T' f' r'=>?_,λh0 H' s'=>?_⟩
    ·have st:=(akv hdn hp ew h0).1
     refine k1 ?_ v B H' ?_ f' (Tv.refl _ _ _ _) rfl ?_
     ·rw[akC U0 h2,h0];rfl
     ·rw[st];exact T'
     ·rw[st,<-an2];exact r'
    ·have:=k2 "waiting" (by
      obtain⟨w',hw'⟩:=Option.ne_none_iff_exists'.mp h0
      rw[akC U0 h2,hw'];rfl) n5 H' s'
     rw[show xT t "waiting"=t.aM from anZ]at this
     exact this
   have ajd:∀p:Int,¬inR p m->(x=.look d p\/(∃y,x=.put d p y)\/x=.rest d p)->E (.ref t.aX) none H:=λp hp hx=>by
    have:=k2 "no page" (aqC U0 hp hx) n2 H (bJ.refl _)
    rw[show xT t "no page"=t.aX from anY]at this
    exact this
   refine⟨_,rfl,rfl,_,rfl,?_⟩
   cases x with
   | up d' =>
     have ed:d'=(d:Int):=hd
     subst ed
     refine bI fK ?_
     refine⟨_,rfl,B .bc,dx,_,rfl,ht,atx,_,rfl,B,n,m,S,k,d,rfl,TA,hdn,I,λp=>by have:=bd.mu p;lia,λe=>by have:=bd.dn e;lia,λe=>?_,λl r e b B' H' T' f' tv' et' hb'=>?_⟩
     ·have:=k2 "no letter" (by rw[akB U0,e];rfl) n3 H (bJ.refl _)
      rw[show xT t "no letter"=t.aJ from ajc]at this
      exact this
     ·have st:S.step n m (.up d)=(S.Xi d l r,l.d):=by simp only[TS.step];rw[if_pos U0,Int.toNat_natCast];unfold TS.upD;rw[e]
      refine k1 (by rw[akB U0,e];rfl) _ B' H' ?_ f' tv' et' ?_
      ·rw[st];exact T'.more (by lia)
      ·rw[st];exact Yu hb'
   | down d' =>
     have ed:d'=(d:Int):=hd
     subst ed
     refine aP (dj (a:="down") (b:="up") (by decide +kernel)) ?_
     refine⟨_,rfl,rfl,_,rfl,?_⟩
     refine bI fK ?_
     refine⟨_,rfl,B .bc,dx,_,rfl,ht,aty,_,rfl,B,n,m,S,k,d,rfl,TA,hdn,I,by lia,by lia,hk,λe=>?_,λl r e b H' T' f' hb'=>?_⟩
     ·have:=k2 "no letter" (by rw[acB U0,e];rfl) n3 H (bJ.refl _)
      rw[show xT t "no letter"=t.aJ from ajc]at this
      exact this
     ·have st:S.step n m (.down d)=(S.Ik d l r,l.d):=by simp only[TS.step];rw[if_pos U0,Int.toNat_natCast];unfold TS.Xj;rw[e]
      refine k1 (by rw[acB U0,e];rfl) _ B H' ?_ f' (Tv.refl _ _ _ _) rfl ?_
      ·rw[st];exact T'
      ·rw[st];exact aku hb'
   | rest d' p =>
     have ed:d'=(d:Int):=hd
     subst ed
     refine aP (dj (a:="rest") (b:="up") (by decide +kernel)) ?_
     refine⟨_,rfl,rfl,_,rfl,?_⟩
     refine aP (dj (a:="rest") (b:="down") (by decide +kernel)) ?_
     refine zt rfl (dF.of ha) rfl ?_
     refine⟨_,rfl,B .bc,dx,_,rfl,ht,aiR,_,rfl,B,n,m,S,k,p,rfl,TA,λhp=>?_,λhp=>ajd p hp (.inr (.inr rfl))⟩
     obtain⟨pn,rfl⟩:∃q:Nat,p=(q:Int):=⟨p.toNat,by unfold inR at hp;lia⟩
     refine⟨_,rfl,rfl,_,rfl,?_⟩
     refine bI fK ?_
     refine⟨_,rfl,B .bc,dx,_,rfl,ht,atw,_,rfl,_,rfl,B,n,m,S,k,d,pn,rfl,TA,hdn,by lia,hk,λe H' T' f'=>?_,λe=>?_⟩
     ·have st:S.step n m (.rest d pn)=(S.lB d pn,.s "done"):=by simp only[TS.step];rw[if_pos U0,if_pos hp,Int.toNat_natCast,if_neg e,Int.toNat_natCast]
      refine k1 (by rw[acC U0 hp,decide_eq_false e];rfl) _ B H' ?_ f' (Tv.refl _ _ _ _) rfl ?_
      ·rw[st];exact T'
      ·rw[st];simp only[Rep]
     ·have:=k2 "no copy" (by rw[acC U0 hp,decide_eq_true e];rfl) n4 H (bJ.refl _)
      rw[show xT t "no copy"=t.aV from an0]at this
      exact this
   | look d' p =>
     have ed:d'=(d:Int):=hd
     subst ed
     refine aP (dj (a:="look") (b:="up") (by decide +kernel)) ?_
     refine⟨_,rfl,rfl,_,rfl,?_⟩
     refine aP (dj (a:="look") (b:="down") (by decide +kernel)) ?_
     refine zt rfl (dF.of ha) rfl ?_
     refine⟨_,rfl,B .bc,dx,_,rfl,ht,aiR,_,rfl,B,n,m,S,k,p,rfl,TA,λhp=>?_,λhp=>ajd p hp (.inl rfl)⟩
     obtain⟨pn,rfl⟩:∃q:Nat,p=(q:Int):=⟨p.toNat,by unfold inR at hp;lia⟩
     refine⟨_,rfl,rfl,_,rfl,?_⟩
     refine aP (dj (a:="look") (b:="rest") (by decide +kernel)) ?_
     refine⟨_,rfl,rfl,_,rfl,?_⟩
     refine bI fK ?_
     exact⟨_,rfl,B .bc,dx,_,rfl,ht,atu,_,rfl,_,rfl,B,n,m,S,k,d,pn,rfl,TA,hdn,by lia,by lia,hk,dY (.look pn) pn rfl rfl (by unfold inR at hp;lia)⟩
   | put d' p y =>
     have ed:d'=(d:Int):=hd
     subst ed
     refine aP (dj (a:="put") (b:="up") (by decide +kernel)) ?_
     refine⟨_,rfl,rfl,_,rfl,?_⟩
     refine aP (dj (a:="put") (b:="down") (by decide +kernel)) ?_
     refine zt rfl (dF.of ha) rfl ?_
     refine⟨_,rfl,B .bc,dx,_,rfl,ht,aiR,_,rfl,B,n,m,S,k,p,rfl,TA,λhp=>?_,λhp=>ajd p hp (.inr (.inl ⟨y,rfl⟩))⟩
     obtain⟨pn,rfl⟩:∃q:Nat,p=(q:Int):=⟨p.toNat,by unfold inR at hp;lia⟩
     refine⟨_,rfl,rfl,_,rfl,?_⟩
     refine aP (dj (a:="put") (b:="rest") (by decide +kernel)) ?_
     refine⟨_,rfl,rfl,_,rfl,?_⟩
     refine aP (dj (a:="put") (b:="look") (by decide +kernel)) ?_
     exact⟨_,rfl,B .bc,dx,_,rfl,ht,atv,_,rfl,_,rfl,zt rfl (dF.of ha) rfl ⟨B,n,m,S,k,d,pn,y,rfl,TA,hdn,by lia,by lia,hk,dY (.put pn y) pn rfl rfl (by unfold inR at hp;lia)⟩⟩
  ·have:=k2 "no desk" (by unfold qu;rw[if_neg hn]) n1 H (bJ.refl _)
   rw[show xT t "no desk"=t.bj from anW]at this
   exact this
structure Kp(p:Addr)(H H':Hp):Prop where
 kp:∀b o,H b=some o->b≠p->H' b=some o
 lv:Lv H H'
theorem Kp.trans{p:Addr}{H H1 H2:Hp}(x:Kp p H H1)(y:Kp p H1 H2):Kp p H H2:=⟨λb o h n=>y.kp b o (x.kp b o h n) n,x.lv.trans y.lv⟩
theorem Kp.same{p:Addr}{H H1:Hp}(s:bJ H H1):Kp p H H1:=⟨λb o h _=>s b o h,Lv.same s⟩
theorem Kp.upd{p:Addr}{H:Hp}{o:HO}:Kp p H (upd H p o):=⟨λb u h n=>by rw[aq n];exact h,Lv.upd⟩
theorem Kp.tups{p:Addr}{H H1:Hp}(k:Kp p H H1){o:HO}(hp:H p=some o)(ho:∀xs,o≠.tup xs):cg H H1:=λb xs e=>k.kp b _ e λz=>by rw[z,hp]at e;exact ho xs (Option.some.inj e)
theorem alu{ι:Type}{A:ι->Addr}{ok:ι->Prop}(rk:ι->Nat)(Hs:Nat->Hp)(mono:∀i,Lv (Hs i) (Hs (i+1)))(new:∀x,ok x->Hs (rk x) (A x)=none)(live:∀x,ok x->∃o,Hs (rk x+1) (A x)=some o)
 (same:∀x y,ok x->ok y->rk x=rk y->A x=A y->x=y):∀x y,ok x->ok y->A x=A y->x=y:=by
 have mo:∀k i,Lv (Hs i) (Hs (i+k)):=λk=>by
  induction k with
  | zero=>exact λi=>Lv.refl _
  | succ k ih=>exact λi=>(ih i).trans (mono (i+k))
 have key:∀x y,ok x->ok y->rk x<rk y->A x≠A y:=λx y hx hy h e=>by
  obtain⟨o,h1⟩:=live x hx
  have h2:=mo (rk y - (rk x+1)) (rk x+1) (A x)
  rw[show rk x+1+(rk y - (rk x+1))=rk y by lia,e,new y hy]at h2
  rw[e,h2 rfl]at h1
  cases h1
 intro x y hx hy e
 rcases Nat.lt_trichotomy (rk x) (rk y)with h | h | h
 ·exact absurd e (key x y hx hy h)
 ·exact same x y hx hy h e
 ·exact absurd e.symm (key y x hy hx h)
def ds0:DS:=⟨λ_=>.no,λ_=>0,none⟩
theorem aje{C:Addr}{n:Nat}{acc:Addr}{te:TE}{σ:St}{H1:Hp}{Q:VK}(Pσ:St->Prop)(h0:Pσ σ)(hacc:H1 acc=none)(hn:n<=1000)
 (hg:∀i σ',Pσ σ'->Pσ (σ'.set 0 (some (.int i))))
 (hel:∀σ' H' (R:VK),Pσ σ'->(∀x d H'',H' x=none->H' d=none->bJ H' H''->cz C H'' x d ds0 0->R (.ref x) H'')->te σ' H' R)
 (hd:∀(f g:Nat->Addr) H',bJ H1 H'->H' acc=some (.lst ((List.range n).map λd=>V.ref (f d)))->(∀d,d<n->H1 (f d)=none/\H1 (g d)=none/\f d≠acc/\g d≠acc/\cz C H' (f d) (g d) ds0 0)->(∀d e,d<n->e<n->f d=f e->d=e)->(∀d e,d<n->e<n->g d=g e->d=e)->Q (.ref acc) H') :
 EY (Itr 0 n) (ab2 0) ak4 te σ acc H1 Q:=by
 have sl:sizeLine=16777216:=by decide
 let PV1:Nat->List V->St->Hp->Prop:=λi zs σ' H'=>Pσ σ'/\bJ H1 H'/\H' acc=some (.lst zs)/\∃f g:Nat->Addr,zs=(List.range i).map (λd=>V.ref (f d))/\(∀d,d<i->H1 (f d)=none/\H1 (g d)=none/\f d≠acc/\g d≠acc/\cz C H' (f d) (g d) ds0 0)/\(∀d e,d<i->e<i->f d=f e->d=e)/\∀d e,d<i->e<i->g d=g e->d=e
 refine zQ PV1 ?_ ?_ ?_ ?_
 ·exact⟨h0,az hacc,aj,λ_=>0,λ_=>0,rfl,λd hd=>absurd hd (Nat.not_lt_zero _),λd e hd=>absurd hd (Nat.not_lt_zero _),λd e hd=>absurd hd (Nat.not_lt_zero _)⟩
 ·rintro i zs σ' H' _ ⟨_,_,h,_⟩
  exact h
 ·rintro i zs σ' H' hi ⟨hp,s',ha',f,g,rfl,hf,inj,anG⟩
  refine zR (hel _ H' _ (hg _ _ hp) λx d H'' hx hdn s'' D''=>?_)
  have apG:=s'' _ _ ha'
  have nax:acc≠x:=aF ha' hx
  have nad:acc≠d:=aF ha' hdn
  have hz:((List.range i).map λd=>V.ref (f d)).length<sizeLine:=by rw[List.length_map,List.length_range];lia
  have tl:=jK (vs:=(List.range i).map (λd=>V.ref (f d))++[.ref x]) apG
  have live:∀e,e<i->(∃o,H' (f e)=some o)/\∃o,H' (g e)=some o:=λe he=>by
   obtain⟨⟨dx,v,e1,_⟩,⟨kvs,e2,_⟩⟩:=(hf e he).2.2.2.2
   exact⟨⟨_,e1⟩,⟨_,e2⟩⟩
  refine t8.mk hi apG hz ⟨hg _ _ hp,dX (s'.trans s'') hacc,aj,aG f i x,aG g i d,?_,λe he=>?_,λa e hd he h=>?_,λa e hd he h=>?_⟩
  ·rw[List.range_succ,List.map_append]
   congr 1
   ·refine List.map_congr_left λd hd=>?_
    rw[aW _ _ (Nat.ne_of_lt (List.mem_range.mp hd))]
   ·show [V.ref x]=[V.ref _];rw[aK]
  ·by_cases y:e=i
   ·subst y
    rw[aK,aK]
    exact⟨bJ.free s' hx,bJ.free s' hdn,nax.symm,nad.symm,D''.keep tl (λo z=>by rw[aq nax.symm];exact z) λo z=>by rw[aq nad.symm];exact z⟩
   ·rw[aW _ _ y,aW _ _ y]
    obtain⟨h1,h2,h3,h4,h5⟩:=hf e (by lia)
    exact⟨h1,h2,h3,h4,(h5.same s'').keep tl (λo z=>by rw[aq h3];exact z) λo z=>by rw[aq h4];exact z⟩
  ·by_cases h1:a=i
   ·by_cases h2:e=i
    ·rw[h1,h2]
    ·rw[h1,aK,aW _ _ h2]at h
     obtain⟨⟨o,z⟩,_⟩:=live e (by lia)
     rw[<-h,hx]at z;cases z
   ·by_cases h2:e=i
    ·rw[h2,aK,aW _ _ h1]at h
     obtain⟨⟨o,z⟩,_⟩:=live a (by lia)
     rw[h,hx]at z;cases z
    ·rw[aW _ _ h1,aW _ _ h2]at h;exact inj a e (by lia) (by lia) h
  ·by_cases h1:a=i
   ·by_cases h2:e=i
    ·rw[h1,h2]
    ·rw[h1,aK,aW _ _ h2]at h
     obtain⟨_,⟨o,z⟩⟩:=live e (by lia)
     rw[<-h,hdn]at z;cases z
   ·by_cases h2:e=i
    ·rw[h2,aK,aW _ _ h1]at h
     obtain⟨_,⟨o,z⟩⟩:=live a (by lia)
     rw[h,hdn]at z;cases z
    ·rw[aW _ _ h1,aW _ _ h2]at h;exact anG a e (by lia) (by lia) h
 ·rintro zs σ' H' ⟨_,s',ha',f,g,rfl,hf,inj,anG⟩
  exact hd f g H' s' ha' hf inj anG
def ajf(c:C4):Sp:=λvs H Q _=>∃p dx l,∃n:Nat,∃ns:List Int,vs=[.ref p,.int n,.ref l]/\H p=some (.ins c.T dx [])/\H l=some (.lst (ns.map V.int))/\n<=1000/\ns.length<=1000/\
 ∀B H',B .bc=p->(∀x:Tb,x.ok n ns.length->x≠.bc->H (B x)=none)->cG c H' B n ns.length (S0 ns) 0->Kp p H H'->Q .non H'
def rkT:Tb->Nat
 | .bc=>0
 | .h _=>1
 | .lL=>2
 | .dk _=>2
 | .cp _=>2
 | .ups=>3
 | .up _=>3
 | .downs=>4
 | .dn _=>4
 | .row=>5
def hsT(a b c d e f:Hp):Nat->Hp
 | 0=>λ_=>none
 | 1=>a
 | 2=>b
 | 3=>c
 | 4=>d
 | 5=>e
 | _=>f
def bT(p:Addr)(A:Hb->Addr)(ad au aw r:Addr)(f g u o:Nat->Addr):Tb->Addr
 | .bc=>p
 | .h x=>A x
 | .lL=>ad
 | .dk d=>f d
 | .cp d=>g d
 | .ups=>au
 | .up d=>u d
 | .downs=>aw
 | .dn d=>o d
 | .row=>r
theorem adN(T:Txt K w mg t):cZ P w K mg base oY 5 t.iT t.Al ["self","count","numbers"] (ajf (c4 t)):=by
 refine T.agO.ok adg (λvs H Q E h=>?_) (λcdv A outer s H vs Q E hr h=>?_)
 ·obtain⟨p,dx,l,n,ns,rfl,_⟩:=h;rfl
 ·obtain⟨p,dx,l,n,ns,rfl,hp,hl,hn,hns,fin⟩:=h
  have nb : -(2 ^ 62)<=((n:Nat):Int)/\((n:Nat):Int)<2 ^ 62:=⟨by lia,by lia⟩
  have nlp:l≠p:=ju hl hp (by intro z;cases z)
  refine⟨_,(ak (gA (pv 0) (dI dJ (by rfl) T.yU PySem.boot_len (aa (pv 2) ao)) (by rfl))
   (ak (gA (pv 0) (acW T.adl (adH T) (hr.mono (by decide):bR 4 _) (by rfl) T.atL T.agL .nil bW (aa (pv 2) ao)) (by rfl))
   (ak (gA (pv 0) (jJ (fM (xs:=["desk"]) (ys:=[]) (js:=[]) rfl (by decide +kernel) (by decide +kernel) (by decide +kernel) (by rfl) trivial) rfl (gP (by rfl) T.lr (aa (pv 1) ao)) (λ_ _ _ _ _=>(cN (i:=0) (show List.Nodup ((["desk"]:List Str)++([]:List Str):List Str)by decide +kernel) rfl (Or.inl rfl))) (λ_ _ _ _ _=>kY) (λ_ _ _ _ _=>(ame T.adk (adD T) (hr.mono (by decide):bR 2 _) (by rfl) T.atJ T.agD .nil bW))) (by rfl))
   (ak (gA (pv 0) (jJ (fM (xs:=["desk"]) (ys:=[]) (js:=[]) rfl (by decide +kernel) (by decide +kernel) (by decide +kernel) (by rfl) trivial) rfl (gP (by rfl) T.lr (aa (pv 1) ao)) (λ_ _ _ _ _=>(cN (i:=0) (show List.Nodup ((["desk"]:List Str)++([]:List Str):List Str)by decide +kernel) rfl (Or.inl rfl))) (λ_ _ _ _ _=>kY) (λ_ _ _ _ _=>(bO ao))) (by rfl))
   (ak (gA (pv 0) (jJ (fM (xs:=["desk"]) (ys:=[]) (js:=[]) rfl (by decide +kernel) (by decide +kernel) (by decide +kernel) (by rfl) trivial) rfl (gP (by rfl) T.lr (aa (pv 1) ao)) (λ_ _ _ _ _=>(cN (i:=0) (show List.Nodup ((["desk"]:List Str)++([]:List Str):List Str)by decide +kernel) rfl (Or.inl rfl))) (λ_ _ _ _ _=>kY) (λ_ _ _ _ _=>(bO ao))) (by rfl))
   (aB (gA (pv 0) (bO ao) (by rfl)))))))),?_⟩
  try dsimp only[dm,Cx.lu]
  show let Z1:L2.TS:=_;let Z2:L2.TS:=_;let Z3:L2.TS:=_;let Z4:L2.TS:=_;let Z5:L2.TS:=_;let Z6:L2.TS:=_;let D0:Ends:=_;(aR Z1 (aR Z2 (aR Z3 (aR Z4 (aR Z5 (Z6)))))) D0 _ _
  intro Z1 Z2 Z3 Z4 Z5 Z6 D0
  refine⟨_,rfl,l,_,rfl,.inl (bZ.of hl),_,rfl,p,_,dx,[],rfl,hp,T.dH,T.g8,(by show 0<1000;decide),?_⟩
  rw[List.length_map]
  have K1:Kp p H (upd H p (.ins t.bA dx (gk "page_count" (.int (ns.length:Nat)) []))):=Kp.upd
  have hp1:upd H p (.ins t.bA dx (gk "page_count" (.int (ns.length:Nat)) [])) p=some (.ins t.bA dx (gk "page_count" (.int (ns.length:Nat)) [])):=aj
  generalize upd H p (.ins t.bA dx (gk "page_count" (.int (ns.length:Nat)) []))=H1 at K1 hp1
  refine⟨_,rfl,λx dx' hx hdx nx=>?_⟩
  have hl1:=K1.kp _ _ hl nlp
  refine⟨x,dx',l,ns,rfl,aj,?_,hns,λAh H2 eh fr HA kp2 lv2=>⟨rfl,?_⟩⟩
  ·rw[aq (aF hl1 hx),aq (aF hl1 hdx)];exact hl1
  have s12:bJ H1 H2:=λb o e=>kp2 b o (by rw[aq (aF e hx),aq (aF e hdx)];exact e) (aF e hx)
  have frA:∀z:Hb,z.ok ns.length->H1 (Ah z)=none:=λz hz=>by
   by_cases e:z=.hall
   ·rw[e,eh];exact hx
   ·exact Lv.upd _ (Lv.upd _ (fr z hz e))
  clear kp2 fr
  refine⟨_,rfl,p,_,dx,_,rfl,s12 _ _ hp1,T.dH,T.sW,(by show 1<1000;decide),?_⟩
  generalize hf2:gk "hall" (.ref x) (gk "page_count" (.int (ns.length:Nat)) [])=fs2
  have hl2:fs2.length=2:=by rw[<-hf2];rfl
  have K2:Kp p H1 (upd H2 p (.ins t.bA dx fs2)):=(Kp.same s12).trans Kp.upd
  have K2':Kp p H2 (upd H2 p (.ins t.bA dx fs2)):=Kp.upd
  have hp2:upd H2 p (.ins t.bA dx fs2) p=some (.ins t.bA dx fs2):=aj
  have tm2:=K2'.tups (s12 _ _ hp1) (λxs z=>by cases z)
  have npA:∀z:Hb,z.ok ns.length->Ah z≠p:=λz hz e=>by have:=frA z hz;rw[e,hp1]at this;cases this
  have HA2:=HA.keep tm2 (λz hz o e=>K2'.kp _ o e (npA z hz))
  clear HA tm2 K2'
  generalize upd H2 p (.ins t.bA dx fs2)=H2' at K2 hp2 HA2
  refine⟨_,rfl,(n:Int),rfl,nb.1,nb.2,λad had=>?_⟩
  rw[Int.toNat_natCast]
  refine aje (C:=t.bL) (λσ'=>∃o,σ'=[o]) ⟨_,rfl⟩ had hn (λi σ' h=>by obtain⟨o,rfl⟩:=h;exact⟨_,rfl⟩) (λσ' H' R ⟨o,e⟩ hR=>?_) (λf g H3 s3 ha3 hf3 aAL aAM=>?_)
  ·intro y dy hy hdy ny
   refine⟨y,dy,rfl,aj,λd H'' hd'' D'' k''=>⟨rfl,hR y d H'' hy (Lv.upd _ (Lv.upd _ hd'')) (λb o e=>k'' b o ?_ (aF e hy)) D''⟩⟩
   rw[aq (aF e hy),aq (aF e hdy)];exact e
  refine⟨_,rfl,p,_,dx,_,rfl,s3 _ _ hp2,T.dH,T.fQ,(by rw[hl2];show 2<1000;decide),?_⟩
  generalize aqD:gk "desks" (.ref ad) fs2=fs3
  have hl3:fs3.length=3:=by rw[<-aqD,<-hf2];kernel_rfl
  have K3:Kp p H2' (upd H3 p (.ins t.bA dx fs3)):=(Kp.same s3).trans Kp.upd
  have K3':Kp p H3 (upd H3 p (.ins t.bA dx fs3)):=Kp.upd
  have hp3:upd H3 p (.ins t.bA dx fs3) p=some (.ins t.bA dx fs3):=aj
  have tm3:=K3'.tups (s3 _ _ hp2) (λxs z=>by cases z)
  have np3:∀b,H2' b=none->b≠p:=λb e z=>by rw[z,hp2]at e;cases e
  have auU:=K3'.kp _ _ ha3 (np3 _ had)
  have hD3:∀d,d<n->cz t.bL (upd H3 p (.ins t.bA dx fs3)) (f d) (g d) ds0 0:=λd hd=>by
   obtain⟨q1,q2,_,_,q5⟩:=hf3 d hd
   exact q5.keep tm3 (λo e=>K3'.kp _ o e (np3 _ q1)) λo e=>K3'.kp _ o e (np3 _ q2)
  clear ha3 tm3 K3'
  generalize upd H3 p (.ins t.bA dx fs3)=H3' at K3 hp3 auU hD3
  refine⟨_,rfl,(n:Int),rfl,nb.1,nb.2,λau hau=>?_⟩
  rw[Int.toNat_natCast]
  refine yZ (c:=[]) (λσ'=>∃o,σ'=[o]) ⟨_,rfl⟩ hau hn (λi σ' h=>by obtain⟨o,rfl⟩:=h;exact⟨_,rfl⟩) (λσ' H' R ⟨o,e⟩ s' hR=>?_) (λu H4 s4 ha4 hf4 aun=>?_)
  ·exact⟨Dg,λz hz=>hR z _ hz (az hz) aj⟩
  refine⟨_,rfl,p,_,dx,_,rfl,s4 _ _ hp3,T.dH,T.gQ,(by rw[hl3];show 3<1000;decide),?_⟩
  generalize auV:gk "roads_up" (.ref au) fs3=fs4
  have hl4:fs4.length=4:=by rw[<-auV,<-aqD,<-hf2];kernel_rfl
  have K4:Kp p H3' (upd H4 p (.ins t.bA dx fs4)):=(Kp.same s4).trans Kp.upd
  have K4':Kp p H4 (upd H4 p (.ins t.bA dx fs4)):=Kp.upd
  have hp4:upd H4 p (.ins t.bA dx fs4) p=some (.ins t.bA dx fs4):=aj
  have np4:∀b,H3' b=none->b≠p:=λb e z=>by rw[z,hp3]at e;cases e
  have auW:=K4'.kp _ _ ha4 (np4 _ hau)
  have hU4:∀d,d<n->upd H4 p (.ins t.bA dx fs4) (u d)=some (.lst []):=λd hd=>K4'.kp _ _ (hf4 d hd).2.2 (np4 _ (hf4 d hd).1)
  clear ha4 K4'
  generalize upd H4 p (.ins t.bA dx fs4)=H4' at K4 hp4 auW hU4
  refine⟨_,rfl,(n:Int),rfl,nb.1,nb.2,λaw haw=>?_⟩
  rw[Int.toNat_natCast]
  refine yZ (c:=[]) (λσ'=>∃o,σ'=[o]) ⟨_,rfl⟩ haw hn (λi σ' h=>by obtain⟨o,rfl⟩:=h;exact⟨_,rfl⟩) (λσ' H' R ⟨o,e⟩ s' hR=>?_) (λo H5 s5 ha5 hf5 aAQ=>?_)
  ·exact⟨Dg,λz hz=>hR z _ hz (az hz) aj⟩
  refine⟨_,rfl,p,_,dx,_,rfl,s5 _ _ hp4,T.dH,T.ie,(by rw[hl4];show 4<1000;decide),?_⟩
  generalize ayc:gk "roads_down" (.ref aw) fs4=fs5
  have hl5:fs5.length=5:=by rw[<-ayc,<-auV,<-aqD,<-hf2];kernel_rfl
  have K5:Kp p H4' (upd H5 p (.ins t.bA dx fs5)):=(Kp.same s5).trans Kp.upd
  have K5':Kp p H5 (upd H5 p (.ins t.bA dx fs5)):=Kp.upd
  have hp5:upd H5 p (.ins t.bA dx fs5) p=some (.ins t.bA dx fs5):=aj
  have np5:∀b,H4' b=none->b≠p:=λb e z=>by rw[z,hp4]at e;cases e
  have auX:=K5'.kp _ _ ha5 (np5 _ haw)
  have hO5:∀d,d<n->upd H5 p (.ins t.bA dx fs5) (o d)=some (.lst []):=λd hd=>K5'.kp _ _ (hf5 d hd).2.2 (np5 _ (hf5 d hd).1)
  clear ha5 K5'
  generalize upd H5 p (.ins t.bA dx fs5)=H5' at K5 hp5 auX hO5
  refine⟨Dg,λr hr6=>?_⟩
  have npr:r≠p:=λz=>by rw[z,hp5]at hr6;cases hr6
  refine⟨_,rfl,p,_,dx,_,rfl,(by rw[aq npr.symm];exact hp5),T.dH,T.wz,(by rw[hl5];show 5<1000;decide),?_⟩
  have efs:gk "row" (.ref r) fs5=QB ns.length x ad au aw r:=by rw[<-ayc,<-auV,<-aqD,<-hf2];exact amS
  rw[efs]
  have K6:Kp p H5' (upd (upd H5' r (.lst [])) p (.ins t.bA dx (QB ns.length x ad au aw r))):=(Kp.same (az hr6)).trans Kp.upd
  have hp6:upd (upd H5' r (.lst [])) p (.ins t.bA dx (QB ns.length x ad au aw r)) p=some (.ins t.bA dx (QB ns.length x ad au aw r)):=aj
  have auY:upd (upd H5' r (.lst [])) p (.ins t.bA dx (QB ns.length x ad au aw r)) r=some (.lst []):=by rw[aq npr,aj]
  generalize upd (upd H5' r (.lst [])) p (.ins t.bA dx (QB ns.length x ad au aw r))=H6 at K6 hp6 auY
  have K56:=K6
  have K46:=K5.trans K56
  have K36:=K4.trans K46
  have K26:=K3.trans K36
  have nH:∀b,H1 b=none->H b=none:=K1.lv
  have aAX:=K26.tups hp2 (λxs z=>by cases z)
  have aAY:=K36.tups hp3 (λxs z=>by cases z)
  refine fin (bT p Ah ad au aw r f g u o) H6 rfl (λz hz hzn=>?_) ⟨?_,⟨dx,?_⟩,?_,?_,?_,⟨[],auY,?_⟩,λd hd=>⟨[],?_,?_⟩,λd hd=>⟨[],?_,?_⟩,λd hd=>?_,?_⟩ (K1.trans (K2.trans K26))
  ·cases z with
   | bc=>exact absurd rfl hzn
   | h y=>exact nH _ (frA y hz)
   | lL=>exact nH _ (K2.lv _ had)
   | dk d=>exact nH _ (K2.lv _ (hf3 d hz).1)
   | cp d=>exact nH _ (K2.lv _ (hf3 d hz).2.1)
   | ups=>exact nH _ (K2.lv _ (K3.lv _ hau))
   | up d=>exact nH _ (K2.lv _ (K3.lv _ (hf4 d hz).1))
   | downs=>exact nH _ (K2.lv _ (K3.lv _ (K4.lv _ haw)))
   | dn d=>exact nH _ (K2.lv _ (K3.lv _ (K4.lv _ (hf5 d hz).1)))
   | row=>exact nH _ (K2.lv _ (K3.lv _ (K4.lv _ (K5.lv _ hr6))))
  ·refine alu rkT (hsT H1 H2' H3' H4' H5' H6) (λi=>?_) (λz hz=>?_) (λz hz=>?_) (λy z hy hz hrk e=>?_)
   ·match i with
    | 0=>exact λ_ _=>rfl
    | 1=>exact K2.lv
    | 2=>exact K3.lv
    | 3=>exact K4.lv
    | 4=>exact K5.lv
    | 5=>exact K6.lv
    | _+6=>exact Lv.refl _
   ·cases z with
    | bc=>rfl
    | h y=>exact frA y hz
    | lL=>exact had
    | dk d=>exact(hf3 d hz).1
    | cp d=>exact(hf3 d hz).2.1
    | ups=>exact hau
    | up d=>exact(hf4 d hz).1
    | downs=>exact haw
    | dn d=>exact(hf5 d hz).1
    | row=>exact hr6
   ·cases z with
    | bc=>exact⟨_,hp1⟩
    | h y=>obtain⟨o',e',_⟩:=HA2.live y hz;exact⟨o',e'⟩
    | lL=>exact⟨_,auU⟩
    | dk d=>obtain⟨⟨dz,vz,ez,_⟩,_⟩:=hD3 d hz;exact⟨_,ez⟩
    | cp d=>obtain⟨_,⟨kz,ez,_⟩⟩:=hD3 d hz;exact⟨_,ez⟩
    | ups=>exact⟨_,auW⟩
    | up d=>exact⟨_,hU4 d hz⟩
    | downs=>exact⟨_,auX⟩
    | dn d=>exact⟨_,hO5 d hz⟩
    | row=>exact⟨_,auY⟩
   ·have dc:∀a b,a<n->b<n->f a≠g b:=λa b ha hb e=>by
     obtain⟨⟨dz,vz,ez,_⟩,_⟩:=hD3 a ha
     obtain⟨_,⟨kz,ez2,_⟩⟩:=hD3 b hb
     rw[e,ez2]at ez;cases ez
    cases y with
    | bc=>cases z<;>first | rfl | cases hrk
    | row=>cases z<;>first | rfl | cases hrk
    | h a=>cases z with
      | h b=>rw[HA2.inj a b hy hz e]
      | _=>cases hrk
    | lL=>cases z with
      | lL=>rfl
      | dk d=>exact absurd e.symm (hf3 d hz).2.2.1
      | cp d=>exact absurd e.symm (hf3 d hz).2.2.2.1
      | _=>cases hrk
    | dk a=>cases z with
      | lL=>exact absurd e (hf3 a hy).2.2.1
      | dk b=>rw[aAL a b hy hz e]
      | cp b=>exact absurd e (dc a b hy hz)
      | _=>cases hrk
    | cp a=>cases z with
      | lL=>exact absurd e (hf3 a hy).2.2.2.1
      | dk b=>exact absurd e.symm (dc b a hz hy)
      | cp b=>rw[aAM a b hy hz e]
      | _=>cases hrk
    | ups=>cases z with
      | ups=>rfl
      | up b=>exact absurd e.symm (hf4 b hz).2.1
      | _=>cases hrk
    | up a=>cases z with
      | ups=>exact absurd e (hf4 a hy).2.1
      | up b=>rw[aun a b hy hz e]
      | _=>cases hrk
    | downs=>cases z with
      | downs=>rfl
      | dn b=>exact absurd e.symm (hf5 b hz).2.1
      | _=>cases hrk
    | dn a=>cases z with
      | downs=>exact absurd e (hf5 a hy).2.1
      | dn b=>rw[aAQ a b hy hz e]
      | _=>cases hrk
  ·show H6 p=some (.ins t.bA dx (QB ns.length (Ah .hall) ad au aw r))
   rw[eh];exact hp6
  ·exact K36.kp _ _ auU (np3 _ had)
  ·exact K46.kp _ _ auW (np4 _ hau)
  ·exact K56.kp _ _ auX (np5 _ haw)
  ·simp only[S0,List.map_nil,aH]
  ·exact K46.kp _ _ (hU4 d hd) (np4 _ (hf4 d hd).1)
  ·simp only[S0,List.map_nil,aH]
  ·exact K56.kp _ _ (hO5 d hd) (np5 _ (hf5 d hd).1)
  ·simp only[S0,List.map_nil,aH]
  ·exact((hD3 d hd).keep aAY (λo e=>K36.kp _ o e (np3 _ (hf3 d hd).1)) (λo e=>K36.kp _ o e (np3 _ (hf3 d hd).2.1))).congr (λ_=>rfl) (λ_ z=>absurd rfl z) rfl
  ·exact HA2.keep aAX (λz hz o e=>K26.kp _ o e (npA z hz))
def aqE(c:C4):Sp:=λvs H Q _=>∃B n m S k a x se,∃tt:Nat,vs=[.ref (B .bc),.ref a]/\cG c H B n m S k/\H a=some (.tup (cB.vs x))/\jy n m S/\Bd tt S se/\tt<=1500/\k<=800000/\
 ∀v B' H',cG c H' B' n m (S.step n m x).1 (k+2)->TF H H' B n m->Tv H B B' n m->B' .bc=B .bc->Rep H' v (S.step n m x).2->Q v H'
theorem an3(n m:Nat)(S:TS)(x:cB):qu n m S x=""\/qu n m S x="no desk"\/qu n m S x="no page"\/qu n m S x="waiting"\/qu n m S x="no copy"\/qu n m S x="no letter":=by
 unfold qu
 split
 ·cases x with
  | up d=>dsimp only;cases (S.up d.toNat).isEmpty<;>simp
  | down d=>dsimp only;cases (S.dn d.toNat).isEmpty<;>simp
  | rest d p =>
    dsimp only
    split
    ·cases decide ((S.ds d.toNat).rt p=.no)<;>simp
    ·simp
  | look d p =>
    dsimp only
    split
    ·cases (S.ds d.toNat).ws.isSome<;>simp
    ·simp
  | put d p y =>
    dsimp only
    split
    ·cases (S.ds d.toNat).ws.isSome<;>simp
    ·simp
 ·simp
theorem adO(T:Txt K w mg t):cZ P w K mg base oY 8 t.ji t.Am ["town","deed"] (aqE (c4 t)):=by
 refine T.Su.ok adh (λvs H Q E h=>?_) (λcdv A outer s H vs Q E hr h=>?_)
 ·obtain⟨B,n,m,S,k,a,x,se,tt,rfl,_⟩:=h;rfl
 ·obtain⟨B,n,m,S,k,a,x,se,tt,rfl,TA,ha,I,bd,ht0,hk,fin⟩:=h
  obtain⟨dx,ht⟩:=TA.ob
  refine⟨_,(aB (asM Qy (λ_ _=>(aB (bf (amu (pv 0) T.dH T.Ur (UW T) (hr.mono (by decide):bR 7 _) T.X4 (aa (pv 1) ao))))) (Xd Qy (by rfl) T.agy T.XN (λ_=>(aB (bf aC))) (Xd Qy (by rfl) T.agz T.Mw (λ_=>(aB (bf aC))) (Xd Qy (by rfl) T.acp T.yC (λ_=>(aB (bf aC))) (Xd Qy (by rfl) T.agA T.yD (λ_=>(aB (bf aC))) (Xd Qy (by rfl) T.XQ T.mF (λ_=>(aB (bf aC))) asL))))))),?_⟩
  try dsimp only[dm,Cx.lu]
  refine⟨_,rfl,B .bc,dx,_,rfl,ht,atr,_,rfl,B,n,m,S,k,a,x,se,tt,rfl,TA,ha,I,bd,ht0,hk,λ_ v B' H' T' f' tv' et' r'=>fin v B' H' T' f' tv' et' r',λs es hs H' same=>?_⟩
  have out:Q (.str s) H':=by
   have st:=(ag7 (n:=n) (m:=m) (S:=S) (x:=x) (by rw[es];exact hs)).1
   rw[es]at st
   refine fin _ B H' ?_ (TF.of_same same) (Tv.refl _ _ _ _) rfl ?_
   ·rw[st];exact(TA.same same).more (by lia)
   ·rw[st];simp only[Rep]
  have hm:=an3 n m S x
  rw[es]at hm
  rcases hm with rfl | rfl | rfl | rfl | rfl | rfl
  ·exact absurd rfl hs
  ·rw[show xT t "no desk"=t.bj from anW]
   exact⟨t.bj,_,rfl,T.XN,bI (by simp) out⟩
  ·rw[show xT t "no page"=t.aX from anY]
   refine⟨t.aX,_,rfl,T.Mw,aP ?_ ⟨t.aX,_,rfl,T.Mw,bI (by simp) out⟩⟩
   have n1:=T.qj
   have n2:=T.fC
   simp[n1,n2]
  ·rw[show xT t "waiting"=t.aM from anZ]
   refine⟨t.aM,_,rfl,T.yC,aP ?_ ⟨t.aM,_,rfl,T.yC,aP ?_ ⟨t.aM,_,rfl,T.yC,bI (by simp) out⟩⟩⟩
   ·have n1:=T.n6
    have n2:=T.fC
    simp[n1,n2]
   ·have n1:=T.n8
    have n2:=T.gn
    simp[n1,n2]
  ·rw[show xT t "no copy"=t.aV from an0]
   refine⟨t.aV,_,rfl,T.yD,aP ?_ ⟨t.aV,_,rfl,T.yD,aP ?_ ⟨t.aV,_,rfl,T.yD,aP ?_ ⟨t.aV,_,rfl,T.yD,bI (by simp) out⟩⟩⟩⟩
   ·have n1:=T.qm
    have n2:=T.fC
    simp[n1,n2]
   ·have n1:=T.qp
    have n2:=T.gn
    simp[n1,n2]
   ·have n1:=T.oh
    have n2:=T.iY
    simp[n1,n2]
  ·rw[show xT t "no letter"=t.aJ from ajc]
   refine⟨t.aJ,_,rfl,T.mF,aP ?_ ⟨t.aJ,_,rfl,T.mF,aP ?_ ⟨t.aJ,_,rfl,T.mF,aP ?_ ⟨t.aJ,_,rfl,T.mF,aP ?_ ⟨t.aJ,_,rfl,T.mF,bI (by simp) out⟩⟩⟩⟩⟩
   ·have n1:=T.mG
    have n2:=T.fC
    simp[n1,n2]
   ·have n1:=T.mH
    have n2:=T.gn
    simp[n1,n2]
   ·have n1:=T.lD
    have n2:=T.iY
    simp[n1,n2]
   ·have n1:=T.mJ
    have n2:=T.lE
    simp[n1,n2]
def Q6(n m:Nat)(S:TS)(xs:List cB):TS:=xs.foldl (λS x=>(S.step n m x).1) S
theorem Q7(n m:Nat)(S:TS)(xs:List cB)(x:cB):Q6 n m S (xs++[x])=((Q6 n m S xs).step n m x).1:=by unfold Q6;rw[List.foldl_append];rfl
theorem YM{H:Hp}:∀{l:List cB} {vs:List V} {i:Nat} {v:V},aH H vs (l.map cB.d)->vs[i]? = some v->∃x,l[i]? = some x/\Rep H v x.d
 | [],vs,i,v,h,hv=>by simp only[List.map_nil,aH]at h;subst h;simp at hv
 | x::l,vs,i,v,h,hv=>by
   simp only[List.map_cons,aH]at h
   obtain⟨u,us,rfl,ru,rl⟩:=h
   cases i with
   | zero=>simp at hv;subst hv;exact⟨x,rfl,ru⟩
   | succ i=>simp at hv;obtain⟨x',h1,h2⟩:=YM rl hv;exact⟨x',by simpa using h1,h2⟩
theorem jy.run{n m:Nat}:∀{xs:List cB} {S:TS},jy n m S->jy n m (Q6 n m S xs)
 | [],S,h=>h
 | x::xs,S,h=>jy.run (xs:=xs) (h.step x)
theorem Bd.run{n m:Nat}:∀{xs:List cB} {S:TS} {k:Nat},Bd k S []->Bd (k+xs.length) (Q6 n m S xs) []
 | [],S,k,h=>h
 | x::xs,S,k,h=>by
   have:=Bd.run (n:=n) (m:=m) (xs:=xs) (k:=k+1) ((h.step (n:=n) (m:=m) x).sent)
   rw[List.length_cons,show k+(xs.length+1)=k+1+xs.length by lia]
   exact this
theorem cB.size(x:cB):x.d.size<=20:=by cases x<;>simp[cB.d,D.size,D.sizes]
theorem YQ:∀xs:List cB,D.sizes (xs.map cB.d)<=21*xs.length
 | []=>by simp[D.sizes]
 | x::xs=>by
   have h1:=x.size
   have h2:=YQ xs
   simp only[List.map_cons,D.sizes,List.length_cons]
   lia
theorem Xv.start(n:Nat)(ns:List Int):Xv n ns.length (nm0 ns) (S0 ns) where
 pv p hp:=⟨[],PV.start (nm0 ns p)⟩
 wk:=trivial
 rg e h:=nomatch h
theorem Xv.run{n m:Nat}{x:Int->Int}:∀{xs:List cB} {S:TS},jy n m S->Xv n m x S->Xv n m x (Q6 n m S xs)
 | [],S,_,h=>h
 | y::xs,S,I,h=>Xv.run (xs:=xs) (I.step y) (h.step I y)
def YS(m:Nat)(S:DS):List V:=(List.range m).map λp:Nat=>V.str (S.rt p).s
def U3(m:Nat)(S:DS):List D:=(List.range m).map λp:Nat=>D.s (S.rt p).s
def ahn(n m:Nat)(S:TS):D:=.l ((List.range n).map λd=>.l (U3 m (S.ds d)))
def jt(n m:Nat):TS->List cB->List D
 | _,[]=>[]
 | S,x::xs=>ahn n m (S.step n m x).1::jt n m (S.step n m x).1 xs
theorem Gs(n m:Nat):∀(S:TS) (xs:List cB) (x:cB),jt n m S (xs++[x])=jt n m S xs++[ahn n m ((Q6 n m S xs).step n m x).1]
 | S,[],x=>rfl
 | S,y::xs,x=>by
   show _::jt n m _ (xs++[x])=_::(jt n m _ xs++_)
   rw[Gs]
   rfl
theorem YT(n m:Nat):∀(S:TS) (xs:List cB),(jt n m S xs).length=xs.length
 | S,[]=>rfl
 | S,x::xs=>by show(jt n m _ xs).length+1=_;rw[YT];rfl
theorem adP(G:Hp)(S:DS):∀m:Nat,aH G (YS m S) (U3 m S)
 | 0=>by simp[YS,U3,aH]
 | m+1=>by
   unfold YS U3
   rw[List.range_succ,List.map_append,List.map_append]
   exact aH.snoc (adP G S m) (by simp only[Rep])
theorem an4(m:Nat)(S:DS):(YS m S).length=m:=by unfold YS;rw[List.length_map,List.length_range]
structure Gi(H H' G:Hp)(acc:Addr)(ys:List V)(ds:List D):Prop where
 ac:H' acc=some (.lst ys)
 le:bJ G H'
 nw:∀b o,H b=some o->G b=none
 na:G acc=none
 rp:aH G ys ds
theorem Gi.start{H:Hp}{acc:Addr}:Gi H (upd H acc (.lst [])) (λ_=>none) acc [] []:=⟨aj,(λ_ _ e=>nomatch e),λ_ _ _=>rfl,rfl,by simp[aH]⟩
theorem Gi.step{H H' H2 G:Hp}{acc l:Addr}{ys xs:List V}{ds es:List D}(g:Gi H H' G acc ys ds)(s1:bJ H H')(s2:bJ H' H2)(hl:H' l=none)(h2:H2 l=some (.lst xs))(rx:∀G',aH G' xs es):Gi H (upd H2 acc (.lst (ys++[.ref l]))) (upd G l (.lst xs)) acc (ys++[.ref l]) (ds++[.l es]):=by
 have nla:acc≠l:=aF g.ac hl
 have gl:G l=none:=bJ.free g.le hl
 refine⟨aj,λb o e=>?_,λb o e=>?_,by rw[aq nla];exact g.na,?_⟩
 ·by_cases z:b=l
  ·subst z
   rw[aj]at e
   rw[aq nla.symm,h2];exact e
  ·rw[aq z]at e
   rw[aq (aF e g.na)]
   exact s2 _ _ (g.le _ _ e)
 ·rw[aq (aF (s1 _ _ e) hl)];exact g.nw b o e
 ·refine aH.snoc (g.rp.mono (az gl).seqs) ?_
  simp only[Rep]
  exact⟨l,_,rfl,aj,rx _⟩
theorem Gi.done{H H' G:Hp}{acc:Addr}{ys:List V}{ds:List D}(g:Gi H H' G acc ys ds)(ha:H acc=none):∃G',bJ G' H'/\(∀b o,H b=some o->G' b=none)/\Rep G' (.ref acc) (.l ds):=by
 refine⟨upd G acc (.lst ys),λb o e=>?_,λb o e=>?_,?_⟩
 ·by_cases z:b=acc
  ·subst z
   rw[aj]at e
   rw[g.ac];exact e
  ·rw[aq z]at e;exact g.le _ _ e
 ·rw[aq (aF e ha)];exact g.nw b o e
 ·simp only[Rep]
  exact⟨acc,_,rfl,aj,g.rp.mono (az g.na).seqs⟩
structure Go(H' G:Hp)(be:Addr)(zs:List V)(ds:List D):Prop where
 bx:H' be=some (.lst zs)
 le:bJ G H'
 nb:G be=none
 rp:aH G zs ds
theorem Go.step{H' H2 H3 G G2:Hp}{be:Addr}{zs:List V}{ds:List D}{v:V}{d:D}(g:Go H' G be zs ds)(k:bJ G H2)(hb:H2 be=some (.lst zs))(s3:bJ H2 H3)(l2:bJ G2 H3)(n2:∀b o,H2 b=some o->G2 b=none)(rv:Rep G2 v d) :
 ∃G',Go (upd H3 be (.lst (zs++[v]))) G' be (zs++[v]) (ds++[d])/\∀b,G b=none->G2 b=none->G' b=none:=by
 have b2:G2 be=none:=n2 _ _ hb
 have e1:bJ G (λb=>(G b).or (G2 b)):=λb o e=>by show(G b).or (G2 b)=_;rw[e];rfl
 have e2:bJ G2 (λb=>(G b).or (G2 b)):=λb o e=>by
  show(G b).or (G2 b)=_
  cases h:G b with
  | none=>exact e
  | some u=>rw[n2 _ _ (k _ _ h)]at e;cases e
 refine⟨λb=>(G b).or (G2 b),⟨aj,λb o e=>?_,?_,aH.snoc (g.rp.mono e1.seqs) (rv.mono e2.seqs)⟩,λb h1 h2=>?_⟩
 ·have e':(G b).or (G2 b)=some o:=e
  cases h:G b with
  | none =>
    rw[h]at e'
    have e'':G2 b=some o:=e'
    rw[aq (aF e'' b2)];exact l2 _ _ e''
  | some u =>
    rw[h]at e'
    have e'':some u=some o:=e'
    cases e''
    rw[aq (aF h g.nb)];exact s3 _ _ (k _ _ h)
 ·show(G be).or (G2 be)=none
  rw[g.nb,b2];rfl
 ·show(G b).or (G2 b)=none
  rw[h1,h2];rfl
def ajg(c:C4):Sp:=λvs H Q _=>∃B n m S k,∃d:Nat,vs=[.ref (B .bc),.ref (B (.dk d))]/\cG c H B n m S k/\d<n/\m<=1000/\∀l H',bJ H H'->H l=none->H' l=some (.lst (YS m (S.ds d)))->Q (.ref l) H'
def aho(c:C4):Sp:=λvs H Q _=>∃B n m S k,vs=[.ref (B .bc)]/\cG c H B n m S k/\n<=1000/\m<=1000/\∀v G H',bJ H H'->bJ G H'->(∀b o,H b=some o->G b=none)->Rep G v (ahn n m S)->Q v H'
def aa6:Sp:=λvs H Q _=>∃n:Nat,∃ns:List Int,∃l dl us xs,vs=[.int n,.ref l,.ref dl]/\H l=some (.lst (ns.map V.int))/\H dl=some (.lst us)/\aH H us (List.map cB.d xs)/\n<=1000/\ns.length<=1000/\xs.length<=1500/\
 ∀r zs H',bJ H H'->H' r=some (.lst zs)->aH H' zs (jt n ns.length (S0 ns) xs)->Q (.ref r) H'
theorem Nx(T:Txt K w mg t):cZ P w K mg base oY 2 t.dU t.nZ ["self","desk"] (ajg (c4 t)):=by
 refine T.QV.ok Mu (λvs H Q E h=>?_) (λcdv A outer s H vs Q E hr h=>?_)
 ·obtain⟨B,n,m,S,k,d,rfl,_⟩:=h;rfl
 ·obtain⟨B,n,m,S,k,d,rfl,TA,hd,hm,fin⟩:=h
  have sl:sizeLine=16777216:=by decide
  obtain⟨dx,ht⟩:=TA.ob
  have nb : -(2 ^ 62)<=((m:Nat):Int)/\((m:Nat):Int)<2 ^ 62:=⟨by lia,by lia⟩
  refine⟨_,(aB (bf (jJ (fM (xs:=["page"]) (ys:=["desk"]) (js:=[1]) rfl (by decide +kernel) (by decide +kernel) (by decide +kernel) (by rfl) ⟨⟨rfl,Or.inl rfl⟩,trivial⟩) rfl (gP (by rfl) T.lr (aa (cM (pv 0) (by rfl)) ao)) (λ_ _ _ _ _=>(cN (i:=0) (show List.Nodup ((["page"]:List Str)++(["desk"]:List Str):List Str)by decide +kernel) rfl (Or.inl rfl))) (λ_ _ _ _ _=>kY) (λ_ _ _ _ _=>(cC (pv 1) T.dG T.gU (gW T) (hr.mono (by decide):bR 1 _) T.iy .nil bW (aa (pv 0) ao)))))),?_⟩
  try dsimp only[dm,Cx.lu]
  refine⟨_,rfl,B .bc,_,dx,_,_,rfl,ht,T.dH,T.g8,acj,(m:Int),rfl,nb.1,nb.2,λacc hacc=>?_⟩
  rw[Int.toNat_natCast]
  let PV1:Nat->List V->St->Hp->Prop:=λi ys σ' H'=>(∃o,σ'=[o,some (.ref (B (.dk d)))])/\bJ H H'/\H' acc=some (.lst ys)/\ys=YS i (S.ds d)
  refine zQ PV1 ?_ ?_ ?_ ?_
  ·exact⟨⟨_,rfl⟩,az hacc,aj,rfl⟩
  ·rintro i ys σ' H' _ ⟨_,_,h,_⟩
   exact h
  ·rintro i ys σ' H' hi ⟨⟨o,rfl⟩,s',ha',rfl⟩
   rw[Int.zero_add]
   refine zR ?_
   have TB:=TA.same s'
   obtain⟨⟨yg,wv,g1,_⟩,_⟩:=TB.dk d hd
   have hl:=an4 i (S.ds d)
   refine⟨_,rfl,B (.dk d),yg,_,rfl,g1,eX _ _ (by decide +kernel) (by decide +kernel),_,rfl,B (.dk d),B (.cp d),S.ds d,k,_,rfl,TB.dk d hd,?_⟩
   refine t8.mk hi ha' (by lia) ?_
   refine⟨⟨_,rfl⟩,dX s' hacc,aj,?_⟩
   unfold YS
   rw[List.range_succ,List.map_append];rfl
  ·rintro ys σ' H' ⟨_,s',ha',rfl⟩
   exact fin acc H' s' hacc ha'
theorem auZ{m:Nat}{h d u o r:Addr}:(QB m h d u o r).lookup ("rights_of":Str)=none:=by kernel_rfl
theorem au0{m:Nat}{h d u o r:Addr}:(QB m h d u o r).lookup ("all_rights":Str)=none:=by kernel_rfl
theorem Ke(T:Txt K w mg t):cZ P w K mg base oY 3 t.dD t.mD ["self"] (aho (c4 t)):=by
 refine T.M9.ok JS (λvs H Q E h=>?_) (λcdv A outer s H vs Q E hr h=>?_)
 ·obtain⟨B,n,m,S,k,rfl,_⟩:=h;rfl
 ·obtain⟨B,n,m,S,k,rfl,TA,hn,hm,fin⟩:=h
  have sl:sizeLine=16777216:=by decide
  obtain⟨dx,ht⟩:=TA.ob
  refine⟨_,(aB (bf (jJ (fM (xs:=["desk"]) (ys:=["self"]) (js:=[0]) rfl (by decide +kernel) (by decide +kernel) (by decide +kernel) (by rfl) ⟨⟨rfl,Or.inl rfl⟩,trivial⟩) rfl (lO (cM (pv 0) (by rfl))) (λ_ _ _ _ _=>(cN (i:=0) (show List.Nodup ((["desk"]:List Str)++(["self"]:List Str):List Str)by decide +kernel) rfl (Or.inl rfl))) (λ_ _ _ _ _=>kY) (λ_ _ _ _ _=>(cC (pv 1) T.dH T.Nf (Nx T) (hr.mono (by decide):bR 2 _) T.QW .nil bW (aa (pv 0) ao)))))),?_⟩
  try dsimp only[dm,Cx.lu]
  refine⟨_,rfl,B .bc,_,dx,_,_,rfl,ht,T.dH,T.fQ,tU,B .lL,rfl,⟨_,bZ.of TA.ds⟩,λacc hacc=>?_⟩
  let PV2:Nat->List V->St->Hp->Prop:=λi ys σ' H'=>(∃o,σ'=[o,some (.ref (B .bc))])/\bJ H H'/\ys.length=i/\∃G,Gi H H' G acc ys ((List.range i).map λd=>.l (U3 m (S.ds d)))
  refine yo (xs:=(List.range n).map λd=>V.ref (B (.dk d))) PV2 ?_ ?_ ?_ ?_
  ·exact⟨⟨_,rfl⟩,az hacc,rfl,_,Gi.start⟩
  ·rintro i ys σ' H' _ ⟨_,s',_,G,g⟩
   exact⟨bZ.of (s' _ _ TA.ds),g.ac⟩
  ·rintro i y ys σ' H' hy hi ⟨⟨o,rfl⟩,s',hyl,G,g⟩
   rw[List.length_map,List.length_range]at hi
   have hy':y=.ref (B (.dk i)):=by
    rw[List.getElem?_map,List.getElem?_range hi]at hy
    exact(Option.some.inj hy).symm
   subst hy'
   refine zR ?_
   have TB:=TA.same s'
   refine⟨_,rfl,B .bc,dx,_,rfl,s' _ _ ht,auZ,_,rfl,B,n,m,S,k,i,rfl,TB,hi,hm,λl H2 s2 hl hl2=>?_⟩
   refine t8.mk (by rw[List.length_map,List.length_range];exact hi) (s2 _ _ g.ac) (by lia) ?_
   refine⟨⟨_,rfl⟩,dX (s'.trans s2) hacc,by rw[List.length_append,hyl];rfl,upd G l (.lst (YS m (S.ds i))),?_⟩
   rw[List.range_succ,List.map_append]
   exact g.step s' s2 hl hl2 λG'=>adP G' _ _
  ·rintro ys σ' H' ⟨_,s',hyl,G,g⟩
   rw[List.length_map,List.length_range]at g
   obtain⟨G',g1,g2,g3⟩:=g.done hacc
   exact fin _ G' H' s' g1 g2 g3
theorem U4(T:Txt K w mg t):cZ P w K mg base oY 9 t.fZ t.rN ["count","numbers","deeds"] aa6:=by
 refine T.Gj.ok lV (λvs H Q E h=>?_) (λcdv A outer s H vs Q E hr h=>?_)
 ·obtain⟨n,ns,l,dl,us,xs,rfl,_⟩:=h;rfl
 ·obtain⟨n,ns,l,dl,us,xs,rfl,hl,hdl,rd,hn,hns,hxs,fin⟩:=h
  have sl:sizeLine=16777216:=by decide
  refine⟨_,(ak (bz (i:=3) lV.nd rfl (Or.inl rfl) (acW T.adm (adN T) (hr.mono (by decide):bR 6 _) (by rfl) T.atM T.agP .nil bW (aa (pv 0) (aa (pv 1) ao))))
   (ak (bz (i:=4) lV.nd rfl (Or.inl rfl) (bO ao))
   (ak (tY PassesOwn.never rfl (lO (pv 2)) (cN (i:=5) lV.nd rfl (Or.inl rfl)) (ak (bM (cH (adO T) (hr.mono (by decide):bR 8 _) (by rfl) T.agT T.Su.kp T.agS .nil bW (aa (pv 3) (aa (pv 5) ao))))
   (aB (bM (eN PySem.F.plainAttrs_list PySem.F.slot_list_append PySem.F.type_list_append cD (pv 4) (aa (t7 (pv 3) T.dH T.J4 (Ke T) (hr.mono (by decide):bR 3 _) T.Nb .nil bW) ao))))))
   (aB (bf (pv 4)))))),?_⟩
  try dsimp only[dm,Cx.lu]
  show let Z1:L2.TS:=_;let Z2:L2.TS:=_;let Z3:L2.TS:=_;let Z4:L2.TS:=_;let Z5:L2.TS:=aR Z3 (Z4);let Z6:L2.TS:=Ub _ _ Z5;let Z7:L2.TS:=_;let D0:Ends:=_;(aR Z1 (aR Z2 (aR Z6 (Z7)))) D0 _ _
  intro Z1 Z2 Z3 Z4 Z5 Z6 Z7 D0
  refine⟨_,rfl,_,rfl,λp dx hp hdx nx=>?_⟩
  refine⟨p,dx,l,n,ns,rfl,aj,?_,hn,hns,λB H1 eB fr T1 k1=>⟨rfl,?_⟩⟩
  ·rw[aq (aF hl hp),aq (aF hl hdx)];exact hl
  have s1:bJ H H1:=λb o e=>k1.kp b o (by rw[aq (aF e hp),aq (aF e hdx)];exact e) (aF e hp)
  have fr1:∀x:Tb,x.ok n ns.length->H (B x)=none:=λx hx=>by
   by_cases e:x=.bc
   ·rw[e,eB];exact hp
   ·exact Lv.upd _ (Lv.upd _ (fr x hx e))
  clear fr k1
  have hul:us.length=xs.length:=by rw[rd.length,List.length_map]
  refine⟨Dg,λbe hbe=>?_⟩
  have aAZ:H be=none:=bJ.free s1 hbe
  have s2:=s1.trans (az (o:=.lst []) hbe)
  refine⟨_,rfl,dl,rfl,⟨_,bZ.of (s2 _ _ hdl)⟩,?_⟩
  let PV3:Nat->St->Hp->Prop:=λi σ' H'=>(∃o,σ'=[some (.int n),some (.ref l),some (.ref dl),some (.ref p),some (.ref be),o])/\i<=us.length/\bJ H H'/\∃(B':Tb->Addr) (G:Hp) (zs:List V),B' .bc=p/\cG (c4 t) H' B' n ns.length (Q6 n ns.length (S0 ns) (xs.take i)) (2*i)/\(∀x:Tb,x.ok n ns.length->H (B' x)=none/\B' x≠be/\G (B' x)=none)/\zs.length=i/\Go H' G be zs (jt n ns.length (S0 ns) (xs.take i))
  refine tZ (xs:=us) PV3 ?_ ?_ ?_ ?_
  ·exact⟨⟨_,rfl⟩,Nat.zero_le _,s2,B,(λ_=>none),[],eB,T1.new hbe,λx hx=>⟨fr1 x hx,T1.ne hx hbe,rfl⟩,rfl,⟨aj,(λ_ _ e=>nomatch e),rfl,by simp[jt,aH]⟩⟩
  ·rintro i σ' H' _ ⟨_,_,s',_⟩
   exact bZ.of (s' _ _ hdl)
  ·rintro i y σ' H' hy ⟨⟨o,rfl⟩,hi,s',B',G,zs,eB',T',fr',hzl,g⟩
   have hi':i<us.length:=(List.getElem?_eq_some_iff.mp hy).1
   obtain⟨x,hx,rx⟩:=YM (rd.aZ (bh s') (bY cB.flat _)) hy
   obtain⟨a,rfl,hxa⟩:=ahi rx
   have htk:xs.take (i+1)=xs.take i++[x]:=by rw[List.take_add_one,hx];rfl
   have hti:(xs.take i).length<=1500:=by rw[List.length_take];lia
   have bd:=Bd.run (n:=n) (m:=ns.length) (xs:=xs.take i) (Bd.start ns)
   rw[Nat.zero_add]at bd
   refine⟨_,rfl,_,rfl,B',n,ns.length,_,2*i,a,x,[],(xs.take i).length,(by rw[eB'];rfl),T',hxa,jy.run (jy.start n ns),bd,hti,by lia,λv B2 H2 T2 f2 tv2 et2 r2=>?_⟩
   have s2:bJ H H2:=λb u e=>f2.kp _ _ (s' b u e) λz hz e2=>by rw[e2,(fr' z hz).1]at e;cases e
   have k2:bJ G H2:=λb u e=>f2.kp _ _ (g.le b u e) λz hz e2=>by rw[e2,(fr' z hz).2.2]at e;cases e
   have hb2:H2 be=some (.lst zs):=f2.kp _ _ g.bx λz hz e=>(fr' z hz).2.1 e.symm
   have fr2:∀z:Tb,z.ok n ns.length->H (B2 z)=none/\B2 z≠be/\G (B2 z)=none:=λz hz=>by
    rcases tv2 z hz with e | e
    ·rw[e];exact fr' z hz
    ·exact⟨Lv.same s' _ e,(λe2=>by rw[e2,g.bx]at e;cases e),Lv.same g.le _ e⟩
   obtain⟨dx2,ht2⟩:=T2.ob
   refine⟨_,rfl,.inl ⟨rfl,_,bZ.of hb2⟩,⟨_,rfl,B2 .bc,dx2,_,(by rw[et2,eB']),ht2,au0,B2,n,ns.length,_,_,(by rw[et2,eB'];rfl),T2,hn,hns,λv2 G2 H3 s3 l3 n3 rv=>?_⟩⟩
   obtain⟨G',g',d'⟩:=g.step k2 hb2 s3 l3 n3 rv
   refine⟨be,zs,v2,rfl,rfl,s3 _ _ hb2,by lia,?_⟩
   refine⟨⟨_,rfl⟩,by lia,dX (s2.trans s3) aAZ,B2,G',zs++[v2],et2.trans eB',?_,λz hz=>⟨(fr2 z hz).1,(fr2 z hz).2.1,d' _ (fr2 z hz).2.2 ?_⟩,by rw[List.length_append,hzl];rfl,?_⟩
   ·rw[htk,Q7,show 2*(i+1)=2*i+2 by lia]
    exact(T2.same s3).keep (jK (s3 _ _ hb2)) λz hz u e=>by rw[aq (fr2 z hz).2.1];exact e
   ·obtain⟨u,e,_⟩:=T2.live z hz
    exact n3 _ _ e
   ·rw[htk,Gs];exact g'
  ·rintro σ' H' ⟨⟨o,rfl⟩,_,s',B',G,zs,eB',T',fr',hzl,g⟩
   rw[hul,List.take_length]at g
   exact⟨_,rfl,fin be zs H' s' g.bx (g.rp.mono g.le.seqs)⟩
theorem WR{H:Hp}:∀{ds:List D} {vs:List V} {i:Nat} {d:D},aH H vs ds->ds[i]? = some d->∃v,vs[i]? = some v/\Rep H v d
 | [],_,_,_,_,h=>by simp at h
 | x::ds,vs,i,d,r,h=>by
   simp only[aH]at r
   obtain⟨u,us,rfl,ru,rl⟩:=r
   cases i with
   | zero=>simp at h;subst h;exact⟨u,rfl,ru⟩
   | succ i=>simp at h;obtain⟨v,h1,h2⟩:=WR rl h;exact⟨v,by simpa using h1,h2⟩
def an5(n p:Nat)(S:TS):Prop:=∀d e,d<n->e<n->(S.ds d).rt p=.wr->e≠d->(S.ds e).rt p=.no
def YW(n p:Nat)(S:TS):List V:=(List.range n).map λd=>V.str ((S.ds d).rt p).s
def aqG:Sp:=λvs H Q _=>∃v,∃p n m:Nat,∃S,vs=[v,.int p]/\Rep H v (ahn n m S)/\p<m/\n<=1000/\an5 n p S/\∀H',bJ H H'->Q (.bl true) H'
theorem ahp(n p:Nat)(S:TS):(YW n p S).length=n:=by unfold YW;rw[List.length_map,List.length_range]
theorem acD(n p:Nat)(S:TS):(YW n p S).all vI=true:=by
 rw[List.all_eq_true]
 intro v hv
 obtain⟨d,_,rfl⟩:=List.mem_map.mp hv
 rfl
theorem adQ(a b:Str):eqV (.str a) (.str b)=decide (a=b):=by rfl
theorem alv{n p:Nat}{S:TS}(h:an5 n p S)(hw:inV (.str "write") (YW n p S)=true):((YW n p S).countP λz=>eqV z (.str "none"))+1=n:=by
 unfold inV at hw
 rw[List.any_eq_true]at hw
 obtain⟨v,hv,he⟩:=hw
 obtain⟨d,hd,rfl⟩:=List.mem_map.mp hv
 rw[List.mem_range]at hd
 have hdw:(S.ds d).rt p=.wr:=by
  rw[adQ,decide_eq_true_eq]at he
  exact Rt.arE he
 unfold YW
 rw[List.countP_map]
 have e1:(List.range n).countP ((λz=>eqV z (.str "none")) ∘ λd=>V.str ((S.ds d).rt p).s)=(List.range n).countP λe => !(e == d):=by
  refine List.countP_congr λe he=>?_
  rw[List.mem_range]at he
  by_cases z:e=d
  ·subst z
   simp only[Function.comp,adQ,hdw]
   simp
   decide
  ·have:=h d e hd he hdw z
   simp only[Function.comp,adQ,this]
   simp[z,Rt.s]
 rw[e1]
 have e2:=List.length_eq_countP_add_countP (λe=>e == d) (l:=List.range n)
 have e3:(List.range n).countP (λe=>e == d)=1:=by
  have:∀k,(List.range k).countP (λe=>e == d)=if d<k then 1 else 0:=λk=>by
   induction k with
   | zero=>rfl
   | succ k ih =>
     rw[List.range_succ,List.countP_append,ih]
     simp only[List.countP_cons,List.countP_nil,beq_iff_eq]
     split<;>split<;>split<;>lia
  rw[this,if_pos hd]
 rw[List.length_range,e3]at e2
 simp only[beq_iff_eq]at e2
 have e4:(List.range n).countP (λe => !(e == d))=(List.range n).countP (λa=>decide ¬a=d):=List.countP_congr λe _=>by simp
 lia
theorem ajh(T:Txt K w mg t):cZ P w K mg base oY 1 t.mY t.JX ["_law_rights","_law_page"] aqG:=by
 refine T.acu.ok XH (λvs H Q E h=>?_) (λcdv A outer s H vs Q E hr h=>?_)
 ·obtain⟨v,p,n,m,S,rfl,_⟩:=h;rfl
 ·obtain⟨v,p,n,m,S,rfl,rv,hp,hn,ha,fin⟩:=h
  have sl:sizeLine=16777216:=by decide
  simp only[ahn,Rep]at rv
  obtain⟨a,xs,rfl,hx,rx⟩:=rv
  have hxl:xs.length=n:=by rw[rx.length,List.length_map,List.length_range]
  refine⟨_,(ak (aiD (i:=2) XH.nd rfl rfl (fM (xs:=["_law_one"]) (ys:=["_law_page"]) (js:=[1]) rfl (by decide +kernel) (by decide +kernel) (by decide +kernel) (by rfl) ⟨⟨rfl,Or.inl rfl⟩,trivial⟩) rfl (lO (pv 0)) (λ_ _ _ _ _=>(cN (i:=0) (show List.Nodup ((["_law_one"]:List Str)++(["_law_page"]:List Str):List Str)by decide +kernel) rfl (Or.inl rfl))) (λ_ _ _ _ _=>kY) (λ_ _ _ _ _=>(aO (arF (K:=K) (r:=aiu) bF rfl) (pv 0) (pv 1) (λ_ _=>rfl))))
   (aB (bf (arq (kO zM aC (pv 2) (by rfl)) (acS (kO cR (eN PySem.F.plainAttrs_list PySem.F.slot_list_count PySem.F.type_list_count am1 (pv 2) (aa aC ao)) (bG Eu (dI dJ (by rfl) T.yU PySem.boot_len (aa (pv 2) ao)) aA) (bu _))))))),?_⟩
  try dsimp only[dm,Cx.lu]
  show let Z1:L2.TS:=_;let Z2:L2.TS:=_;let D0:Ends:=_;(aR Z1 (Z2)) D0 _ _
  intro Z1 Z2 D0
  refine⟨_,rfl,a,rfl,⟨_,bZ.of hx⟩,λacc hacc=>?_⟩
  let PV1:Nat->List V->St->Hp->Prop:=λi ys σ' H'=>(∃o,σ'=[o,some (.int p)])/\bJ H H'/\H' acc=some (.lst ys)/\ys=YW i p S
  refine yo (xs:=xs) PV1 ?_ ?_ ?_ ?_
  ·exact⟨⟨_,rfl⟩,az hacc,aj,rfl⟩
  ·rintro i ys σ' H' _ ⟨_,s',ha',_⟩
   exact⟨bZ.of (s' _ _ hx),ha'⟩
  ·rintro i y ys σ' H' hy hi ⟨⟨o,rfl⟩,s',ha',rfl⟩
   rw[hxl]at hi
   refine zR ?_
   obtain⟨u,hu,ru⟩:=WR (i:=i) (d:=.l (U3 m (S.ds i))) rx (by rw[List.getElem?_map,List.getElem?_range hi];rfl)
   rw[hy]at hu
   cases hu
   simp only[Rep]at ru
   obtain⟨b,zs,rfl,hb,rz⟩:=ru
   obtain⟨u2,hu2,ru2⟩:=WR (i:=p) (d:=.s ((S.ds i).rt p).s) rz (by unfold U3;rw[List.getElem?_map,List.getElem?_range hp];rfl)
   simp only[Rep]at ru2
   subst ru2
   refine⟨_,rfl,_,rfl,b,zs,_,_,rfl,rfl,bZ.of (s' _ _ hb),zL hu2,?_⟩
   have hl:=ahp i p S
   refine t8.mk (by rw[hxl];exact hi) ha' (by lia) ?_
   refine⟨⟨_,rfl⟩,dX s' hacc,aj,?_⟩
   unfold YW
   rw[List.range_succ,List.map_append];rfl
  ·rintro ys σ' H' ⟨_,s',ha',rfl⟩
   rw[hxl]at ha'
   refine⟨_,rfl,acc,_,rfl,.inl (bZ.of ha'),rfl,acD _ _ _,_,rfl,?_⟩
   cases hw:inV (.str "write") (YW n p S)with
   | false=>exact pQ (fin H' s')
   | true =>
     have hc:=alv ha hw
     have hl:=ahp n p S
     refine w6 ?_
     refine⟨_,rfl,.inl ⟨rfl,_,bZ.of ha'⟩,acc,_,_,rfl,rfl,ha',rfl,acD _ _ _,_,rfl,acc,_,rfl,.inl (bZ.of ha'),_,_,rfl,rfl,rfl,?_⟩
     have:decide (V.int (((YW n p S).countP λz=>eqV z (.str "none"):Nat):Int)=V.int (((YW n p S).length:Int) - 1))=true:=decide_eq_true (by rw[hl];congr 1;lia)
     rw[this]
     exact fin H' s'
def akD(K:PySem.W.Frag):Sp:=λvs H Q _=>∃(a:Addr) (ns:List Int),vs=[.ref a]/\bZ K H a (ns.map V.int)/\ns.length<=63/\∀H',Q (.bl true) H'
theorem YX(n m:Nat):∀(S:TS) (xs:List cB) {i:Nat},i<xs.length->(jt n m S xs)[i]? = some (ahn n m (Q6 n m S (xs.take (i+1))))
 | S,[],i,h=>absurd h (Nat.not_lt_zero _)
 | S,x::xs,0,_=>rfl
 | S,x::xs,i+1,h=>by
   show(jt n m _ xs)[i]? = _
   rw[YX n m _ xs (by simpa using h)]
   rfl
theorem alw(n m:Nat)(hn:n<=20)(hm:m<=20)(S:TS):(ahn n m S).size<=900:=by
 have h1:∀d:DS,∀m:Nat,D.sizes (U3 m d)<=2*m:=λd m=>by
  induction m with
  | zero=>simp[U3,D.sizes]
  | succ m ih=>unfold U3 at ih ⊢;rw[List.range_succ,List.map_append,D.kW];simp only[List.map_cons,List.map_nil,D.sizes,D.size];lia
 have h2:∀n:Nat,D.sizes ((List.range n).map λd=>D.l (U3 m (S.ds d)))<=43*n:=λn=>by
  induction n with
  | zero=>simp[D.sizes]
  | succ n ih =>
    have:=h1 (S.ds n) m
    rw[List.range_succ,List.map_append,D.kW];simp only[List.map_cons,List.map_nil,D.sizes,D.size];lia
 have:=h2 n
 unfold ahn
 simp only[D.size]
 lia
theorem SQ(n m:Nat)(hn:n<=20)(hm:m<=20):∀(S:TS) (xs:List cB),D.sizes (jt n m S xs)<=901*xs.length
 | S,[]=>by simp[jt,D.sizes]
 | S,x::xs=>by
   have h1:=alw n m hn hm (S.step n m x).1
   have h2:=SQ n m hn hm (S.step n m x).1 xs
   simp only[jt,D.sizes,List.length_cons]
   lia
theorem au1(T:Txt K w mg t):cZ P w K mg base oY 10 t.XM t.aiY ["_law_script"] (akD K):=by
 refine T.awK.ok mj (λvs H Q E h=>?_) (λcdv A outer s H vs Q E hr h=>?_)
 ·obtain⟨a,ns,rfl,_⟩:=h;rfl
 ·obtain⟨a,ns,rfl,ha,hl,q⟩:=h
  have hu:=lG hr
  refine' ⟨_,?sr,?_⟩
  case' sr=>refine' ak ?Yy ?J7
  case' J7=>refine' ak ?Yz ?J8
  case' J8=>refine' ak ?YB ?J9
  case' J9=>refine' ak ?YC ?YD
  case' YD=>refine' ak ?ahb ?YF
  case' YF=>refine' ak ?ahc ?YG
  case' YG=>refine' ak ?ahd ?ai7
  case' ai7=>refine' ak ?anI ?ai8
  case' ai8=>refine' ak ?anJ ?ai9
  case' ai9=>refine' ak ?anK ?aja
  case' aja=>refine' ak ?ajb ?aqH
  case' aqH=>refine' ak ?au2 ?aqI
  case' aqI=>refine' ak ?au3 ?aqJ
  case' aqJ=>refine' ak ?au4 ?aqK
  case' aqK=>refine' ak ?au5 ?aqL
  case' aqL=>refine' aB ?au6
  case' Yy=>exact(bz (i:=1) mj.nd rfl (Or.inl rfl) (cH (WQ T) (hr.mono (by decide):bR 1 _) (by rfl) T.adx T.Ye.kp T.adw .nil bW (aa (pv 0) (aa aA ao))))
  case' Yz=>exact(bz (i:=2) mj.nd rfl (Or.inl rfl) (aO bF (bO (aa (bG jQ aA (bG fL (pv 1) aA)) (aa (bG jQ aA (bG fL (bG jH (pv 1) aA) aA)) ao))) (iw mK (by rfl) T.Nm PyProof.Rows.Boot.«int» (aa (kO cR (bG fL (bG jH (pv 1) aA) aA) aA (bu _)) ao)) (λ_ _=>rfl)))
  case' YB=>exact(bz (i:=3) mj.nd rfl (Or.inl rfl) (aO bF (bO (aa (bG jQ aA (bG fL (bG jH (pv 1) aA) aA)) (aa (bG jQ aA (bG fL (bG jH (pv 1) aA) aA)) ao))) (iw mK (by rfl) T.Nm PyProof.Rows.Boot.«int» (aa (kO cR (bG fL (bG jH (pv 1) aA) aA) aA (bu _)) ao)) (λ_ _=>rfl)))
  case' YC=>exact(bz (i:=4) mj.nd rfl (Or.inl rfl) (cH (UG T) (hr.mono (by decide):bR 1 _) (by rfl) T.Yn T.Gm.kp T.Ym .nil bW (aa (cH (WQ T) (hr.mono (by decide):bR 1 _) (by rfl) T.adx T.Ye.kp T.adw .nil bW (aa (pv 0) (aa aA ao))) (aa (pv 3) ao))))
  case' ahb=>exact(bz (i:=5) mj.nd rfl (Or.inl rfl) (cH (aa5 T) (hr.mono (by decide):bR 1 _) (by rfl) T.adB T.Nk.kp T.adA .nil bW (aa (afX aoV (pv 0) (ajT aA) ajS) (aa (pv 2) (aa (pv 3) ao)))))
  case' ahc=>exact(b8 (aU cR (bG fL (bG jH (cH (WQ T) (hr.mono (by decide):bR 1 _) (by rfl) T.adx T.Ye.kp T.adw .nil bW (aa (pv 0) (aa aA ao))) aA) aA) aA (bu _)) (aB (bz (i:=5) mj.nd rfl (Or.inl rfl) (bG m6 (cH (Q4 T) (hr.mono (by decide):bR 1 _) (by rfl) T.Ux T.Cj.kp T.Uw .nil bW (aa (pv 2) (aa (cH (WQ T) (hr.mono (by decide):bR 1 _) (by rfl) T.adx T.Ye.kp T.adw .nil bW (aa (pv 0) (aa aA ao))) ao))) (pv 5)))) bD)
  case' ahd=>exact(bz (i:=6) mj.nd rfl (Or.inl rfl) (iw zN (by rfl) T.Gn PyProof.Rows.Boot.«list» (aa (pv 4) ao)))
  case' anI=>exact(bz (i:=7) mj.nd rfl (Or.inl rfl) (iw zN (by rfl) T.Gn PyProof.Rows.Boot.«list» (aa (pv 5) ao)))
  case' anJ=>exact(bz (i:=8) mj.nd rfl (Or.inl rfl) (cH (U4 T) (hr.mono (by decide):bR 9 _) (by rfl) T.Yd T.Gj.kp T.Yc .nil bW (aa (pv 2) (aa (pv 6) (aa (pv 7) ao)))))
  case' anK=>exact(b8 (PW.pt (vH (wY (lW (cH (Q3 T) (hr.mono (by decide):bR 2 _) (by rfl) T.Yh T.Ng.kp T.Yg .nil bW (aa (pv 6) (aa (pv 4) ao))))) (pP (wY (lW (cH (Q3 T) (hr.mono (by decide):bR 2 _) (by rfl) T.Yh T.Ng.kp T.Yg .nil bW (aa (pv 7) (aa (pv 5) ao)))))))) (aB (bf Ip)) bD)
  case' ajb=>exact(bz (i:=9) mj.nd rfl (Or.inl rfl) (cH (adL T) (hr.mono (by decide):bR 1 _) (by rfl) T.agV T.Sv.kp T.agU .nil bW (aa (pv 2) (aa (pv 4) ao))))
  case' au2=>exact(bz (i:=10) mj.nd rfl (Or.inl rfl) (bO ao))
  case' au3=>refine' tY PassesOwn.never rfl (lO (pv 5)) (cN (i:=11) mj.nd rfl (Or.inl rfl)) ?au7
  case' au7=>refine' ak ?YH ?YJ
  case' YJ=>refine' aB ?ahe
  case' YH=>exact(bM (cH (aa4 T) (hr.mono (by decide):bR 4 _) (by rfl) T.adz T.Nj.kp T.ady .nil bW (aa (pv 9) (aa (pv 11) ao))))
  case' ahe=>exact(bM (eN PySem.F.plainAttrs_list PySem.F.slot_list_append PySem.F.type_list_append cD (pv 10) (aa (jJ (fM (xs:=["_law_row"]) (ys:=[]) (js:=[]) rfl (by decide +kernel) (by decide +kernel) (by decide +kernel) (by rfl) trivial) rfl (lO (bH hu (pv 9) aC (λ_ _=>rfl))) (λ_ _ _ _ _=>(cN (i:=0) (show List.Nodup ((["_law_row"]:List Str)++([]:List Str):List Str)by decide +kernel) rfl (Or.inl rfl))) (λ_ _ _ _ _=>kY) (λ_ _ _ _ _=>(iw (Iv (K:=K) rfl) (by rfl) T.Gn PyProof.Rows.Boot.«list» (aa (pv 0) ao)))) ao)))
  case' au4=>exact(b8 (PW.pt (vH (wY (lW (dI lH (by rfl) T.fU PyProof.Rows.Boot.«isinstance» (aa (pv 8) (aa (uc (by rfl) T.Gn PyProof.Rows.Boot.«list») ao))))) (pP (wY (lW (cH (Q3 T) (hr.mono (by decide):bR 2 _) (by rfl) T.Yh T.Ng.kp T.Yg .nil bW (aa (pv 8) (aa (pv 10) ao)))))))) (aB (bf Ip)) bD)
  case' au5=>refine' tY PassesOwn.never rfl (lO (pv 8)) (cN (i:=12) mj.nd rfl (Or.inl rfl)) ?au8
  case' au8=>refine' aB ?ahj
  case' ahj=>refine' tY PassesOwn.never rfl (gP (by rfl) T.lr (aa (pv 3) ao)) (cN (i:=13) mj.nd rfl (Or.inl rfl)) ?ayg
  case' ayg=>refine' aB ?anP
  case' anP=>exact(b8 (wY (lW (cH (ajh T) (hr.mono (by decide):bR 1 _) (by rfl) T.alg T.acu.kp T.alf .nil bW (aa (pv 12) (aa (pv 13) ao))))) (aB (bf Ip)) bD)
  case' au6=>exact(bf Ip)
  try dsimp only[dm,Cx.lu]
  show let Z1:L2.TS:=_;let Z2:L2.TS:=_;let Z3:L2.TS:=_;let Z4:L2.TS:=_;let Z5:L2.TS:=_;let Z6:L2.TS:=_;let Z7:L2.TS:=di _ Z6 bN;let Z8:L2.TS:=_;let Z9:L2.TS:=_;let Cp:L2.TS:=_;let Nu:L2.TS:=_;let Nv:L2.TS:=di _ Nu bN;let Sy:L2.TS:=_;let SJ:L2.TS:=_;let Z15:L2.TS:=_;let Z16:L2.TS:=_;let Z17:L2.TS:=aR Z15 (Z16);let Z18:L2.TS:=Ub _ _ Z17;let Z19:L2.TS:=_;let Z20:L2.TS:=di _ Z19 bN;let Z21:L2.TS:=_;let Z22:L2.TS:=di _ Z21 bN;let Z23:L2.TS:=Ub _ _ Z22;let Z24:L2.TS:=Ub _ _ Z23;let Z25:L2.TS:=_;let D0:Ends:=_;(aR Z1 (aR Z2 (aR Z3 (aR Z4 (aR Z5 (aR Z7 (aR Z8 (aR Z9 (aR Cp (aR Nv (aR Sy (aR SJ (aR Z18 (aR Z20 (aR Z24 (Z25)))))))))))))))) D0 _ _
  intro Z1 Z2 Z3 Z4 Z5 Z6 Z7 Z8 Z9 Cp Nu Nv Sy SJ Z15 Z16 Z17 Z18 Z19 Z20 Z21 Z22 Z23 Z24 Z25 D0
  refine⟨_,rfl,a,ns,0,rfl,ha,by decide,λz=>?_⟩
  obtain⟨n,hn0,hn1,hn⟩:=anR (1+z % 4) (9+z / 288 % 12) (by lia) (by lia) (decide (V.int (z / 36 % 8)=V.int 1))
  obtain⟨m,hm0,hm1,hm⟩:=anR (1+z / 4 % 3) (8+z / 288 % 13) (by lia) (by lia) (decide (V.int (z / 36 % 8)=V.int 2))
  refine⟨_,rfl,_,_,rfl,rfl,(show(0:Int)<4 by decide),_,_,rfl,rfl,_,rfl,_,_,rfl,rfl,⟨by decide,by decide⟩,_,_,rfl,rfl,(show(0:Int)<12 by decide),_,_,rfl,rfl,vC,λl1 hl1=>?_⟩
  refine⟨_,rfl,_,_,rfl,rfl,⟨by decide,by decide⟩,_,_,rfl,rfl,(show(0:Int)<8 by decide),rfl,.inr ⟨_,rfl,l1,_,_,_,rfl,rfl,bZ.of aj,hn,?_⟩⟩
  refine⟨_,rfl,_,_,rfl,rfl,⟨by decide,by decide⟩,_,_,rfl,rfl,(show(0:Int)<3 by decide),_,_,rfl,rfl,_,rfl,_,_,rfl,rfl,⟨by decide,by decide⟩,_,_,rfl,rfl,(show(0:Int)<13 by decide),_,_,rfl,rfl,vC,λl2 hl2=>?_⟩
  refine⟨_,rfl,_,_,rfl,rfl,⟨by decide,by decide⟩,_,_,rfl,rfl,(show(0:Int)<8 by decide),rfl,.inr ⟨_,rfl,l2,_,_,_,rfl,rfl,bZ.of aj,hm,?_⟩⟩
  have s1:=(az (o:=.lst [.int (1+z % 4),.int (9+z / 288 % 12)]) hl1).trans (az (o:=.lst [.int (1+z / 4 % 3),.int (8+z / 288 % 13)]) hl2)
  generalize upd (upd H l1 (.lst [.int (1+z % 4),.int (9+z / 288 % 12)])) l2 (.lst [.int (1+z / 4 % 3),.int (8+z / 288 % 13)])=H1 at s1
  have ha1:=bZ.same ha s1
  refine⟨_,rfl,a,ns,1,rfl,ha1,by decide,λz1=>⟨_,rfl,z1,m,rfl,by lia,λnl nums H2 hnum hnl s2 ayh=>?_⟩⟩
  have s02:=s1.trans s2
  have ha2:=bZ.same ha s02
  obtain⟨cells,aA1,hcl⟩:=anS ns (some 2) none
  refine⟨_,rfl,_,rfl,a,_,rfl,ha2,λsl hsl=>?_⟩
  have s3:=az (o:=.lst (aaJ (ns.map V.int) (some 2) none)) hsl
  refine⟨_,rfl,_,rfl,sl,n,m,cells,rfl,by rw[<-aA1];exact aj,hn0,by lia,hm0,by lia,by lia,λal us H4 hal s4 au9 dl4=>?_⟩
  have s24:=s3.trans s4
  have ava:=s24 _ _ ayh
  have s04:=s02.trans s24
  clear s3 s4 hsl hal
  dsimp only
  refine gf (λσ' H'=>∃al us,σ'=[some (.ref a),some (.int z),some (.int n),some (.int m),some (.ref nl),some (.ref al),none,none,none,none,none,none,none,none]/\bJ H H'/\H' nl=some (.lst (nums.map V.int))/\H' al=some (.lst us)/\DL H' us 900) (λN hN=>?_) ?_
  ·refine⟨_,rfl,a,ns,0,rfl,bZ.same ha s04,by decide,λz2=>⟨_,_,rfl,rfl,⟨by decide,by decide⟩,_,_,rfl,rfl,(show(0:Int)<3 by decide),rfl,_,rfl,?_⟩⟩
   by_cases e3:z2 / 12 % 3=1
   ·refine bI (ahg e3) ?_
    refine⟨_,rfl,_,rfl,a,ns,1,rfl,bZ.same ha s04,by decide,λz3=>⟨n,z3,rfl,by lia,λfl fs H5 hfl s5 aA3 dl5=>?_⟩⟩
    have ayi:=dl4.aZ (bh s5)
    have l1:=dl5.len
    have l2:=ayi.len
    have sl:sizeLine=16777216:=by decide
    refine⟨_,rfl,fl,al,fs,us,rfl,rfl,aA3,s5 _ _ au9,by lia,λal2 awX=>?_⟩
    have s6:=az (o:=.lst (fs++us)) awX
    exact hN _ _ ⟨al2,fs++us,rfl,(s04.trans s5).trans s6,s6 _ _ (s5 _ _ ava),aj,((dl5.append ayi).more (by lia)).aZ (bh s6)⟩
   ·refine aP (ahh e3) ?_
    exact hN _ _ ⟨al,us,rfl,s04,ava,au9,dl4.more (by lia)⟩
  ·clear s1 s2 s02 s24 s04 ayh ava au9 dl4 ha1 ha2
   rintro σ' H5 ⟨al,us,rfl,s05,avb,avc,dl5⟩
   obtain⟨xs,rx,hxl⟩:=dl5
   refine⟨_,rfl,nl,_,rfl,.inl (bZ.of avb),λol hol=>?_⟩
   have s6:=az (o:=.lst (nums.map V.int)) hol
   have aqM:upd H5 ol (.lst (nums.map V.int)) ol=some (.lst (nums.map V.int)):=aj
   generalize upd H5 ol (.lst (nums.map V.int))=H6 at s6 aqM
   refine⟨_,rfl,al,_,rfl,.inl (bZ.of (s6 _ _ avc)),λhl hhl=>?_⟩
   have s7:=az (o:=.lst us) hhl
   have aqN:upd H6 hl (.lst us) hl=some (.lst us):=aj
   generalize upd H6 hl (.lst us)=H7 at s7 aqN
   have s57:=s6.trans s7
   have rx7:=rx.aZ (bh s57) (bY cB.flat _)
   refine⟨_,rfl,_,rfl,_,rfl,n,nums,ol,hl,us,xs,rfl,s7 _ _ aqM,aqN,rx7,by lia,by lia,by lia,λr zs H8 s8 hz8 rz8=>?_⟩
   have s58:=s57.trans s8
   have rx8:=rx7.aZ (bh s8) (bY cB.flat _)
   have avd:=s58 _ _ avb
   have ave:=s58 _ _ avc
   have ayj:=s8 _ _ (s7 _ _ aqM)
   have ayk:=s8 _ _ aqN
   have z1:=ints_size nums
   have z2:=YQ xs
   refine⟨_,rfl,_,rfl,.ref ol,.ref nl,.l (nums.map D.i),rfl,?_,?_,?_,λH9 s9=>?_⟩
   ·simp only[Rep];exact⟨ol,_,rfl,ayj,ints_rep _ _⟩
   ·simp only[Rep];exact⟨nl,_,rfl,avd,ints_rep _ _⟩
   ·simp only[D.size];lia
   have rx9:=rx8.aZ (bh s9) (bY cB.flat _)
   refine⟨_,rfl,aP rfl ?_⟩
   refine⟨_,rfl,_,rfl,.ref hl,.ref al,.l (xs.map cB.d),rfl,?_,?_,?_,λH10 s10=>?_⟩
   ·simp only[Rep];exact⟨hl,_,rfl,s9 _ _ ayk,rx9⟩
   ·simp only[Rep];exact⟨al,_,rfl,s9 _ _ ave,rx9⟩
   ·simp only[D.size];lia
   refine⟨_,rfl,aP rfl ?_⟩
   have an6:=s9.trans s10
   have ayl:=rx9.aZ (bh s10) (bY cB.flat _)
   have aym:=an6 _ _ avd
   have ar0:=an6 _ _ ave
   have aA7:=an6 _ _ hz8
   have avf:=rz8.mono an6.seqs
   clear s6 s7 s57 s58 s9 s10 an6 rx rx7 rx8 rx9 avd ave ayj ayk aqM aqN hol hhl avb avc s05 s8 hz8 rz8
   refine⟨_,rfl,_,rfl,n,nl,nums,rfl,aym,by lia,by lia,λAM H11 M11 s11 n11=>?_⟩
   rw[hnum]at M11 n11
   rw[hnum]at avf
   have hul:us.length=xs.length:=by rw[ayl.length,List.length_map]
   have aA9:=ayl.aZ (bh s11) (bY cB.flat _)
   refine⟨Dg,λdu hdu=>?_⟩
   have ayn:H10 du=none:=bJ.free s11 hdu
   have s12:=az (o:=.lst []) hdu
   refine⟨_,rfl,al,rfl,⟨_,bZ.of (s12 _ _ (s11 _ _ ar0))⟩,?_⟩
   have sl:sizeLine=16777216:=by decide
   let PV1:Nat->St->Hp->Prop:=λi σ' H'=>(∃o,σ'=[some (.ref a),some (.int z),some (.int n),some (.int m),some (.ref nl),some (.ref al),some (.ref ol),some (.ref hl),some (.ref r),some (.ref (AM .bc)),some (.ref du),o,none,none])/\i<=us.length/\cg H11 H'/\(∀b o,H10 b=some o->H' b=some o)/\∃(A':Mb->Addr) (se:List (Nat×Let)) (G:Hp) (ys:List V),A' .bc=AM .bc/\aY H' A' n m (Q6 n m (S0 nums) (xs.take i)) se/\Bd (xs.take i).length (Q6 n m (S0 nums) (xs.take i)) se/\(∀x:Mb,x.ok n m->H10 (A' x)=none/\A' x≠du/\G (A' x)=none)/\ys.length=i/\Go H' G du ys (jt n m (S0 nums) (xs.take i))
   refine tZ (xs:=us) PV1 ?_ ?_ ?_ ?_
   ·exact⟨⟨_,rfl⟩,Nat.zero_le _,bh s12,λb o e=>s12 _ _ (s11 b o e),AM,[],(λ_=>none),[],rfl,M11.new hdu,Bd.start nums,λx hx=>⟨n11 x hx,M11.zT hx hdu,rfl⟩,rfl,⟨aj,(λ_ _ e=>nomatch e),rfl,by simp[jt,aH]⟩⟩
   ·rintro i σ' H' _ ⟨_,_,_,k',_⟩
    exact bZ.of (k' _ _ ar0)
   ·rintro i y σ' H' hy ⟨⟨o,rfl⟩,hi,tt,k',A',se,G,ys,eA,M',bd,fr',hyl,g⟩
    have hi':i<us.length:=(List.getElem?_eq_some_iff.mp hy).1
    obtain⟨x,hx,rxx⟩:=YM (aA9.aZ tt (bY cB.flat _)) hy
    obtain⟨b,rfl,hxa⟩:=ahi rxx
    have htk:xs.take (i+1)=xs.take i++[x]:=by rw[List.take_add_one,hx];rfl
    have hti:(xs.take i).length<=1500:=by rw[List.length_take];lia
    have I:=jy.run (n:=n) (xs:=xs.take i) (jy.start n nums)
    rw[hnum]at I
    refine⟨_,rfl,_,rfl,A',n,m,_,se,b,x,_,(by rw[eA];rfl),M',hxa,I,bd,hti,λv A2 H2 M2 f2 v2 r2=>?_⟩
    have k2:∀b o,H10 b=some o->H2 b=some o:=λb u e=>f2.kp _ _ (k' b u e) λz hz e2=>by rw[e2,(fr' z hz).1]at e;cases e
    have kG:bJ G H2:=λb u e=>f2.kp _ _ (g.le b u e) λz hz e2=>by rw[e2,(fr' z hz).2.2]at e;cases e
    have hd2:H2 du=some (.lst ys):=f2.kp _ _ g.bx λz hz e=>(fr' z hz).2.1 e.symm
    have fr2:∀z:Mb,z.ok n m->H10 (A2 z)=none/\A2 z≠du/\G (A2 z)=none:=λz hz=>by
     rcases v2 z hz with e | ⟨_,e⟩
     ·rw[e];exact fr' z hz
     ·refine⟨?_,(λe2=>by rw[e2,g.bx]at e;cases e),bJ.free g.le e⟩
      cases q:H10 (A2 z)with
      | none=>rfl
      | some u=>rw[k' _ _ q]at e;cases e
    have bd2:=bd.step (n:=n) (m:=m) x
    have etA:A2 .bc=AM .bc:=(v2.bc).trans eA
    generalize hS2:((Q6 n m (S0 nums) (xs.take i)).step n m x).1=S2 at M2 bd2
    refine⟨_,rfl,.inl ⟨rfl,_,bZ.of hd2⟩,⟨_,rfl,A2 .bc,_,(by rw[etA]),fG M2.bc j0,A2 .rights,rfl,⟨_,bZ.of M2.rights⟩,λacc hacc=>?_⟩⟩
    let PV2:Nat->List V->St->Hp->Prop:=λj ws σ' H3=>(∃o,σ'=[o])/\bJ H2 H3/\ws.length=j/\∃G2,Gi H2 H3 G2 acc ws ((List.range j).map λd=>.l (U3 m (S2.ds d)))
    refine yo (xs:=(List.range n).map λp=>V.ref (A2 (.rt p))) PV2 ?_ ?_ ?_ ?_
    ·exact⟨⟨_,rfl⟩,az hacc,rfl,_,Gi.start⟩
    ·rintro j ws σ' H3 _ ⟨_,s3,_,G2,g2⟩
     exact⟨bZ.of (s3 _ _ M2.rights),g2.ac⟩
    ·rintro j y ws σ' H3 hy hj ⟨⟨o,rfl⟩,s3,hwl,G2,g2⟩
     rw[List.length_map,List.length_range]at hj
     have hy':y=.ref (A2 (.rt j)):=by
      rw[List.getElem?_map,List.getElem?_range hj]at hy
      exact(Option.some.inj hy).symm
     subst hy'
     refine zR ?_
     refine⟨_,rfl,A2 (.rt j),_,rfl,.inl (bZ.of (s3 _ _ (M2.rt hj))),λl hl=>?_⟩
     have s4:=az (o:=.lst (YS m (S2.ds j))) hl
     refine t8.mk (by rw[List.length_map,List.length_range];exact hj) (s4 _ _ g2.ac) (by lia) ?_
     refine⟨⟨_,rfl⟩,dX (s3.trans s4) hacc,by rw[List.length_append,hwl];rfl,upd G2 l (.lst (YS m (S2.ds j))),?_⟩
     rw[List.range_succ,List.map_append]
     exact g2.step s3 s4 hl aj λG'=>adP G' _ _
    ·rintro ws σ' H3 ⟨_,s3,hwl,G2,g2⟩
     rw[List.length_map,List.length_range]at g2
     obtain⟨G3,l3,n3,rv⟩:=g2.done hacc
     obtain⟨G',g',d'⟩:=g.step kG hd2 s3 l3 n3 rv
     have hd3:=s3 _ _ hd2
     have tl:=jK (vs:=ys++[.ref acc]) hd3
     refine⟨du,ys,_,rfl,rfl,hd3,by lia,?_⟩
     refine⟨⟨_,rfl⟩,by lia,λb xs e=>tl _ _ (bh s3 _ _ (f2.tups M' _ _ (tt _ _ e))),λb o e=>by rw[aq (aF e ayn)];exact s3 _ _ (k2 b o e),A2,se++(Q6 n m (S0 nums) (xs.take i)).lK n x,G',ys++[.ref acc],etA,?_,?_,λz hz=>⟨(fr2 z hz).1,(fr2 z hz).2.1,d' _ (fr2 z hz).2.2 ?_⟩,by rw[List.length_append,hyl];rfl,?_⟩
     ·rw[htk,Q7,hS2]
      exact(M2.same s3).keep tl λz hz u e=>by rw[aq (fr2 z hz).2.1];exact e
     ·rw[htk,Q7,List.length_append,hS2];exact bd2
     ·obtain⟨u,e,_⟩:=M2.at_ z hz
      exact n3 _ _ e
     ·rw[htk,Gs,hS2];exact g'
   ·rintro σ' H' ⟨⟨o,rfl⟩,_,tt,k',A',se,G,ys,eA,M',bd,fr',hyl,g⟩
    rw[hul,List.take_length]at g
    have hz':=k' _ _ aA7
    have rz':aH H' zs (jt n m (S0 nums) xs):=avf.mono (bJ.seqs λb o e=>k' b o e)
    have z3:=SQ n m hn1 hm1 (S0 nums) xs
    refine⟨_,rfl,_,_,_,true,rfl,.lst hz',.inl ⟨_,rfl,aiG⟩,_,rfl,aP rfl ?_⟩
    refine⟨_,rfl,_,rfl,.ref r,.ref du,.l (jt n m (S0 nums) xs),rfl,?_,?_,?_,λH12 s12=>⟨_,rfl,aP rfl ?_⟩⟩
    ·simp only[Rep];exact⟨r,_,rfl,hz',rz'⟩
    ·simp only[Rep];exact⟨du,_,rfl,g.bx,g.rp.mono g.le.seqs⟩
    ·simp only[D.size];lia
    have ayo:=s12 _ _ hz'
    have aBa:=rz'.mono s12.seqs
    have hzl:zs.length=xs.length:=by rw[avf.length,YT]
    have nbm : -(2 ^ 62)<=((m:Nat):Int)/\((m:Nat):Int)<2 ^ 62:=⟨by lia,by lia⟩
    refine⟨_,rfl,r,rfl,⟨_,bZ.of ayo⟩,?_⟩
    let PV3:Nat->St->Hp->Prop:=λi σ' H3=>(∃o12 o13,σ'=[some (.ref a),some (.int z),some (.int n),some (.int m),some (.ref nl),some (.ref al),some (.ref ol),some (.ref hl),some (.ref r),some (.ref (AM .bc)),some (.ref du),o,o12,o13])/\bJ H12 H3
    refine tZ (xs:=zs) PV3 ?_ ?_ ?_ ?_
    ·exact⟨⟨_,_,rfl⟩,bJ.refl _⟩
    ·rintro i σ' H3 _ ⟨_,s3⟩
     exact bZ.of (s3 _ _ ayo)
    ·rintro i y σ' H3 hy ⟨⟨o12,o13,rfl⟩,s3⟩
     have hi':i<zs.length:=(List.getElem?_eq_some_iff.mp hy).1
     obtain⟨y',hy',ry⟩:=WR (aBa.mono s3.seqs) (YX n m (S0 nums) xs (i:=i) (by lia))
     rw[hy]at hy'
     cases hy'
     have C:=Xv.run (xs:=xs.take (i+1)) (jy.start n nums) (Xv.start n nums)
     rw[hnum]at C
     refine⟨_,rfl,(m:Int),rfl,nbm.1,nbm.2,?_⟩
     rw[Int.toNat_natCast]
     let PV4:Nat->St->Hp->Prop:=λj σ' H4=>(∃o13,σ'=[some (.ref a),some (.int z),some (.int n),some (.int m),some (.ref nl),some (.ref al),some (.ref ol),some (.ref hl),some (.ref r),some (.ref (AM .bc)),some (.ref du),o,some y,o13])/\bJ H3 H4
     refine HX PV4 ?_ ?_ ?_
     ·exact⟨⟨_,rfl⟩,bJ.refl _⟩
     ·rintro j σ' H4 hj ⟨⟨o13,rfl⟩,s4⟩
      rw[Int.zero_add]
      obtain⟨b',I⟩:=C.pv j hj
      exact⟨_,rfl,_,rfl,y,j,n,m,_,rfl,ry.mono s4.seqs,hj,by lia,λd e _ _ hw hne=>I.alone (i:=d) hw hne,λH5 s5=>⟨_,rfl,aP rfl ⟨⟨_,rfl⟩,s4.trans s5⟩⟩⟩
     ·rintro σ' H4 ⟨⟨o13,rfl⟩,s4⟩
      exact⟨⟨_,_,rfl⟩,s3.trans s4⟩
    ·rintro σ' H3 _
     exact q _
end
end gB
namespace H1
open PySem PySem.W PyProof.Rows
abbrev pw:=PySem.Challenge.pw_copydesks_k03_whole_who_may
abbrev rw_:=PySem.Challenge.rw_copydesks_k03_whole_who_may
theorem said:OpenLaw.wellSaid rw_=true:=(congrFun Fast.te9446332074065402090 rw_).trans (by kernel_rfl)
def q:Program:=view pw [0,2,3,4,5,6,7,9,10,11,12,13,14,15,16,18,19,20,21,23,24,26,27,28,30,31,33,34,35,36,37,38,39,40,41,42,43,44,45,46,47,48,49,50]
theorem dkh:(defOf q "law").isSome=true:=by kernel_rfl
def dk:=((defOf q "law").get dkh).1
def d:DefRec:={dk with name:="law"}
theorem hdef:defOf q "law"=some (d,[]):=by kernel_rfl
theorem hp:pw.theDef "law"=some (d.params,d.body,d.scope):=by kernel_rfl
theorem hk:kwWritten? d.params.kwonlyargs d.params.kw_defaults=some []:=by kernel_rfl
theorem hdf:d.params.defaults=[]:=by kernel_rfl
theorem ok:(chainsOk q && opensWell pw && (frees rw_.row.toRowW && rw_.row.toRowW.within.isEmpty))=true:=by kernel_rfl
theorem op1:opening pw=plainProg pw.main.scope.names:=by kernel_rfl
theorem op2:∀s,fenceModules? pw s=some s:=λs=>by kernel_rfl
abbrev Xt(s:Shared):Bool:=xlAt q [] s && recOk [] s
local macro_rules | `(tactic| o_head ($_ $K $A $_)) => `(tactic| ((exact False.elim (by assumption)); (exact $K); exact $A))
noncomputable def K0:PSigma λ_:Params->Frag=>PSigma λ_:List Addr=>False->rw_.row.Holds:=by
 refine⟨?K,?A,?h⟩
 rotate_left 2
 intro hF
 k_head
noncomputable abbrev KA:List Addr:=K0.2.1
theorem KAe:∀P,KA=(K0.heap_1 P).map (·.1):=λ_=>by kernel_rfl
theorem g0:∀w:World,(λos=>(Fast.tw12555587260221468252 Fast.tw14364793385576792824 pw (w.withFollow "special-get-raises" false) 11 (some (.ref 6)) 8610 ⟨T0 (w.withFollow "special-get-raises" false).params,11,{},#[],boot_drawn,boot_toks,os⟩ (topStub pw)).map λs=>Fast.tw15217941149495966222 pw q ["RANKS"] Xt (absHeap (T0 (w.withFollow "special-get-raises" false).params) 11 {}) s.abs)=λ_=>some (true,openGood q ["RANKS"]):=λw=>by kernel_rfl
theorem f0:∀w:World,(λos=>(Fast.tw12555587260221468252 Fast.tw14364793385576792824 pw (w.withFollow "special-get-raises" false) 11 (some (.ref 6)) 8610 ⟨T0 (w.withFollow "special-get-raises" false).params,11,{},#[],boot_drawn,boot_toks,os⟩ (topStub pw)).map λs=>List.map s.abs.heap.get? KA)=λ_=>some (List.map (λp=>some p.2) (K0.heap_1 (w.withFollow "special-get-raises" false).params)):=λw=>by kernel_rfl
theorem g1:∀w:World,(λos=>(Fast.tw12555587260221468252 Fast.tw14364793385576792824 pw (w.withFollow "special-get-raises" true) 11 (some (.ref 6)) 8610 ⟨T0 (w.withFollow "special-get-raises" true).params,11,{},#[],boot_drawn,boot_toks,os⟩ (topStub pw)).map λs=>Fast.tw15217941149495966222 pw q ["RANKS"] Xt (absHeap (T0 (w.withFollow "special-get-raises" true).params) 11 {}) s.abs)=λ_=>some (true,openGood q ["RANKS"]):=λw=>by kernel_rfl
theorem f1:∀w:World,(λos=>(Fast.tw12555587260221468252 Fast.tw14364793385576792824 pw (w.withFollow "special-get-raises" true) 11 (some (.ref 6)) 8610 ⟨T0 (w.withFollow "special-get-raises" true).params,11,{},#[],boot_drawn,boot_toks,os⟩ (topStub pw)).map λs=>List.map s.abs.heap.get? KA)=λ_=>some (List.map (λp=>some p.2) (K0.heap_1 (w.withFollow "special-get-raises" true).params)):=λw=>by kernel_rfl
theorem hl:LeftO pw q ["RANKS"] Xt (λs=>List.map s.heap.get? KA) (λw=>List.map (λp=>some p.2) (K0.heap_1 w.params)) 8610 true :=
 avS "special-get-raises" (T₀:=T0) (n₀:=11) (life:={}) (gs₀ := #[]) (d₀:=boot_drawn) (k₀:=boot_toks) (ann:=some (.ref 6)) (M:=8610) (opens op1 (by kernel_rfl) op2) sizes (λw=>both (by rw[Fast.te12555587260221468252,Fast.te14364793385576792824];rw[Fast.te15217941149495966222];exact g0 w) (Yf:=λs=>List.map s.heap.get? KA) (by rw[Fast.te12555587260221468252,Fast.te14364793385576792824];exact f0 w)) (λw=>both (by rw[Fast.te12555587260221468252,Fast.te14364793385576792824];rw[Fast.te15217941149495966222];exact g1 w) (Yf:=λs=>List.map s.heap.get? KA) (by rw[Fast.te12555587260221468252,Fast.te14364793385576792824];exact f1 w)) (by kernel_rfl)
end H1
namespace gB
open PySem L2
abbrev FO(n q:Str)(st:Stmt)(kV dc pm:Value)(an:Option Addr)(cd ct:Value):FuncData:=PySem.W.fnOf n q (Mg st) (zO st) (aN st) .none kV dc pm an cd ct
section
open PySem.W
theorem all_mk{l:OpenLaw}{w:World}{K:Frag}{h:Heap}{mg:Str->Option Value}{fa:Addr}(X:K.In h)(G:h.Ns mainGlobals mg)(hfa:mg "law"=some (.ref fa))
{bw:Addr} {bj:Addr} {aX:Addr} {aM:Addr} {aV:Addr} {aJ:Addr} {bL:Addr} {aD:Addr} {iu:Addr} {bA:Addr} {Ab:Addr} {an7 an8:Option Addr} {an9:Array (Option Value)} {aoa aob aoc aod ahq aoe:Value} {iG:Addr} {aa7 aa8:Option Addr} {aa9:Array (Option Value)} {aba abb abd abe Jf abf:Value} {fH:Addr} {Q8 Q9:Option Addr} {Ra:Array (Option Value)} {Rb Rc Rf Rg za Rh:Value} {gH:Addr} {YZ Y0:Option Addr} {Y4:Array (Option Value)} {Y5 Y6 Y7 Y8 Gu Y9:Value} {gJ:Addr} {Za Zb:Option Addr} {Zc:Array (Option Value)} {Zd Ze Zf Zg Gv Zh:Value} {gK:Addr} {Zi Zj:Option Addr} {Zk:Array (Option Value)} {Zm Zn Zo Zq Gw Zr:Value} {jh:Addr} {adR adS:Option Addr} {adT:Array (Option Value)} {adU adV adW adX Ny adY:Value} {fY:Addr} {U5 U6:Option Addr} {U7:Array (Option Value)} {U8 U9 Va Vb Cr Vc:Value} {iH:Addr} {adZ ad0:Option Addr} {ad1:Array (Option Value)} {ad2 ad3 ad4 ad5 Nz ad6:Value} {eF:Addr} {Ri Rj:Option Addr} {Rk:Array (Option Value)} {Rm Rn Ro Rp zb Rq:Value} {gD:Addr} {abg abh:Option Addr} {abi:Array (Option Value)} {abj abk abl abm Jg abn:Value} {iI:Addr} {ad7 ad8:Option Addr} {ad9:Array (Option Value)} {aea aeb aec aed NB aee:Value} {iJ:Addr} {aef aeg:Option Addr} {aeh:Array (Option Value)} {aei aej aek ael NK aem:Value} {iK:Addr} {aen aeo:Option Addr} {aep:Array (Option Value)} {aeq aer aes aet NP aeu:Value} {fO:Addr} {Zt Zu:Option Addr} {Zv:Array (Option Value)} {Zw Zx Zy Zz Gx ZC:Value} {eZ:Addr} {Vd Ve:Option Addr} {Vf:Array (Option Value)} {Vg Vh Vi Vj Cu Vk:Value} {dM:Addr} {NQ NT:Option Addr} {NZ:Array (Option Value)} {N5 N6 N7 N8 wF Oa:Value} {fc:Addr} {Vl Vm:Option Addr} {Vn:Array (Option Value)} {Vo Vp Vq Vr Cv Vs:Value} {cI:Addr} {Ba Bb:Option Addr} {Bc:Array (Option Value)} {Be Bf Bg Bh oJ Bj:Value} {iM:Addr} {aev aew:Option Addr} {aex:Array (Option Value)} {aey aez aeA aeB Ob aeC:Value} {dN:Addr} {Od Oe:Option Addr} {Og:Array (Option Value)} {Oh Oi Oj Ol wG Om:Value} {cP:Addr} {Dw Dy:Option Addr} {Dz:Array (Option Value)} {DG DK DN DP pG DQ:Value} {cF:Addr} {xU xV:Option Addr} {xW:Array (Option Value)} {xX xY xZ yc lN yd:Value} {cJ:Addr} {Bk Bl:Option Addr} {Bm:Array (Option Value)} {Bo Bp Bq Br oK Bs:Value} {dq:Addr} {Kf Kg:Option Addr} {Kh:Array (Option Value)} {Kl Km Ko Kq u9 Kr:Value} {bV:Addr} {tD tE:Option Addr} {tG:Array (Option Value)} {tH tK tL tM jN tO:Value} {dO:Addr} {Oo Oq:Option Addr} {Ot:Array (Option Value)} {Ou Ov Ow Ox wH Oz:Value} {cL:Addr} {Bu Bv:Option Addr} {Bw:Array (Option Value)} {Bx By BJ BK oM BL:Value} {cQ:Addr} {DR DW:Option Addr} {DX:Array (Option Value)} {DY Ea Eb Ec pH Ed:Value} {iQ:Addr} {aeD aeE:Option Addr} {aeF:Array (Option Value)} {aeG aeH aeI aeJ OD aeK:Value} {iR:Addr} {aeL aeM:Option Addr} {aeN:Array (Option Value)} {aeO aeP aeQ aeR OJ aeS:Value} {iT:Addr} {aeT aeU:Option Addr} {aeV:Array (Option Value)} {aeW aeX aeY aeZ O1 ae0:Value} {fj:Addr} {Vt Vu:Option Addr} {Vv:Array (Option Value)} {Vw Vx Vy Vz Cw VB:Value} {dw:Addr} {Ks Ku:Option Addr} {Kv:Array (Option Value)} {Kw Ky Kz KC vd KD:Value} {dB:Addr} {KH KJ:Option Addr} {KN:Array (Option Value)} {KQ KR KY KZ vf K7:Value} {fu:Addr} {VD VF:Option Addr} {VG:Array (Option Value)} {VH VJ VL VM Cy VN:Value} {fP:Addr} {ZD ZF:Option Addr} {ZG:Array (Option Value)} {ZJ ZK ZL ZM Gy ZP:Value} {fB:Addr} {VP VR:Option Addr} {V0:Array (Option Value)} {V1 V2 V3 V4 Cz V5:Value} {eG:Addr} {Rr Ru:Option Addr} {Rv:Array (Option Value)} {Rx Ry Rz RB zc RC:Value} {dC:Addr} {K8 K9:Option Addr} {La:Array (Option Value)} {Lb Ld Le Lf vg Lg:Value} {cT:Addr} {Gz GC:Option Addr} {GD:Array (Option Value)} {GF GJ GK GP qU GQ:Value} {dR:Addr} {O2 O3:Option Addr} {O4:Array (Option Value)} {O5 O6 O7 O8 wI O9:Value} {dD:Addr} {Lh Li:Option Addr} {Lj:Array (Option Value)} {Lk Ln Lp Lq vh Lr:Value} {dU:Addr} {Pa Pb:Option Addr} {Pg:Array (Option Value)} {Ph Pj Pk Pn wJ Pq:Value} {cW:Addr} {Ef Eg:Option Addr} {Eh:Array (Option Value)} {Ei Ej Ek El pI Em:Value} {ji:Addr} {ae1 ae2:Option Addr} {ae3:Array (Option Value)} {ae4 ae5 ae6 ae7 Pr ae8:Value} {fZ:Addr} {V6 V7:Option Addr} {V8:Array (Option Value)} {V9 Wa Wb Wc CG Wd:Value} {mW:Addr} {aji ajj:Option Addr} {ajk:Array (Option Value)} {ajl ajm ajn ajo ZQ ajp:Value} {FQ:Addr} {aqO aqP:Option Addr} {aqQ:Array (Option Value)} {aqR aqS aqT aqU akE aqV:Value} {qK:Addr} {alx aly:Option Addr} {alz:Array (Option Value)} {alA alB alC alD acE alE:Value} {jj:Addr} {ae9 afa:Option Addr} {afb:Array (Option Value)} {afc afd afe afg Pu afh:Value} {vY:Addr} {aof aog:Option Addr} {aoh:Array (Option Value)} {aoi aoj aok aol ahr aom:Value} {iU:Addr} {abo abp:Option Addr} {abq:Array (Option Value)} {abr abt abu abv Jh abw:Value} {mX:Addr} {ajq ajr:Option Addr} {ajs:Array (Option Value)} {ajt aju ajv ajw ZR ajx:Value} {jl:Addr} {afi afj:Option Addr} {afk:Array (Option Value)} {afl afm afn afo Px afp:Value} {kh:Addr} {ahs aht:Option Addr} {ahu:Array (Option Value)} {ahv ahw ahx ahy SX ahz:Value} {gM:Addr} {ZS ZV:Option Addr} {ZW:Array (Option Value)} {ZX ZZ Z0 aaa GR aab:Value} {gO:Addr} {aac aad:Option Addr} {aae:Array (Option Value)} {aaf aag aah aai GX aaj:Value} {f9:Addr} {We Wf:Option Addr} {Wg:Array (Option Value)} {Wh Wi Wj Wk CJ Wl:Value} {iV:Addr} {abx aby:Option Addr} {abz:Array (Option Value)} {abA abB abC abD Ji abE:Value} {gb:Addr} {Wm Wn:Option Addr} {Wo:Array (Option Value)} {Wq Wr Ws Wt CK Wu:Value} {fJ:Addr} {RD RG:Option Addr} {RJ:Array (Option Value)} {RK RL RM RN zf RP:Value} {iW:Addr} {abF abG:Option Addr} {abH:Array (Option Value)} {abI abJ abK abL Jj abM:Value} {mY:Addr} {ajy ajz:Option Addr} {ajA:Array (Option Value)} {ajB ajC ajD ajE aak ajF:Value} {XM:Addr} {avh avi:Option Addr} {avj:Array (Option Value)} {avk avl avm avn aon avo:Value} {aoo:Tok} {aop:Tok} {akF:Tok} {sV:Addr} {ahA:Array DictEntry} {aqW:Nat} {aoq:Tok} {aor:Tok} {aos:Tok} {aot:Tok} {akG:Tok}
 (afq:nsIn K mainGlobals "CopyError"=some (some (.ref bw)))
 (alF:nsIn K mainGlobals "NoDesk"=some (some (.ref bj)))
 (alG:nsIn K mainGlobals "NoPage"=some (some (.ref aX)))
 (ajG:nsIn K mainGlobals "Waiting"=some (some (.ref aM)))
 (alH:nsIn K mainGlobals "NoCopy"=some (some (.ref aV)))
 (ahB:nsIn K mainGlobals "NoLetter"=some (some (.ref aJ)))
 (aqX:nsIn K mainGlobals "Desk"=some (some (.ref bL)))
 (afr:nsIn K mainGlobals "PageLoans"=some (some (.ref aD)))
 (aqY:nsIn K mainGlobals "Hall"=some (some (.ref iu)))
 (aqZ:nsIn K mainGlobals "Town"=some (some (.ref bA)))
 (afs:excIn K bw [.type "ValueError",.type "Exception",.type "BaseException",.type "object"] "ValueError.__new__"=true)
 (aft:L2.mroIn K bw=some (.ref bw::[.type "ValueError",.type "Exception",.type "BaseException",.type "object"]))
 (alI:excIn K bj [.type "ValueError",.type "Exception",.type "BaseException",.type "object"] "ValueError.__new__"=true)
 (alJ:L2.mroIn K bj=some (.ref bj::[.ref bw,.type "ValueError",.type "Exception",.type "BaseException",.type "object"]))
 (alK:excIn K aX [.type "ValueError",.type "Exception",.type "BaseException",.type "object"] "ValueError.__new__"=true)
 (alL:L2.mroIn K aX=some (.ref aX::[.ref bw,.type "ValueError",.type "Exception",.type "BaseException",.type "object"]))
 (ajH:excIn K aM [.type "ValueError",.type "Exception",.type "BaseException",.type "object"] "ValueError.__new__"=true)
 (ajI:L2.mroIn K aM=some (.ref aM::[.ref bw,.type "ValueError",.type "Exception",.type "BaseException",.type "object"]))
 (alM:excIn K aV [.type "ValueError",.type "Exception",.type "BaseException",.type "object"] "ValueError.__new__"=true)
 (alN:L2.mroIn K aV=some (.ref aV::[.ref bw,.type "ValueError",.type "Exception",.type "BaseException",.type "object"]))
 (ahC:excIn K aJ [.type "ValueError",.type "Exception",.type "BaseException",.type "object"] "ValueError.__new__"=true)
 (ahD:L2.mroIn K aJ=some (.ref aJ::[.ref bw,.type "ValueError",.type "Exception",.type "BaseException",.type "object"]))
 (ahE:findIn K (.ref bj) "__class__"=some (some (.builtin "object.__class__")))
 (ahF:findIn K (.ref bj) "__getattribute__"=some (some (.builtin "BaseException.__getattribute__")))
 (ahG:findIn K (.ref bj) "__getattr__"=some none)
 (rW:kitOne K (.ref bj) (.ref bw)=some true)
 (fC:bj≠bw)
 (yE:kitOne K (.ref bj) (.ref bj)=some true)
 (yF:kitOne K (.ref bj) (.ref aX)=some false)
 (qj:bj≠aX)
 (vZ:kitOne K (.ref bj) (.ref aM)=some false)
 (n6:bj≠aM)
 (yG:kitOne K (.ref bj) (.ref aV)=some false)
 (qm:bj≠aV)
 (uM:kitOne K (.ref bj) (.ref aJ)=some false)
 (mG:bj≠aJ)
 (qL:kitOne K (.ref bj) (.type "ValueError")=some true)
 (ahH:findIn K (.ref aX) "__class__"=some (some (.builtin "object.__class__")))
 (ahI:findIn K (.ref aX) "__getattribute__"=some (some (.builtin "BaseException.__getattribute__")))
 (ahJ:findIn K (.ref aX) "__getattr__"=some none)
 (rY:kitOne K (.ref aX) (.ref bw)=some true)
 (gn:aX≠bw)
 (yH:kitOne K (.ref aX) (.ref bj)=some false)
 (yI:aX≠bj)
 (yJ:kitOne K (.ref aX) (.ref aX)=some true)
 (v5:kitOne K (.ref aX) (.ref aM)=some false)
 (n8:aX≠aM)
 (yK:kitOne K (.ref aX) (.ref aV)=some false)
 (qp:aX≠aV)
 (uN:kitOne K (.ref aX) (.ref aJ)=some false)
 (mH:aX≠aJ)
 (qM:kitOne K (.ref aX) (.type "ValueError")=some true)
 (afu:findIn K (.ref aM) "__class__"=some (some (.builtin "object.__class__")))
 (afv:findIn K (.ref aM) "__getattribute__"=some (some (.builtin "BaseException.__getattribute__")))
 (afw:findIn K (.ref aM) "__getattr__"=some none)
 (qN:kitOne K (.ref aM) (.ref bw)=some true)
 (iY:aM≠bw)
 (v7:kitOne K (.ref aM) (.ref bj)=some false)
 (v8:aM≠bj)
 (v9:kitOne K (.ref aM) (.ref aX)=some false)
 (wg:aM≠aX)
 (uO:kitOne K (.ref aM) (.ref aM)=some true)
 (wj:kitOne K (.ref aM) (.ref aV)=some false)
 (oh:aM≠aV)
 (rZ:kitOne K (.ref aM) (.ref aJ)=some false)
 (lD:aM≠aJ)
 (pB:kitOne K (.ref aM) (.type "ValueError")=some true)
 (ahK:findIn K (.ref aV) "__class__"=some (some (.builtin "object.__class__")))
 (ahL:findIn K (.ref aV) "__getattribute__"=some (some (.builtin "BaseException.__getattribute__")))
 (ahM:findIn K (.ref aV) "__getattr__"=some none)
 (su:kitOne K (.ref aV) (.ref bw)=some true)
 (lE:aV≠bw)
 (yL:kitOne K (.ref aV) (.ref bj)=some false)
 (yM:aV≠bj)
 (yN:kitOne K (.ref aV) (.ref aX)=some false)
 (yO:aV≠aX)
 (wu:kitOne K (.ref aV) (.ref aM)=some false)
 (wy:aV≠aM)
 (yP:kitOne K (.ref aV) (.ref aV)=some true)
 (uP:kitOne K (.ref aV) (.ref aJ)=some false)
 (mJ:aV≠aJ)
 (qO:kitOne K (.ref aV) (.type "ValueError")=some true)
 (abN:findIn K (.ref aJ) "__class__"=some (some (.builtin "object.__class__")))
 (abO:findIn K (.ref aJ) "__getattribute__"=some (some (.builtin "BaseException.__getattribute__")))
 (abP:findIn K (.ref aJ) "__getattr__"=some none)
 (pC:kitOne K (.ref aJ) (.ref bw)=some true)
 (pD:aJ≠bw)
 (uQ:kitOne K (.ref aJ) (.ref bj)=some false)
 (uR:aJ≠bj)
 (uT:kitOne K (.ref aJ) (.ref aX)=some false)
 (uU:aJ≠aX)
 (sE:kitOne K (.ref aJ) (.ref aM)=some false)
 (sG:aJ≠aM)
 (uV:kitOne K (.ref aJ) (.ref aV)=some false)
 (uW:aJ≠aV)
 (qQ:kitOne K (.ref aJ) (.ref aJ)=some true)
 (ou:kitOne K (.ref aJ) (.type "ValueError")=some true)
 (aq0:plainGet K bL Str.empty=true)
 (aq1:hasDictIn K bL=true)
 (aq2:plainOver K bL=true)
 (aq3:findIn K (.ref bL) "__setattr__"=some (some (.builtin "object.__setattr__")))
 (adk:makesIn K bL=true)
 (aq4:keepIn K (.ref bL)=true)
 (dZ:findIn K (.ref bL) "copies"=some none)
 (jr:findIn K (.ref bL) "wish"=some none)
 (afx:plainGet K aD Str.empty=true)
 (afy:hasDictIn K aD=true)
 (afz:plainOver K aD=true)
 (afA:findIn K (.ref aD) "__setattr__"=some (some (.builtin "object.__setattr__")))
 (Aq:makesIn K aD=true)
 (afB:keepIn K (.ref aD)=true)
 (gh:findIn K (.ref aD) "page"=some none)
 (fD:findIn K (.ref aD) "number"=some none)
 (cj:findIn K (.ref aD) "writer"=some none)
 (cX:findIn K (.ref aD) "readers"=some none)
 (dh:findIn K (.ref aD) "asked"=some none)
 (eO:findIn K (.ref aD) "awaited"=some none)
 (aq5:plainGet K iu Str.empty=true)
 (aq6:hasDictIn K iu=true)
 (aq7:plainOver K iu=true)
 (aq8:findIn K (.ref iu) "__setattr__"=some (some (.builtin "object.__setattr__")))
 (adl:makesIn K iu=true)
 (aq9:keepIn K (.ref iu)=true)
 (qD:findIn K (.ref iu) "pages"=some none)
 (ara:plainGet K bA Str.empty=true)
 (arb:hasDictIn K bA=true)
 (arc:plainOver K bA=true)
 (ard:findIn K (.ref bA) "__setattr__"=some (some (.builtin "object.__setattr__")))
 (adm:makesIn K bA=true)
 (arf:keepIn K (.ref bA)=true)
 (g8:findIn K (.ref bA) "page_count"=some none)
 (sW:findIn K (.ref bA) "hall"=some none)
 (fQ:findIn K (.ref bA) "desks"=some none)
 (gQ:findIn K (.ref bA) "roads_up"=some none)
 (ie:findIn K (.ref bA) "roads_down"=some none)
 (wz:findIn K (.ref bA) "row"=some none)
 (arh:nsIn K mainGlobals "_wall"=some (some (.ref Ab)))
 (akH:K.lookup Ab=some ⟨aoa,an7,.func (FO "_wall" "_wall" akm aob aoc aod an8 ahq aoe),an9⟩)
 (akI:codeIn K ahq "_wall"=true)
 (akJ:keepIn K (.ref Ab)=true)
 (afC:nsIn K mainGlobals "ask_letter"=some (some (.ref iG)))
 (Py:K.lookup iG=some ⟨aba,aa7,.func (FO "ask_letter" "ask_letter" zW abb abd abe aa8 Jf abf),aa9⟩)
 (Pz:codeIn K Jf "ask_letter"=true)
 (PB:keepIn K (.ref iG)=true)
 (Wv:nsIn K mainGlobals "answer_letter"=some (some (.ref fH)))
 (CN:K.lookup fH=some ⟨Rb,Q8,.func (FO "answer_letter" "answer_letter" rA Rc Rf Rg Q9 za Rh),Ra⟩)
 (CQ:codeIn K za "answer_letter"=true)
 (CT:keepIn K (.ref fH)=true)
 (abQ:nsIn K mainGlobals "gave_letter"=some (some (.ref gH)))
 (Jk:K.lookup gH=some ⟨Y5,YZ,.func (FO "gave_letter" "gave_letter" xf Y6 Y7 Y8 Y0 Gu Y9),Y4⟩)
 (Jl:codeIn K Gu "gave_letter"=true)
 (Jm:keepIn K (.ref gH)=true)
 (abR:nsIn K mainGlobals "lend_letter"=some (some (.ref gJ)))
 (Jo:K.lookup gJ=some ⟨Zd,Za,.func (FO "lend_letter" "lend_letter" xg Ze Zf Zg Zb Gv Zh),Zc⟩)
 (Jp:codeIn K Gv "lend_letter"=true)
 (Jq:keepIn K (.ref gJ)=true)
 (abS:nsIn K mainGlobals "back_letter"=some (some (.ref gK)))
 (Jr:K.lookup gK=some ⟨Zm,Zi,.func (FO "back_letter" "back_letter" xj Zn Zo Zq Zj Gw Zr),Zk⟩)
 (Js:codeIn K Gw "back_letter"=true)
 (Jt:keepIn K (.ref gK)=true)
 (ahN:nsIn K mainGlobals "is_enough"=some (some (.ref jh)))
 (S5:K.lookup jh=some ⟨adU,adR,.func (FO "is_enough" "is_enough" Fi adV adW adX adS Ny adY),adT⟩)
 (S6:codeIn K Ny "is_enough"=true)
 (S7:keepIn K (.ref jh)=true)
 (aal:nsIn K mainGlobals "right_needed"=some (some (.ref fY)))
 (GZ:K.lookup fY=some ⟨U8,U5,.func (FO "right_needed" "right_needed" uq U9 Va Vb U6 Cr Vc),U7⟩)
 (G8:codeIn K Cr "right_needed"=true)
 (G9:keepIn K (.ref fY)=true)
 (ahO:findIn K (.ref bL) "__init__"=some (some (.ref iH)))
 (ahP:isFn K (.ref iH)=true)
 (S8:K.lookup iH=some ⟨ad2,adZ,.func (FO "__init__" "Desk.__init__" Fj ad3 ad4 ad5 ad0 Nz ad6),ad1⟩)
 (S9:codeIn K Nz "Desk.__init__"=true)
 (Tc:keepIn K (.ref iH)=true)
 (Ww:findIn K (.ref bL) "right_of"=some (some (.ref eF)))
 (Wx:isFn K (.ref eF)=true)
 (CV:K.lookup eF=some ⟨Rm,Ri,.func (FO "right_of" "Desk.right_of" rB Rn Ro Rp Rj zb Rq),Rk⟩)
 (CW:codeIn K zb "Desk.right_of"=true)
 (rQ:keepIn K (.ref eF)=true)
 (afD:findIn K (.ref bL) "waits"=some (some (.ref gD)))
 (afE:isFn K (.ref gD)=true)
 (PJ:K.lookup gD=some ⟨abj,abg,.func (FO "waits" "Desk.waits" zX abk abl abm abh Jg abn),abi⟩)
 (PK:codeIn K Jg "Desk.waits"=true)
 (BP:keepIn K (.ref gD)=true)
 (ahQ:findIn K (.ref bL) "want"=some (some (.ref iI)))
 (ahR:isFn K (.ref iI)=true)
 (Td:K.lookup iI=some ⟨aea,ad7,.func (FO "want" "Desk.want" Fl aeb aec aed ad8 NB aee),ad9⟩)
 (Te:codeIn K NB "Desk.want"=true)
 (Ha:keepIn K (.ref iI)=true)
 (ahS:findIn K (.ref bL) "take"=some (some (.ref iJ)))
 (ahT:isFn K (.ref iJ)=true)
 (Tf:K.lookup iJ=some ⟨aei,aef,.func (FO "take" "Desk.take" Fo aej aek ael aeg NK aem),aeh⟩)
 (Tg:codeIn K NK "Desk.take"=true)
 (Hc:keepIn K (.ref iJ)=true)
 (ahU:findIn K (.ref bL) "rest"=some (some (.ref iK)))
 (ahV:isFn K (.ref iK)=true)
 (Th:K.lookup iK=some ⟨aeq,aen,.func (FO "rest" "Desk.rest" Fp aer aes aet aeo NP aeu),aep⟩)
 (Ti:codeIn K NP "Desk.rest"=true)
 (Hd:keepIn K (.ref iK)=true)
 (abT:findIn K (.ref bL) "may_do"=some (some (.ref fO)))
 (abU:isFn K (.ref fO)=true)
 (Ju:K.lookup fO=some ⟨Zw,Zt,.func (FO "may_do" "Desk.may_do" xm Zx Zy Zz Zu Gx ZC),Zv⟩)
 (Jv:codeIn K Gx "Desk.may_do"=true)
 (ye:keepIn K (.ref fO)=true)
 (aam:findIn K (.ref bL) "do_wish"=some (some (.ref eZ)))
 (aan:isFn K (.ref eZ)=true)
 (Hf:K.lookup eZ=some ⟨Vg,Vd,.func (FO "do_wish" "Desk.do_wish" ur Vh Vi Vj Ve Cu Vk),Vf⟩)
 (Hg:codeIn K Cu "Desk.do_wish"=true)
 (vm:keepIn K (.ref eZ)=true)
 (RQ:findIn K (.ref bL) "take_loan"=some (some (.ref dM)))
 (RT:isFn K (.ref dM)=true)
 (zg:K.lookup dM=some ⟨N5,NQ,.func (FO "take_loan" "Desk.take_loan" pX N6 N7 N8 NT wF Oa),NZ⟩)
 (zj:codeIn K wF "Desk.take_loan"=true)
 (qw:keepIn K (.ref dM)=true)
 (aao:findIn K (.ref bL) "go_down"=some (some (.ref fc)))
 (aap:isFn K (.ref fc)=true)
 (Hh:K.lookup fc=some ⟨Vo,Vl,.func (FO "go_down" "Desk.go_down" ux Vp Vq Vr Vm Cv Vs),Vn⟩)
 (Hi:codeIn K Cv "Desk.go_down"=true)
 (vo:keepIn K (.ref fc)=true)
 (En:findIn K (.ref bL) "number_to_tell"=some (some (.ref cI)))
 (Eo:isFn K (.ref cI)=true)
 (pJ:K.lookup cI=some ⟨Be,Ba,.func (FO "number_to_tell" "Desk.number_to_tell" jz Bf Bg Bh Bb oJ Bj),Bc⟩)
 (pK:codeIn K oJ "Desk.number_to_tell"=true)
 (jE:keepIn K (.ref cI)=true)
 (ahW:findIn K (.ref bL) "hold"=some (some (.ref iM)))
 (ahX:isFn K (.ref iM)=true)
 (Tj:K.lookup iM=some ⟨aey,aev,.func (FO "hold" "Desk.hold" Fq aez aeA aeB aew Ob aeC),aex⟩)
 (Tn:codeIn K Ob "Desk.hold"=true)
 (Hj:keepIn K (.ref iM)=true)
 (RV:findIn K (.ref aD) "__init__"=some (some (.ref dN)))
 (RW:isFn K (.ref dN)=true)
 (zm:K.lookup dN=some ⟨Oh,Od,.func (FO "__init__" "PageLoans.__init__" pY Oi Oj Ol Oe wG Om),Og⟩)
 (zp:codeIn K wG "PageLoans.__init__"=true)
 (zq:keepIn K (.ref dN)=true)
 (Hk:findIn K (.ref aD) "take_ask"=some (some (.ref cP)))
 (Hl:isFn K (.ref cP)=true)
 (qW:K.lookup cP=some ⟨DG,Dw,.func (FO "take_ask" "PageLoans.take_ask" j7 DK DN DP Dy pG DQ),Dz⟩)
 (qX:codeIn K pG "PageLoans.take_ask"=true)
 (kj:keepIn K (.ref cP)=true)
 (zr:findIn K (.ref aD) "take_answer"=some (some (.ref cF)))
 (zu:isFn K (.ref cF)=true)
 (mZ:K.lookup cF=some ⟨xX,xU,.func (FO "take_answer" "PageLoans.take_answer" je xY xZ yc xV lN yd),xW⟩)
 (m5:codeIn K lN "PageLoans.take_answer"=true)
 (jg:keepIn K (.ref cF)=true)
 (Ep:findIn K (.ref aD) "take_gave"=some (some (.ref cJ)))
 (Er:isFn K (.ref cJ)=true)
 (pL:K.lookup cJ=some ⟨Bo,Bk,.func (FO "take_gave" "PageLoans.take_gave" jA Bp Bq Br Bl oK Bs),Bm⟩)
 (pM:codeIn K oK "PageLoans.take_gave"=true)
 (jF:keepIn K (.ref cJ)=true)
 (PL:findIn K (.ref aD) "serve"=some (some (.ref dq)))
 (PN:isFn K (.ref dq)=true)
 (wK:K.lookup dq=some ⟨Kl,Kf,.func (FO "serve" "PageLoans.serve" nJ Km Ko Kq Kg u9 Kr),Kh⟩)
 (wL:codeIn K u9 "PageLoans.serve"=true)
 (oN:keepIn K (.ref dq)=true)
 (vp:findIn K (.ref aD) "bids_for_first"=some (some (.ref bV)))
 (vq:isFn K (.ref bV)=true)
 (km:K.lookup bV=some ⟨tH,tD,.func (FO "bids_for_first" "PageLoans.bids_for_first" gY tK tL tM tE jN tO),tG⟩)
 (kE:codeIn K jN "PageLoans.bids_for_first"=true)
 (ig:keepIn K (.ref bV)=true)
 (RX:findIn K (.ref aD) "lend"=some (some (.ref dO)))
 (RZ:isFn K (.ref dO)=true)
 (zx:K.lookup dO=some ⟨Ou,Oo,.func (FO "lend" "PageLoans.lend" pZ Ov Ow Ox Oq wH Oz),Ot⟩)
 (zy:codeIn K wH "PageLoans.lend"=true)
 (qx:keepIn K (.ref dO)=true)
 (Es:findIn K (.ref aD) "let_write"=some (some (.ref cL)))
 (Et:isFn K (.ref cL)=true)
 (pN:K.lookup cL=some ⟨Bx,Bu,.func (FO "let_write" "PageLoans.let_write" jB By BJ BK Bv oM BL),Bw⟩)
 (pO:codeIn K oM "PageLoans.let_write"=true)
 (jG:keepIn K (.ref cL)=true)
 (Hm:findIn K (.ref aD) "let_read"=some (some (.ref cQ)))
 (Hn:isFn K (.ref cQ)=true)
 (qY:K.lookup cQ=some ⟨DY,DR,.func (FO "let_read" "PageLoans.let_read" j8 Ea Eb Ec DW pH Ed),DX⟩)
 (qZ:codeIn K pH "PageLoans.let_read"=true)
 (kI:keepIn K (.ref cQ)=true)
 (ahY:findIn K (.ref iu) "__init__"=some (some (.ref iQ)))
 (ahZ:isFn K (.ref iQ)=true)
 (Tp:K.lookup iQ=some ⟨aeG,aeD,.func (FO "__init__" "Hall.__init__" Ft aeH aeI aeJ aeE OD aeK),aeF⟩)
 (Tq:codeIn K OD "Hall.__init__"=true)
 (Tr:keepIn K (.ref iQ)=true)
 (ah0:findIn K (.ref iu) "take"=some (some (.ref iR)))
 (ah1:isFn K (.ref iR)=true)
 (Tt:K.lookup iR=some ⟨aeO,aeL,.func (FO "take" "Hall.take" Fv aeP aeQ aeR aeM OJ aeS),aeN⟩)
 (Tu:codeIn K OJ "Hall.take"=true)
 (Ho:keepIn K (.ref iR)=true)
 (ah2:findIn K (.ref bA) "__init__"=some (some (.ref iT)))
 (ah3:isFn K (.ref iT)=true)
 (Tw:K.lookup iT=some ⟨aeW,aeT,.func (FO "__init__" "Town.__init__" Fw aeX aeY aeZ aeU O1 ae0),aeV⟩)
 (Tz:codeIn K O1 "Town.__init__"=true)
 (TJ:keepIn K (.ref iT)=true)
 (aaq:findIn K (.ref bA) "do_deed"=some (some (.ref fj)))
 (aar:isFn K (.ref fj)=true)
 (Hq:K.lookup fj=some ⟨Vw,Vt,.func (FO "do_deed" "Town.do_deed" uy Vx Vy Vz Vu Cw VB),Vv⟩)
 (Hr:codeIn K Cw "Town.do_deed"=true)
 (vy:keepIn K (.ref fj)=true)
 (PQ:findIn K (.ref bA) "check_desk"=some (some (.ref dw)))
 (PX:isFn K (.ref dw)=true)
 (wM:K.lookup dw=some ⟨Kw,Ks,.func (FO "check_desk" "Town.check_desk" nM Ky Kz KC Ku vd KD),Kv⟩)
 (wN:codeIn K vd "Town.check_desk"=true)
 (oO:keepIn K (.ref dw)=true)
 (P0:findIn K (.ref bA) "check_page"=some (some (.ref dB)))
 (Qa:isFn K (.ref dB)=true)
 (wO:K.lookup dB=some ⟨KQ,KH,.func (FO "check_page" "Town.check_page" nO KR KY KZ KJ vf K7),KN⟩)
 (wQ:codeIn K vf "Town.check_page"=true)
 (oR:keepIn K (.ref dB)=true)
 (aas:findIn K (.ref bA) "look_at"=some (some (.ref fu)))
 (aat:isFn K (.ref fu)=true)
 (Ht:K.lookup fu=some ⟨VH,VD,.func (FO "look_at" "Town.look_at" uz VJ VL VM VF Cy VN),VG⟩)
 (Hu:codeIn K Cy "Town.look_at"=true)
 (vA:keepIn K (.ref fu)=true)
 (abV:findIn K (.ref bA) "put_on"=some (some (.ref fP)))
 (abW:isFn K (.ref fP)=true)
 (Jw:K.lookup fP=some ⟨ZJ,ZD,.func (FO "put_on" "Town.put_on" xn ZK ZL ZM ZF Gy ZP),ZG⟩)
 (Jx:codeIn K Gy "Town.put_on"=true)
 (yf:keepIn K (.ref fP)=true)
 (aau:findIn K (.ref bA) "give_up"=some (some (.ref fB)))
 (aav:isFn K (.ref fB)=true)
 (Hv:K.lookup fB=some ⟨V1,VP,.func (FO "give_up" "Town.give_up" uA V2 V3 V4 VR Cz V5),V0⟩)
 (Hw:codeIn K Cz "Town.give_up"=true)
 (vB:keepIn K (.ref fB)=true)
 (Wy:findIn K (.ref bA) "bring_up"=some (some (.ref eG)))
 (Wz:isFn K (.ref eG)=true)
 (CZ:K.lookup eG=some ⟨Rx,Rr,.func (FO "bring_up" "Town.bring_up" rC Ry Rz RB Ru zc RC),Rv⟩)
 (Dc:codeIn K zc "Town.bring_up"=true)
 (rR:keepIn K (.ref eG)=true)
 (Qc:findIn K (.ref bA) "bring_down"=some (some (.ref dC)))
 (Qd:isFn K (.ref dC)=true)
 (wR:K.lookup dC=some ⟨Lb,K8,.func (FO "bring_down" "Town.bring_down" nP Ld Le Lf K9 vg Lg),La⟩)
 (wU:codeIn K vg "Town.bring_down"=true)
 (oU:keepIn K (.ref dC)=true)
 (Im:findIn K (.ref bA) "first_letter"=some (some (.ref cT)))
 (Io:isFn K (.ref cT)=true)
 (sI:K.lookup cT=some ⟨GF,Gz,.func (FO "first_letter" "Town.first_letter" lC GJ GK GP GC qU GQ),GD⟩)
 (sJ:codeIn K qU "Town.first_letter"=true)
 (lF:keepIn K (.ref cT)=true)
 (R0:findIn K (.ref bA) "carry_out"=some (some (.ref dR)))
 (R1:isFn K (.ref dR)=true)
 (zz:K.lookup dR=some ⟨O5,O2,.func (FO "carry_out" "Town.carry_out" p6 O6 O7 O8 O3 wI O9),O4⟩)
 (zA:codeIn K wI "Town.carry_out"=true)
 (qy:keepIn K (.ref dR)=true)
 (Qe:findIn K (.ref bA) "all_rights"=some (some (.ref dD)))
 (Qf:isFn K (.ref dD)=true)
 (wV:K.lookup dD=some ⟨Lk,Lh,.func (FO "all_rights" "Town.all_rights" nQ Ln Lp Lq Li vh Lr),Lj⟩)
 (wW:codeIn K vh "Town.all_rights"=true)
 (oW:keepIn K (.ref dD)=true)
 (R3:findIn K (.ref bA) "rights_of"=some (some (.ref dU)))
 (R4:isFn K (.ref dU)=true)
 (zB:K.lookup dU=some ⟨Ph,Pa,.func (FO "rights_of" "Town.rights_of" p7 Pj Pk Pn Pb wJ Pq),Pg⟩)
 (zE:codeIn K wJ "Town.rights_of"=true)
 (qz:keepIn K (.ref dU)=true)
 (Hx:findIn K (.ref bA) "waiting_desks"=some (some (.ref cW)))
 (Hy:isFn K (.ref cW)=true)
 (rm:K.lookup cW=some ⟨Ei,Ef,.func (FO "waiting_desks" "Town.waiting_desks" qI Ej Ek El Eg pI Em),Eh⟩)
 (rn:codeIn K pI "Town.waiting_desks"=true)
 (kJ:keepIn K (.ref cW)=true)
 (ah4:nsIn K mainGlobals "answer_of"=some (some (.ref ji)))
 (TQ:K.lookup ji=some ⟨ae4,ae1,.func (FO "answer_of" "answer_of" Fx ae5 ae6 ae7 ae2 Pr ae8),ae3⟩)
 (TV:codeIn K Pr "answer_of"=true)
 (TX:keepIn K (.ref ji)=true)
 (aaw:nsIn K mainGlobals "rights_after"=some (some (.ref fZ)))
 (Hz:K.lookup fZ=some ⟨V9,V6,.func (FO "rights_after" "rights_after" uB Wa Wb Wc V7 CG Wd),V8⟩)
 (HB:codeIn K CG "rights_after"=true)
 (HD:keepIn K (.ref fZ)=true)
 (alO:nsIn K mainGlobals "_law_whole"=some (some (.ref mW)))
 (acF:K.lookup mW=some ⟨ajl,aji,.func (FO "_law_whole" "_law_whole" QC ajm ajn ajo ajj ZQ ajp),ajk⟩)
 (acG:codeIn K ZQ "_law_whole"=true)
 (acH:keepIn K (.ref mW)=true)
 (avp:nsIn K mainGlobals "_law_at"=some (some (.ref FQ)))
 (aou:K.lookup FQ=some ⟨aqR,aqO,.func (FO "_law_at" "_law_at" aiW aqS aqT aqU aqP akE aqV),aqQ⟩)
 (aov:codeIn K akE "_law_at"=true)
 (aow:keepIn K (.ref FQ)=true)
 (aox:nsIn K mainGlobals "_law_same"=some (some (.ref qK)))
 (ah5:K.lookup qK=some ⟨alA,alx,.func (FO "_law_same" "_law_same" Xx alB alC alD aly acE alE),alz⟩)
 (ah6:codeIn K acE "_law_same"=true)
 (ah7:keepIn K (.ref qK)=true)
 (ah8:nsIn K mainGlobals "_law_town_of"=some (some (.ref jj)))
 (TY:K.lookup jj=some ⟨afc,ae9,.func (FO "_law_town_of" "_law_town_of" Fy afd afe afg afa Pu afh),afb⟩)
 (T6:codeIn K Pu "_law_town_of"=true)
 (T7:keepIn K (.ref jj)=true)
 (ari:nsIn K mainGlobals "_law_bid"=some (some (.ref vY)))
 (akK:K.lookup vY=some ⟨aoi,aof,.func (FO "_law_bid" "_law_bid" ac7 aoj aok aol aog ahr aom),aoh⟩)
 (akL:codeIn K ahr "_law_bid"=true)
 (akM:keepIn K (.ref vY)=true)
 (afF:nsIn K mainGlobals "_law_lend_out"=some (some (.ref iU)))
 (Qg:K.lookup iU=some ⟨abr,abo,.func (FO "_law_lend_out" "_law_lend_out" zY abt abu abv abp Jh abw),abq⟩)
 (Qh:codeIn K Jh "_law_lend_out"=true)
 (Qi:keepIn K (.ref iU)=true)
 (alP:nsIn K mainGlobals "_law_serve"=some (some (.ref mX)))
 (acI:K.lookup mX=some ⟨ajt,ajq,.func (FO "_law_serve" "_law_serve" QD aju ajv ajw ajr ZR ajx),ajs⟩)
 (acJ:codeIn K ZR "_law_serve"=true)
 (acK:keepIn K (.ref mX)=true)
 (ah9:nsIn K mainGlobals "_law_came_up"=some (some (.ref jl)))
 (T8:K.lookup jl=some ⟨afl,afi,.func (FO "_law_came_up" "_law_came_up" Fz afm afn afo afj Px afp),afk⟩)
 (T9:codeIn K Px "_law_came_up"=true)
 (Ua:keepIn K (.ref jl)=true)
 (ajJ:nsIn K mainGlobals "_law_enough"=some (some (.ref kh)))
 (aax:K.lookup kh=some ⟨ahv,ahs,.func (FO "_law_enough" "_law_enough" JP ahw ahx ahy aht SX ahz),ahu⟩)
 (aay:codeIn K SX "_law_enough"=true)
 (aaz:keepIn K (.ref kh)=true)
 (abX:nsIn K mainGlobals "_law_fulfilled"=some (some (.ref gM)))
 (Jy:K.lookup gM=some ⟨ZX,ZS,.func (FO "_law_fulfilled" "_law_fulfilled" xq ZZ Z0 aaa ZV GR aab),ZW⟩)
 (Jz:codeIn K GR "_law_fulfilled"=true)
 (JB:keepIn K (.ref gM)=true)
 (abY:nsIn K mainGlobals "_law_came_down"=some (some (.ref gO)))
 (JC:K.lookup gO=some ⟨aaf,aac,.func (FO "_law_came_down" "_law_came_down" xr aag aah aai aad GX aaj),aae⟩)
 (JD:codeIn K GX "_law_came_down"=true)
 (JF:keepIn K (.ref gO)=true)
 (aaA:nsIn K mainGlobals "_law_refusal_of"=some (some (.ref f9)))
 (HH:K.lookup f9=some ⟨Wh,We,.func (FO "_law_refusal_of" "_law_refusal_of" uC Wi Wj Wk Wf CJ Wl),Wg⟩)
 (HJ:codeIn K CJ "_law_refusal_of"=true)
 (HN:keepIn K (.ref f9)=true)
 (afG:nsIn K mainGlobals "_law_answered"=some (some (.ref iV)))
 (Qj:K.lookup iV=some ⟨abA,abx,.func (FO "_law_answered" "_law_answered" zZ abB abC abD aby Ji abE),abz⟩)
 (Qk:codeIn K Ji "_law_answered"=true)
 (Ql:keepIn K (.ref iV)=true)
 (aaB:nsIn K mainGlobals "_law_numbers_of"=some (some (.ref gb)))
 (HQ:K.lookup gb=some ⟨Wq,Wm,.func (FO "_law_numbers_of" "_law_numbers_of" uD Wr Ws Wt Wn CK Wu),Wo⟩)
 (HR:codeIn K CK "_law_numbers_of"=true)
 (HS:keepIn K (.ref gb)=true)
 (WD:nsIn K mainGlobals "_law_first_deeds"=some (some (.ref fJ)))
 (Dd:K.lookup fJ=some ⟨RK,RD,.func (FO "_law_first_deeds" "_law_first_deeds" rD RL RM RN RG zf RP),RJ⟩)
 (De:codeIn K zf "_law_first_deeds"=true)
 (Df:keepIn K (.ref fJ)=true)
 (afH:nsIn K mainGlobals "_law_asked_of"=some (some (.ref iW)))
 (Qm:K.lookup iW=some ⟨abI,abF,.func (FO "_law_asked_of" "_law_asked_of" z6 abJ abK abL abG Jj abM),abH⟩)
 (Qn:codeIn K Jj "_law_asked_of"=true)
 (Qo:keepIn K (.ref iW)=true)
 (alQ:nsIn K mainGlobals "_law_alone"=some (some (.ref mY)))
 (acL:K.lookup mY=some ⟨ajB,ajy,.func (FO "_law_alone" "_law_alone" QF ajC ajD ajE ajz aak ajF),ajA⟩)
 (acM:codeIn K aak "_law_alone"=true)
 (acN:keepIn K (.ref mY)=true)
 (ar3:nsIn K mainGlobals "law"=some (some (.ref XM)))
 (ar4:K.lookup XM=some ⟨avk,avh,.func (FO "law" "law" am2 avl avm avn avi aon avo),avj⟩)
 (ar5:codeIn K aon "law"=true)
 (ar6:keepIn K (.ref XM)=true)
 (avq:nsIn K mainGlobals "NONE"=some (some (.str "none" aoo)))
 (avr:nsIn K mainGlobals "READ"=some (some (.str "read" aop)))
 (arj:nsIn K mainGlobals "WRITE"=some (some (.str "write" akF)))
 (ark:nsIn K mainGlobals "RANKS"=some (some (.ref sV)))
 (aoy:K.lookup sV=some ⟨.type "dict",none,.dict ahA aqW,#[]⟩)
 (aoz:KeysLit w.params ahA.toList)
 (alR:nsIn K sV "none"=some (some (.int 0 aoq)))
 (alS:nsIn K sV "read"=some (some (.int 1 aor)))
 (alT:nsIn K sV "write"=some (some (.int 2 aos)))
 (avs:nsIn K mainGlobals "DONE"=some (some (.str "done" aot)))
 (arl:nsIn K mainGlobals "WAITS"=some (some (.str "waits" akG)))
 (ayp:nsIn K mainGlobals "len"=some none)
 (aia:nsIn K mainGlobals "enumerate"=some none)
 (arn:nsIn K mainGlobals "range"=some none)
 (afI:nsIn K mainGlobals "isinstance"=some none)
 (ayq:nsIn K mainGlobals "int"=some none)
 (avt:nsIn K mainGlobals "bool"=some none)
 (avu:nsIn K mainGlobals "list"=some none)
 (aro:nsIn K mainGlobals "tuple"=some none)
 (ayr:nsIn K mainGlobals "str"=some none)
   : ∃fd:FuncData,(∀(s:Shared) (v:Value),BindsTo s fd ⟨[v],[]⟩ [("_law_script",v)])/\∀base:Heap,K.In base->base.Ns mainGlobals mg->cZ l.prog w K mg base oY 10 fa fd ["_law_script"] (akD K):=by
  have e:=(mg_of X G ar3).symm.trans hfa
  cases e
  have T:Txt K w mg ⟨bw,bj,aX,aM,aV,aJ,bL,aD,iu,bA,Ab,_,iG,_,fH,_,gH,_,gJ,_,gK,_,jh,_,fY,_,iH,_,eF,_,gD,_,iI,_,iJ,_,iK,_,fO,_,eZ,_,dM,_,fc,_,cI,_,iM,_,dN,_,cP,_,cF,_,cJ,_,dq,_,bV,_,dO,_,cL,_,cQ,_,iQ,_,iR,_,iT,_,fj,_,dw,_,dB,_,fu,_,fP,_,fB,_,eG,_,dC,_,cT,_,dR,_,dD,_,dU,_,cW,_,ji,_,fZ,_,mW,_,FQ,_,qK,_,jj,_,vY,_,iU,_,mX,_,jl,_,kh,_,gM,_,gO,_,f9,_,iV,_,gb,_,fJ,_,iW,_,mY,_,fa,_,sV⟩:=⟨Qw afs aft,
   mg_of X G afq,
   Qw alI alJ,
   mg_of X G alF,
   Qw alK alL,
   mg_of X G alG,
   Qw ajH ajI,
   mg_of X G ajG,
   Qw alM alN,
   mg_of X G alH,
   Qw ahC ahD,
   mg_of X G ahB,
   ⟨ahE,ahF,ahG⟩,
   rW,
   fC,
   yE,
   yF,
   qj,
   vZ,
   n6,
   yG,
   qm,
   uM,
   mG,
   qL,
   ⟨ahH,ahI,ahJ⟩,
   rY,
   gn,
   yH,
   yI,
   yJ,
   v5,
   n8,
   yK,
   qp,
   uN,
   mH,
   qM,
   ⟨afu,afv,afw⟩,
   qN,
   iY,
   v7,
   v8,
   v9,
   wg,
   uO,
   wj,
   oh,
   rZ,
   lD,
   pB,
   ⟨ahK,ahL,ahM⟩,
   su,
   lE,
   yL,
   yM,
   yN,
   yO,
   wu,
   wy,
   yP,
   uP,
   mJ,
   qO,
   ⟨abN,abO,abP⟩,
   pC,
   pD,
   uQ,
   uR,
   uT,
   uU,
   sE,
   sG,
   uV,
   uW,
   qQ,
   ou,
   ⟨aq0,aq1,aq2,aq3⟩,
   ⟨adk,ahO,ahP,aq4⟩,
   mg_of X G aqX,
   dZ,
   jr,
   ⟨afx,afy,afz,afA⟩,
   ⟨Aq,RV,RW,afB⟩,
   mg_of X G afr,
   gh,
   fD,
   cj,
   cX,
   dh,
   eO,
   ⟨aq5,aq6,aq7,aq8⟩,
   ⟨adl,ahY,ahZ,aq9⟩,
   mg_of X G aqY,
   qD,
   ⟨ara,arb,arc,ard⟩,
   ⟨adm,ah2,ah3,arf⟩,
   mg_of X G aqZ,
   g8,
   sW,
   fQ,
   gQ,
   ie,
   wz,
   aL akH akI akJ,
   (aL akH akI akJ).binds λ_ _ _ _ _ _ us h=>by obtain⟨_,rfl⟩:=Mp h;rfl,
   mg_of X G arh,
   aL Py Pz PB,
   (aL Py Pz PB).binds λ_ _ _ _ _ _ us h=>by obtain⟨_,_,rfl⟩:=jw h;rfl,
   mg_of X G afC,
   aL CN CQ CT,
   (aL CN CQ CT).binds λ_ _ _ _ _ _ us h=>by obtain⟨_,_,rfl⟩:=jw h;rfl,
   mg_of X G Wv,
   aL Jk Jl Jm,
   (aL Jk Jl Jm).binds λ_ _ _ _ _ _ us h=>by obtain⟨_,_,rfl⟩:=jw h;rfl,
   mg_of X G abQ,
   aL Jo Jp Jq,
   (aL Jo Jp Jq).binds λ_ _ _ _ _ _ us h=>by obtain⟨_,_,_,rfl⟩:=Qz h;rfl,
   mg_of X G abR,
   aL Jr Js Jt,
   (aL Jr Js Jt).binds λ_ _ _ _ _ _ us h=>by obtain⟨_,_,rfl⟩:=jw h;rfl,
   mg_of X G abS,
   aL S5 S6 S7,
   (aL S5 S6 S7).binds λ_ _ _ _ _ _ us h=>by obtain⟨_,_,rfl⟩:=jw h;rfl,
   mg_of X G ahN,
   aL GZ G8 G9,
   (aL GZ G8 G9).binds λ_ _ _ _ _ _ us h=>by obtain⟨_,rfl⟩:=Mp h;rfl,
   mg_of X G aal,
   aL S8 S9 Tc,
   (aL S8 S9 Tc).binds λ_ _ _ _ _ _ us h=>by obtain⟨_,rfl⟩:=Mp h;rfl,
   aL CV CW rQ,
   (aL CV CW rQ).binds λ_ _ _ _ _ _ us h=>by obtain⟨_,_,rfl⟩:=jw h;rfl,
   ⟨Ww,Wx,rQ⟩,
   aL PJ PK BP,
   (aL PJ PK BP).binds λ_ _ _ _ _ _ us h=>by obtain⟨_,rfl⟩:=Mp h;rfl,
   ⟨afD,afE,BP⟩,
   aL Td Te Ha,
   (aL Td Te Ha).binds λ_ _ _ _ _ _ us h=>by obtain⟨_,_,rfl⟩:=jw h;rfl,
   ⟨ahQ,ahR,Ha⟩,
   aL Tf Tg Hc,
   (aL Tf Tg Hc).binds λ_ _ _ _ _ _ us h=>by obtain⟨_,_,rfl⟩:=jw h;rfl,
   ⟨ahS,ahT,Hc⟩,
   aL Th Ti Hd,
   (aL Th Ti Hd).binds λ_ _ _ _ _ _ us h=>by obtain⟨_,_,rfl⟩:=jw h;rfl,
   ⟨ahU,ahV,Hd⟩,
   aL Ju Jv ye,
   (aL Ju Jv ye).binds λ_ _ _ _ _ _ us h=>by obtain⟨_,_,rfl⟩:=jw h;rfl,
   ⟨abT,abU,ye⟩,
   aL Hf Hg vm,
   (aL Hf Hg vm).binds λ_ _ _ _ _ _ us h=>by obtain⟨_,_,rfl⟩:=jw h;rfl,
   ⟨aam,aan,vm⟩,
   aL zg zj qw,
   (aL zg zj qw).binds λ_ _ _ _ _ _ us h=>by obtain⟨_,_,_,_,rfl⟩:=atp h;rfl,
   ⟨RQ,RT,qw⟩,
   aL Hh Hi vo,
   (aL Hh Hi vo).binds λ_ _ _ _ _ _ us h=>by obtain⟨_,_,_,rfl⟩:=Qz h;rfl,
   ⟨aao,aap,vo⟩,
   aL pJ pK jE,
   (aL pJ pK jE).binds λ_ _ _ _ _ _ us h=>by obtain⟨_,_,rfl⟩:=jw h;rfl,
   ⟨En,Eo,jE⟩,
   aL Tj Tn Hj,
   (aL Tj Tn Hj).binds λ_ _ _ _ _ _ us h=>by obtain⟨_,_,_,_,rfl⟩:=atp h;rfl,
   ⟨ahW,ahX,Hj⟩,
   aL zm zp zq,
   (aL zm zp zq).binds λ_ _ _ _ _ _ us h=>by obtain⟨_,_,_,rfl⟩:=Qz h;rfl,
   aL qW qX kj,
   (aL qW qX kj).binds λ_ _ _ _ _ _ us h=>by obtain⟨_,_,_,rfl⟩:=Qz h;rfl,
   ⟨Hk,Hl,kj⟩,
   aL mZ m5 jg,
   (aL mZ m5 jg).binds λ_ _ _ _ _ _ us h=>by obtain⟨_,_,rfl⟩:=jw h;rfl,
   ⟨zr,zu,jg⟩,
   aL pL pM jF,
   (aL pL pM jF).binds λ_ _ _ _ _ _ us h=>by obtain⟨_,_,_,rfl⟩:=Qz h;rfl,
   ⟨Ep,Er,jF⟩,
   aL wK wL oN,
   (aL wK wL oN).binds λ_ _ _ _ _ _ us h=>by obtain⟨_,rfl⟩:=Mp h;rfl,
   ⟨PL,PN,oN⟩,
   aL km kE ig,
   (aL km kE ig).binds λ_ _ _ _ _ _ us h=>by obtain⟨_,rfl⟩:=Mp h;rfl,
   ⟨vp,vq,ig⟩,
   aL zx zy qx,
   (aL zx zy qx).binds λ_ _ _ _ _ _ us h=>by obtain⟨_,rfl⟩:=Mp h;rfl,
   ⟨RX,RZ,qx⟩,
   aL pN pO jG,
   (aL pN pO jG).binds λ_ _ _ _ _ _ us h=>by obtain⟨_,_,rfl⟩:=jw h;rfl,
   ⟨Es,Et,jG⟩,
   aL qY qZ kI,
   (aL qY qZ kI).binds λ_ _ _ _ _ _ us h=>by obtain⟨_,_,rfl⟩:=jw h;rfl,
   ⟨Hm,Hn,kI⟩,
   aL Tp Tq Tr,
   (aL Tp Tq Tr).binds λ_ _ _ _ _ _ us h=>by obtain⟨_,_,rfl⟩:=jw h;rfl,
   aL Tt Tu Ho,
   (aL Tt Tu Ho).binds λ_ _ _ _ _ _ us h=>by obtain⟨_,_,_,rfl⟩:=Qz h;rfl,
   ⟨ah0,ah1,Ho⟩,
   aL Tw Tz TJ,
   (aL Tw Tz TJ).binds λ_ _ _ _ _ _ us h=>by obtain⟨_,_,_,rfl⟩:=Qz h;rfl,
   aL Hq Hr vy,
   (aL Hq Hr vy).binds λ_ _ _ _ _ _ us h=>by obtain⟨_,_,rfl⟩:=jw h;rfl,
   ⟨aaq,aar,vy⟩,
   aL wM wN oO,
   (aL wM wN oO).binds λ_ _ _ _ _ _ us h=>by obtain⟨_,_,rfl⟩:=jw h;rfl,
   ⟨PQ,PX,oO⟩,
   aL wO wQ oR,
   (aL wO wQ oR).binds λ_ _ _ _ _ _ us h=>by obtain⟨_,_,rfl⟩:=jw h;rfl,
   ⟨P0,Qa,oR⟩,
   aL Ht Hu vA,
   (aL Ht Hu vA).binds λ_ _ _ _ _ _ us h=>by obtain⟨_,_,_,rfl⟩:=Qz h;rfl,
   ⟨aas,aat,vA⟩,
   aL Jw Jx yf,
   (aL Jw Jx yf).binds λ_ _ _ _ _ _ us h=>by obtain⟨_,_,_,_,rfl⟩:=atp h;rfl,
   ⟨abV,abW,yf⟩,
   aL Hv Hw vB,
   (aL Hv Hw vB).binds λ_ _ _ _ _ _ us h=>by obtain⟨_,_,_,rfl⟩:=Qz h;rfl,
   ⟨aau,aav,vB⟩,
   aL CZ Dc rR,
   (aL CZ Dc rR).binds λ_ _ _ _ _ _ us h=>by obtain⟨_,_,rfl⟩:=jw h;rfl,
   ⟨Wy,Wz,rR⟩,
   aL wR wU oU,
   (aL wR wU oU).binds λ_ _ _ _ _ _ us h=>by obtain⟨_,_,rfl⟩:=jw h;rfl,
   ⟨Qc,Qd,oU⟩,
   aL sI sJ lF,
   (aL sI sJ lF).binds λ_ _ _ _ _ _ us h=>by obtain⟨_,_,rfl⟩:=jw h;rfl,
   ⟨Im,Io,lF⟩,
   aL zz zA qy,
   (aL zz zA qy).binds λ_ _ _ _ _ _ us h=>by obtain⟨_,_,_,rfl⟩:=Qz h;rfl,
   ⟨R0,R1,qy⟩,
   aL wV wW oW,
   (aL wV wW oW).binds λ_ _ _ _ _ _ us h=>by obtain⟨_,rfl⟩:=Mp h;rfl,
   ⟨Qe,Qf,oW⟩,
   aL zB zE qz,
   (aL zB zE qz).binds λ_ _ _ _ _ _ us h=>by obtain⟨_,_,rfl⟩:=jw h;rfl,
   ⟨R3,R4,qz⟩,
   aL rm rn kJ,
   (aL rm rn kJ).binds λ_ _ _ _ _ _ us h=>by obtain⟨_,rfl⟩:=Mp h;rfl,
   ⟨Hx,Hy,kJ⟩,
   aL TQ TV TX,
   (aL TQ TV TX).binds λ_ _ _ _ _ _ us h=>by obtain⟨_,_,rfl⟩:=jw h;rfl,
   mg_of X G ah4,
   aL Hz HB HD,
   (aL Hz HB HD).binds λ_ _ _ _ _ _ us h=>by obtain⟨_,_,_,rfl⟩:=Qz h;rfl,
   mg_of X G aaw,
   aL acF acG acH,
   (aL acF acG acH).binds λ_ _ _ _ _ _ us h=>by obtain⟨_,rfl⟩:=Mp h;rfl,
   mg_of X G alO,
   aL aou aov aow,
   (aL aou aov aow).binds λ_ _ _ _ _ _ us h=>by obtain⟨_,_,rfl⟩:=jw h;rfl,
   mg_of X G avp,
   aL ah5 ah6 ah7,
   (aL ah5 ah6 ah7).binds λ_ _ _ _ _ _ us h=>by obtain⟨_,_,rfl⟩:=jw h;rfl,
   mg_of X G aox,
   aL TY T6 T7,
   (aL TY T6 T7).binds λ_ _ _ _ _ _ us h=>by obtain⟨_,_,rfl⟩:=jw h;rfl,
   mg_of X G ah8,
   aL akK akL akM,
   (aL akK akL akM).binds λ_ _ _ _ _ _ us h=>by obtain⟨_,_,rfl⟩:=jw h;rfl,
   mg_of X G ari,
   aL Qg Qh Qi,
   (aL Qg Qh Qi).binds λ_ _ _ _ _ _ us h=>by obtain⟨_,_,rfl⟩:=jw h;rfl,
   mg_of X G afF,
   aL acI acJ acK,
   (aL acI acJ acK).binds λ_ _ _ _ _ _ us h=>by obtain⟨_,_,rfl⟩:=jw h;rfl,
   mg_of X G alP,
   aL T8 T9 Ua,
   (aL T8 T9 Ua).binds λ_ _ _ _ _ _ us h=>by obtain⟨_,_,rfl⟩:=jw h;rfl,
   mg_of X G ah9,
   aL aax aay aaz,
   (aL aax aay aaz).binds λ_ _ _ _ _ _ us h=>by obtain⟨_,_,rfl⟩:=jw h;rfl,
   mg_of X G ajJ,
   aL Jy Jz JB,
   (aL Jy Jz JB).binds λ_ _ _ _ _ _ us h=>by obtain⟨_,_,_,rfl⟩:=Qz h;rfl,
   mg_of X G abX,
   aL JC JD JF,
   (aL JC JD JF).binds λ_ _ _ _ _ _ us h=>by obtain⟨_,_,rfl⟩:=jw h;rfl,
   mg_of X G abY,
   aL HH HJ HN,
   (aL HH HJ HN).binds λ_ _ _ _ _ _ us h=>by obtain⟨_,_,rfl⟩:=jw h;rfl,
   mg_of X G aaA,
   aL Qj Qk Ql,
   (aL Qj Qk Ql).binds λ_ _ _ _ _ _ us h=>by obtain⟨_,_,rfl⟩:=jw h;rfl,
   mg_of X G afG,
   aL HQ HR HS,
   (aL HQ HR HS).binds λ_ _ _ _ _ _ us h=>by obtain⟨_,_,rfl⟩:=jw h;rfl,
   mg_of X G aaB,
   aL Dd De Df,
   (aL Dd De Df).binds λ_ _ _ _ _ _ us h=>by obtain⟨_,_,rfl⟩:=jw h;rfl,
   mg_of X G WD,
   aL Qm Qn Qo,
   (aL Qm Qn Qo).binds λ_ _ _ _ _ _ us h=>by obtain⟨_,_,_,rfl⟩:=Qz h;rfl,
   mg_of X G afH,
   aL acL acM acN,
   (aL acL acM acN).binds λ_ _ _ _ _ _ us h=>by obtain⟨_,_,rfl⟩:=jw h;rfl,
   mg_of X G alQ,
   aL ar4 ar5 ar6,
   (aL ar4 ar5 ar6).binds λ_ _ _ _ _ _ us h=>by obtain⟨_,rfl⟩:=Mp h;rfl,
   mg_of X G ar3,
   ⟨aoo,mg_of X G avq⟩,
   ⟨aop,mg_of X G avr⟩,
   ⟨akF,mg_of X G arj⟩,
   mg_of X G ark,
   asR aoy aoz alR alS alT,
   ⟨aot,mg_of X G avs⟩,
   ⟨akG,mg_of X G arl⟩,
   mg_none_of X G ayp,
   mg_none_of X G aia,
   mg_none_of X G arn,
   mg_none_of X G afI,
   mg_none_of X G ayq,
   mg_none_of X G avt,
   mg_none_of X G avu,
   mg_none_of X G aro,
   mg_none_of X G ayr⟩
  exact⟨_,λs v=>.of_eq rfl,λbase _ _=>au1 T⟩
end
theorem walk{l:PySem.W.OpenLaw}{q:Program}{loose:List Str}{XP:(Str->Option Value)->Heap->Prop}{YP:World->Heap->Prop}{d:DefRec}{K:Params->PySem.W.Frag}(hn:l.most=some 63)(hdf:d.params.defaults=[])
 (hY:∀(w:World) (h:Heap),YP w h->(K w.params).In h)
 (F:∀(w:World) (mg:Str->Option Value) (fa:Addr) (h:Heap),(K w.params).In h->h.Ns mainGlobals mg->mg d.name=some (.ref fa)->
   ∃fd:FuncData,(∀(s:Shared) (u:Value),BindsTo s fd ⟨[u],[]⟩ [("_law_script",u)])/\∀base:Heap,(K w.params).In base->base.Ns mainGlobals mg->cZ l.prog w (K w.params) mg base oY 10 fa fd ["_law_script"] (akD (K w.params))) :
 PySem.W.WalkO q loose XP YP l.row.toRowW d [] (λf vs=>PySem.call f vs) :=
 L2.aoW (n:=63) (k:=10) (x:="_law_script") (CX:=λ_=>oY) (sp:=λw=>akD (K w.params)) hn (by decide) hdf ⟨rfl,by decide,by decide⟩ hY F (λ_ _ a ns hl _ hS=>⟨a,ns,rfl,hS,hl,λ_=>rfl⟩) λ_ _ _ _ _ z=>z
end gB
open PySem PySem.W PyProof.Rows
set_option maxRecDepth 100000 in
set_option maxHeartbeats 0 in
theorem PySem.Challenge.cw_copydesks_k03_whole_who_may_holds : PySem.Challenge.rw_copydesks_k03_whole_who_may.Holds := by
 w_on;refine PySem.W.holds_law H1.said λsaid=>?_
 refine PySem.W.holds_open (r:=PySem.W.OpenLaw.row H1.rw_) (q:=H1.q) (loose:=["RANKS"]) (d:=H1.d) (kwd:=[]) (Xt:=H1.Xt) (XP:=PySem.W.XL H1.q []) (YP:=PySem.W.InK H1.K0.heap_1) H1.hl (PySem.W.InK.of H1.KAe) PySem.W.InK.keeps (λs e=>PySem.W.xl_of s (Bool.and_eq_true_iff.mp e).1) PySem.W.XL.keeps H1.hdef H1.hp H1.hk (λs e=>PySem.W.recFacts_of (Bool.and_eq_true_iff.mp e).2) rfl said H1.ok ⟨rfl,rfl,rfl,rfl,rfl,by decide +kernel⟩ ?hw ?hc
 (case hw=>w_witness2)
 k_fill
 refine gB.walk (l:=PySem.Challenge.rw_copydesks_k03_whole_who_may) rfl H1.hdf (λw h Y=>Y) ?F
 case F =>
  intro w mg fa h KX G hmg
  refine' gB.all_mk KX G hmg ?_ ?_ ?_ ?_ ?_ ?_ ?_ ?_ ?_ ?_ ?_ ?_ ?_ ?_ ?_ ?_ ?_ ?_ ?_ ?_ ?_ ?_ ?_ ?_ ?_ ?_ ?_ ?_ ?_ ?_ ?_ ?_ ?_ ?_ ?_ ?_ ?_ ?_ ?_ ?_ ?_ ?_ ?_ ?_ ?_ ?_ ?_ ?_ ?_ ?_ ?_ ?_ ?_ ?_ ?_ ?_ ?_ ?_ ?_ ?_ ?_ ?_ ?_ ?_ ?_ ?_ ?_ ?_ ?_ ?_ ?_ ?_ ?_ ?_ ?_ ?_ ?_ ?_ ?_ ?_ ?_ ?_ ?_ ?_ ?_ ?_ ?_ ?_ ?_ ?_ ?_ ?_ ?_ ?_ ?_ ?_ ?_ ?_ ?_ ?_ ?_ ?_ ?_ ?_ ?_ ?_ ?_ ?_ ?_ ?_ ?_ ?_ ?_ ?_ ?_ ?_ ?_ ?_ ?_ ?_ ?_ ?_ ?_ ?_ ?_ ?_ ?_ ?_ ?_ ?_ ?_ ?_ ?_ ?_ ?_ ?_ ?_ ?_ ?_ ?_ ?_ ?_ ?_ ?_ ?_ ?_ ?_ ?_ ?_ ?_ ?_ ?_ ?_ ?_ ?_ ?_ ?_ ?_ ?_ ?_ ?_ ?_ ?_ ?_ ?_ ?_ ?_ ?_ ?_ ?_ ?_ ?_ ?_ ?_ ?_ ?_ ?_ ?_ ?_ ?_ ?_ ?_ ?_ ?_ ?_ ?_ ?_ ?_ ?_ ?_ ?_ ?_ ?_ ?_ ?_ ?_ ?_ ?_ ?_ ?_ ?_ ?_ ?_ ?_ ?_ ?_ ?_ ?_ ?_ ?_ ?_ ?_ ?_ ?_ ?_ ?_ ?_ ?_ ?_ ?_ ?_ ?_ ?_ ?_ ?_ ?_ ?_ ?_ ?_ ?_ ?_ ?_ ?_ ?_ ?_ ?_ ?_ ?_ ?_ ?_ ?_ ?_ ?_ ?_ ?_ ?_ ?_ ?_ ?_ ?_ ?_ ?_ ?_ ?_ ?_ ?_ ?_ ?_ ?_ ?_ ?_ ?_ ?_ ?_ ?_ ?_ ?_ ?_ ?_ ?_ ?_ ?_ ?_ ?_ ?_ ?_ ?_ ?_ ?_ ?_ ?_ ?_ ?_ ?_ ?_ ?_ ?_ ?_ ?_ ?_ ?_ ?_ ?_ ?_ ?_ ?_ ?_ ?_ ?_ ?_ ?_ ?_ ?_ ?_ ?_ ?_ ?_ ?_ ?_ ?_ ?_ ?_ ?_ ?_ ?_ ?_ ?_ ?_ ?_ ?_ ?_ ?_ ?_ ?_ ?_ ?_ ?_ ?_ ?_ ?_ ?_ ?_ ?_ ?_ ?_ ?_ ?_ ?_ ?_ ?_ ?_ ?_ ?_ ?_ ?_ ?_ ?_ ?_ ?_ ?_ ?_ ?_ ?_ ?_ ?_ ?_ ?_ ?_ ?_ ?_ ?_ ?_ ?_ ?_ ?_ ?_ ?_ ?_ ?_ ?_ ?_ ?_ ?_ ?_ ?_ ?_ ?_ ?_ ?_ ?_ ?_ ?_ ?_ ?_ ?_ ?_ ?_ ?_ ?_ ?_ ?_ ?_ ?_ ?_ ?_ ?_ ?_ ?_ ?_ ?_ ?_ ?_ ?_ ?_ ?_ ?_ ?_ ?_ ?_ ?_ ?_ ?_ ?_ ?_ ?_ ?_ ?_ ?_ ?_ ?_ ?_ ?_ ?_ ?_ ?_ ?_ ?_ ?_ ?_ ?_ ?_ ?_ ?_ ?_ ?_ ?_ ?_ ?_ ?_ ?_ ?_ ?_ ?_ ?_ ?_ ?_ ?_ ?_ ?_ ?_ ?_ ?_ ?_
  all_goals try first | k_is | kernel_rfl | decide | exact⟨⟨_,_,rfl,rfl⟩,⟨⟨_,_,rfl,rfl⟩,⟨⟨_,_,rfl,rfl⟩,trivial⟩⟩⟩
