import PyProof.Rows.All
import Wide.All
import OpenK.AllK
import Wide.FinOn
import Lean
import PyProof.EqAt
import PyProof.EqKinds
import PyProof.NeKinds
import PyProof.TupleCall
import PySem.Challenge.RW_copydesks_k02_whole_one_row
set_option Elab.async false
set_option maxRecDepth 100000
set_option maxHeartbeats 4000000
namespace H1
open PySem PySem.W PySem.Calls PyProof.Rows
noncomputable def fN {α:Type} (n:Nat) (k:Nat->α):α := @Nat.rec (fun _=>α) (k 0) (fun m _=>k (Nat.succ m)) n
theorem ari{α:Type}(n:Nat)(k:Nat->α):fN n k=k n:=by cases n<;>rfl
noncomputable def run (tb:String->Option Builtin) (p:Program) (w:World) (n₀:Nat) (ann:Option Value):Nat->SharedT->Thread->Option SharedT
 | 0,_,_=>none
 | n+1,s,t=>match through t with
   | true=>some s
   | false=>match stepOk n₀ ann t with
     | false=>none
     | true=>match stepT (denote tb) p w s t with
       | some (⟨T,k,l,g,d,tk,os⟩,t')=>fN tk fun tk=>fN k fun k=>run tb p w n₀ ann n ⟨T,k,l,g,d,tk,os⟩ t'
       | none=>none
section
variable{tb:String->Option Builtin}{p:Program}{w:World}{n₀:Nat}{ann:Option Value}
theorem alW:∀{n:Nat} {s s':SharedT} {t:Thread},run tb p w n₀ ann n s t=some s'->topRun tb p w n₀ ann n s.abs t=some s'.abs
 | 0,_,_,_,h=>by cases h
 | n+1,s,s',t,h=>by
   unfold run at h
   unfold topRun
   cases he:through t with
   | true=>rw[he]at h;cases h;rfl
   | false =>
     rw[he]at h
     cases hk:stepOk n₀ ann t with
     | false=>rw[hk]at h;cases h
     | true =>
       rw[hk]at h
       cases hs:stepT (denote tb) p w s t with
       | none=>rw[hs]at h;cases h
       | some r =>
         obtain⟨⟨T,k,l,g,d,tk,os⟩,t₂⟩:=r
         rw[hs]at h
         rw[stepT_spec hs]
         dsimp only at h
         rw[ari,ari]at h
         exact alW h
end
def looks(p q:Program)(loose:List Str)(Xt:Shared->Bool){α:Type}(Yf:Shared->α)(g0:Bool)(H₀:Heap)(s:Shared) :=
 (staticsOk (importedModules p.main.body) H₀ s.heap && namesBound p s.heap && gensDone s && laidKept H₀ s.heap,openSeen q loose (importedModules p.main.body) Xt g0 s,Yf s)
def looks0(p q:Program)(loose:List Str)(Xt:Shared->Bool)(H₀:Heap)(s:Shared) :=
 (staticsOk (importedModules p.main.body) H₀ s.heap && namesBound p s.heap && gensDone s && laidKept H₀ s.heap,openSeen q loose (importedModules p.main.body) Xt true s)
theorem left{p q:Program}{loose:List Str}{Xt:Shared->Bool}{α:Type}{Yf:Shared->α}{Ya:World->α}{N M:Nat}{g0:Bool}{T₀:Params->BT}{n₀:Nat}{life:Life}{gs₀:Array GenState}{d₀:Drawn}{k₀:Nat}{ann:Option Value}
 (open_:∀w:World,(fencedOpening treeTable p w N).map (fun s=>(s.heap,s.gens,s.drawn,s.toks))=some (absHeap (T₀ w.params) n₀ life,gs₀,d₀,k₀))
 (size:∀w:World,((absHeap (T₀ w.params) n₀ life).isNs mainGlobals && gs₀.size == 0,(absHeap (T₀ w.params) n₀ life).nsMap mainGlobals "__annotations__")=(true,ann))
 (h:∀w:World,(fun os=>(run treeTable p w n₀ ann M ⟨T₀ w.params,n₀,life,gs₀,d₀,k₀,os⟩ (topStub p)).map fun s=>looks p q loose Xt Yf g0 (absHeap (T₀ w.params) n₀ life) s.abs)=fun _=>some (true,openGood q loose,Ya w))
 (le:Nat.ble M N=true):LeftO p q loose Xt Yf Ya N g0:=fun w=>by
 obtain⟨⟨h0,gs,d,k,os⟩,e,e'⟩:=Option.map_eq_some_iff.mp (open_ w)
 obtain⟨rfl,rfl,rfl,rfl⟩:h0=absHeap (T₀ w.params) n₀ life/\gs=gs₀/\d=d₀/\k=k₀:=by simpa using e'
 obtain⟨z1,z3⟩:_/\_:=by simpa only[Prod.mk.injEq] using size w
 obtain⟨sT,r0,l0⟩:=Option.map_eq_some_iff.mp (congrFun (h w) os)
 obtain⟨l1,l2,l3⟩:_/\_/\_:=by simpa only[looks,Prod.mk.injEq] using l0
 have r:=topRun_mono (N - M) _ _ _ _ (alW r0)
 rw[show M+(N - M)=N by have:=Nat.le_of_ble_eq_true le;lia]at r
 have t:topFrom treeTable p w N ⟨absHeap (T₀ w.params) n₀ life,gs,d,k,os⟩=some sT.abs:=by
  unfold topFrom
  dsimp only
  rw[z1,absHeap_size,z3]
  have r':topRun treeTable p w n₀ ann N ⟨absHeap (T₀ w.params) n₀ life,gs,d,k,os⟩ (topStub p)=some sT.abs:=r
  rw[r']
  show(match staticsOk (importedModules p.main.body) (absHeap (T₀ w.params) n₀ life) sT.abs.heap && namesBound p sT.abs.heap && gensDone sT.abs && laidKept (absHeap (T₀ w.params) n₀ life) sT.abs.heap with | true=>_ | false=>_)=_
  rw[l1]
 unfold openEnds
 rw[e]
 show(topFrom treeTable p w N _).map _=_
 rw[t]
 exact congrArg some (Prod.ext l2 l3)
end H1
namespace H1
open PySem PySem.W PySem.Calls PyProof.Rows
theorem avI{p q:Program}{loose:List Str}{Xt:Shared->Bool}{α:Type}{Yf:Shared->α}{Ya:World->α}{N M:Nat}{g0:Bool}{T₀:Params->BT}{n₀:Nat}{life:Life}{gs₀:Array GenState}{d₀:Drawn}{k₀:Nat}{ann:Option Value}(row:String)
 (open_:∀w:World,(fencedOpening treeTable p w N).map (fun s=>(s.heap,s.gens,s.drawn,s.toks))=some (absHeap (T₀ w.params) n₀ life,gs₀,d₀,k₀))
 (size:∀w:World,((absHeap (T₀ w.params) n₀ life).isNs mainGlobals && gs₀.size == 0,(absHeap (T₀ w.params) n₀ life).nsMap mainGlobals "__annotations__")=(true,ann))
 (h0:∀w:World,(fun os=>(run treeTable p (w.withFollow row false) n₀ ann M ⟨T₀ (w.withFollow row false).params,n₀,life,gs₀,d₀,k₀,os⟩ (topStub p)).map fun s=>looks p q loose Xt Yf g0 (absHeap (T₀ (w.withFollow row false).params) n₀ life) s.abs)=fun _=>some (true,openGood q loose,Ya (w.withFollow row false)))
 (h1:∀w:World,(fun os=>(run treeTable p (w.withFollow row true) n₀ ann M ⟨T₀ (w.withFollow row true).params,n₀,life,gs₀,d₀,k₀,os⟩ (topStub p)).map fun s=>looks p q loose Xt Yf g0 (absHeap (T₀ (w.withFollow row true).params) n₀ life) s.abs)=fun _=>some (true,openGood q loose,Ya (w.withFollow row true)))
 (le:Nat.ble M N=true):LeftO p q loose Xt Yf Ya N g0 :=
 left open_ size (fun w=>by
  have e:=World.withFollow_self w row
  cases hb:w.params.followText row with
  | false=>rw[hb]at e;have:=h0 w;rw[e]at this;exact this
  | true=>rw[hb]at e;have:=h1 w;rw[e]at this;exact this) le
theorem glue{β γ:Type}{r:Option β}{f:β->γ}{δ:Type}{g:β->δ}{a:γ}{b:δ}(x:r.map f=some a)(y:r.map g=some b):r.map (fun s=>(f s,g s))=some (a,b):=by
 cases r with
 | none=>cases x
 | some s=>cases x;cases y;rfl
theorem both{p q:Program}{loose:List Str}{Xt:Shared->Bool}{α:Type}{Yf:Shared->α}{M:Nat}{n₀:Nat}{life:Life}{gs₀:Array GenState}{d₀:Drawn}{k₀:Nat}{ann:Option Value}{w:World}{T:BT}{y:α}
 (x:(fun os=>(run treeTable p w n₀ ann M ⟨T,n₀,life,gs₀,d₀,k₀,os⟩ (topStub p)).map fun s=>looks0 p q loose Xt (absHeap T n₀ life) s.abs)=fun _=>some (true,openGood q loose))
 (z:(fun os=>(run treeTable p w n₀ ann M ⟨T,n₀,life,gs₀,d₀,k₀,os⟩ (topStub p)).map fun s=>Yf s.abs)=fun _=>some y) :
 (fun os=>(run treeTable p w n₀ ann M ⟨T,n₀,life,gs₀,d₀,k₀,os⟩ (topStub p)).map fun s=>looks p q loose Xt Yf true (absHeap T n₀ life) s.abs)=fun _=>some (true,openGood q loose,y):=by
 funext os
 have e:=glue (congrFun x os) (congrFun z os)
 cases h:run treeTable p w n₀ ann M ⟨T,n₀,life,gs₀,d₀,k₀,os⟩ (topStub p)with
 | none=>rw[h]at e;cases e
 | some s =>
   rw[h]at e
   simp only[Option.map_some,Option.some.injEq,Prod.mk.injEq,looks0,looks]at e ⊢
   exact⟨e.1.1,e.1.2,e.2⟩
noncomputable def mkT (l:List Obj):Nat->Nat->Nat->BT
 | 0,_,_=>.nil
 | f+1,a,b=>match l[b]? with
   | some o=>.node o (mkT l f (2*a) (a+b)) (mkT l f (2*a) (2*a+b))
   | none=>.nil
noncomputable def T0 (P:Params):BT:=mkT (boot_heap P).objs.toList 12 1 0
theorem t0(P:Params):absHeap (T0 P) 11 {}=boot_heap P:=by kernel_rfl
theorem opens{p:Program}{N:Nat}(e:opening p=plainProg p.main.scope.names)(hN:Nat.ble 600 N=true)(f:∀s,fenceModules? p s=some s)(w:World):(fencedOpening treeTable p w N).map (fun s=>(s.heap,s.gens,s.drawn,s.toks))=some (absHeap (T0 w.params) 11 {},#[],boot_drawn,boot_toks):=by
 rw[t0];exact boot_open e hN f w
theorem sizes(w:World):((absHeap (T0 w.params) 11 {}).isNs mainGlobals && (#[]:Array GenState).size == 0,(absHeap (T0 w.params) 11 {}).nsMap mainGlobals "__annotations__")=(true,some (.ref 6)):=by
 rw[t0];kernel_rfl
end H1
lay_quick H1.run H1.looks0
set_option Elab.async false
set_option linter.all false
set_option maxRecDepth 100000
namespace PySem
theorem Eo:0<=sizeLine:=by decide
theorem zz1:1<=sizeLine:=by decide
theorem vA:2<=sizeLine:=by decide
theorem zz3:3<=sizeLine:=by decide
theorem zz4:4<=sizeLine:=by decide
theorem zz5:5<=sizeLine:=by decide
theorem zz6:6<=sizeLine:=by decide
theorem zz7:7<=sizeLine:=by decide
theorem zz8:8<=sizeLine:=by decide
theorem zz9:9<=sizeLine:=by decide
end PySem
namespace L2
theorem kW{α β:Type}{p r q:α->β->Prop}{C:Prop}(h:∃x y,p x y/\r x y/\q x y)(k:∀x y,p x y->r x y->q x y->C):C:=Exists.elim h fun x h=>Exists.elim h fun y h=>k x y h.1 h.2.1 h.2.2
theorem ex3{β:Type}{p q:β->Prop}{C:Prop}(h:∃y,p y/\q y)(k:∀y,p y->q y->C):C:=Exists.elim h fun y h=>k y h.1 h.2
theorem ex4{α β:Type}{p q:α->β->Prop}{C:Prop}(h:∃x y,p x y/\q x y)(k:∀x y,p x y->q x y->C):C:=Exists.elim h fun x h=>Exists.elim h fun y h=>k x y h.1 h.2
open PySem PySem.Spec PyProof.Rows
abbrev Key:=Sum Int Str
def abV:Key->Value->Bool
 | .inl k,v=>Value.isInt k v
 | .inr x,v=>Value.isStrOf x v
def ayZ(w:World):Key->Int
 | .inl k=>hashInt k
 | .inr x=>hashStr w x
theorem ik:∀{k:Key} {v:Value},abV k v=true->(∃i t,k=Sum.inl i/\v=Value.int i t)\/(∃x t,k=Sum.inr x/\v=Value.str x t)
 | .inl i,v,h=>by
   obtain⟨t,e⟩:=Value.isInt_shape (k:=i) (v:=v) h
   exact .inl ⟨i,t,rfl,e⟩
 | .inr x,v,h=>by
   obtain⟨t,e⟩:=Value.isStrOf_shape (x:=x) (v:=v) h
   exact .inr ⟨x,t,rfl,e⟩
theorem akB(i:Int)(t:Tok):abV (.inl i) (.int i t)=true:=by simp[abV,Value.isInt]
theorem akC(x:Str)(t:Tok):abV (.inr x) (.str x t)=true:=by simp[abV,Value.isStrOf]
theorem arZ(a b:Int):decide ((Sum.inl a:Key)=Sum.inl b)=(a == b):=by
 by_cases e:a=b
 ·subst e;simp
 ·have h:¬(Sum.inl a:Key)=Sum.inl b:=fun q=>e (Sum.inl.inj q)
  rw[decide_eq_false h]
  exact(beq_eq_false_iff_ne.mpr e).symm
theorem ar0(a b:Str):decide ((Sum.inr a:Key)=Sum.inr b)=decide (a=b):=by
 by_cases e:a=b
 ·subst e;simp
 ·have h:¬(Sum.inr a:Key)=Sum.inr b:=fun q=>e (Sum.inr.inj q)
  rw[decide_eq_false h,decide_eq_false e]
theorem ar3(a:Int)(b:Str):decide ((Sum.inl a:Key)=Sum.inr b)=false:=decide_eq_false (fun q=>nomatch q)
theorem ar4(a:Str)(b:Int):decide ((Sum.inr a:Key)=Sum.inl b)=false:=decide_eq_false (fun q=>nomatch q)
def gY(prog:Program)(w:World):PySem.KeyKind prog w Key where
 is:=abV
 hash:=ayZ w
 inj:=fun v a b ha hb=>by
  rcases ik ha with ⟨i,t,rfl,rfl⟩ | ⟨x,t,rfl,rfl⟩
  ·rcases ik hb with ⟨j,u,rfl,e⟩ | ⟨y,u,rfl,e⟩
   ·injection e with e1 _;rw[e1]
   ·exact nomatch e
  ·rcases ik hb with ⟨j,u,rfl,e⟩ | ⟨y,u,rfl,e⟩
   ·exact nomatch e
   ·injection e with e1 _;rw[e1]
 byValue:=fun k v h=>by
  rcases ik h with ⟨i,t,rfl,rfl⟩ | ⟨x,t,rfl,rfl⟩<;>rfl
 pyHash:=fun hv h=>by
  rcases ik hv with ⟨i,t,rfl,rfl⟩ | ⟨x,t,rfl,rfl⟩
  ·exact wpAny_pyHash_int h
  ·exact wpAny_pyHash_str h
 eqBool:=fun hu hv h=>by
  rcases ik hu with ⟨i,t,rfl,rfl⟩ | ⟨x,t,rfl,rfl⟩
  ·rcases ik hv with ⟨j,u,rfl,rfl⟩ | ⟨y,u,rfl,rfl⟩
   ·rw[arZ]at h;exact wpAny_eqBool_int h
   ·rw[ar3]at h;exact SeqAt.EqAt.int_str i t y u _ _ _ _ h
  ·rcases ik hv with ⟨j,u,rfl,rfl⟩ | ⟨y,u,rfl,rfl⟩
   ·rw[ar4]at h;exact SeqAt.EqAt.str_int x t j u _ _ _ _ h
   ·rw[ar0]at h;exact wpAny_eqBool_str h
 «strs»:=fun k x t v h=>by
  rcases ik h with ⟨i,u,rfl,e⟩ | ⟨y,u,rfl,e⟩
  ·exact nomatch e
  ·injection e with e1 _
   subst e1
   cases v<;>rfl
theorem afI(prog:Program)(w:World)(i:Int)(t:Tok):(gY prog w).is (.inl i) (.int i t)=true:=akB i t
theorem afJ(prog:Program)(w:World)(x:Str)(t:Tok):(gY prog w).is (.inr x) (.str x t)=true:=akC x t
end L2
namespace L2
open PySem PySem.Spec PyProof.Rows
inductive V where
 | non | bl (b:Bool) | int (i:Int) | str (x:Str) | byt (b:Array UInt8) | flt (b:UInt64) | ref (a:Addr) | ty (n:String)
 deriving DecidableEq
def RelV:V->Value->Prop
 | .non,u=>u=Value.none
 | .bl b,u=>u=Value.bool b
 | .int i,u=>∃t,u=Value.int i t
 | .str x,u=>∃t,u=Value.str x t
 | .byt b,u=>∃t,u=Value.bytes b t
 | .flt b,u=>∃t,u=Value.float b t
 | .ref a,u=>u=Value.ref a
 | .ty n,u=>u=Value.type n
abbrev Vals:List V->List Value->Prop:=Paired RelV
theorem Vals.length{xs:List V}{us:List Value}(r:Vals xs us):xs.length=us.length:=Paired.length r
theorem Vals.get:∀{xs:List V} {us:List Value} {i:Nat} {x:V},Vals xs us->xs[i]? = some x->∃u,us[i]? = some u/\RelV x u
 | _,_,_,_,.nil,e=>by simp at e
 | _,_,0,_,.cons r _,e=>by simp at e;subst e;exact⟨_,rfl,r⟩
 | _,_,i+1,x,.cons _ t,e=>by
   obtain⟨u,h1,h2⟩:=Vals.get (i:=i) (x:=x) t (by simpa using e)
   exact⟨u,by simpa using h1,h2⟩
theorem Vals.set{x:V}{u:Value}(r:RelV x u):∀{xs:List V} {us:List Value} (i:Nat),Vals xs us->Vals (xs.set i x) (us.set i u)
 | _,_,_,.nil=>.nil
 | _,_,0,.cons _ t=>.cons r t
 | _,_,i+1,.cons q t=>.cons q (Vals.set r i t)
theorem Vals.append:∀{xs ys:List V} {us ws:List Value},Vals xs us->Vals ys ws->Vals (xs++ys) (us++ws)
 | _,_,_,_,.nil,s=>s
 | _,_,_,_,.cons r t,s=>.cons r (Vals.append t s)
theorem Vals.take:∀{xs:List V} {us:List Value} (n:Nat),Vals xs us->Vals (xs.take n) (us.take n)
 | _,_,0,_=>.nil
 | _,_,_+1,.nil=>.nil
 | _,_,n+1,.cons r t=>.cons r (Vals.take n t)
theorem Vals.drop:∀{xs:List V} {us:List Value} (n:Nat),Vals xs us->Vals (xs.drop n) (us.drop n)
 | _,_,0,r=>r
 | _,_,_+1,.nil=>.nil
 | _,_,n+1,.cons _ t=>Vals.drop n t
def Dc:Option V->Option Value->Prop
 | some v,some u=>RelV v u
 | none,none=>True
 | _,_=>False
def KV{κ:Type}:List (κ×V)->List (κ×Value)->Prop:=Paired fun(p:κ×V) (q:κ×Value)=>p.1=q.1/\RelV p.2 q.2
def kV:Key->V
 | .inl i=>.int i
 | .inr x=>.str x
inductive HO where
 | lst (xs:List V)
 | tup (xs:List V)
 | dK (kvs:List (Key×V)) | dT (kvs:List (List Key×V))
 | set (S:Int->Bool) (n:Nat)
 | ins (C dx:Addr) (fs:List (Str×V))
 | own (x:Addr)
 | xd (fs:List (Str×V))
 | met (f x:Addr)
 | rng (lo hi:Int)
 | frz (o:Obj) (u:HO)
 | tbl (ps:Array Value)
 | ext (φ:Heap->Prop)
abbrev Hp:=Addr->Option HO
def upd(H:Hp)(a:Addr)(o:HO):Hp:=fun b=>if b=a then some o else H b
theorem aj{H:Hp}{a:Addr}{o:HO}:upd H a o a=some o:=by unfold upd;rw[if_pos rfl]
theorem aq{H:Hp}{a b:Addr}{o:HO}(h:b≠a):upd H a o b=H b:=by unfold upd;rw[if_neg h]
theorem ajr{H:Hp}{a:Addr}{o u:HO}:upd (upd H a o) a u=upd H a u:=by
 funext b;unfold upd;split<;>rfl
theorem jr{H:Hp}{a b:Addr}{o u:HO}(h:H a=some o)(h':H b=some u)(d:o≠u):a≠b:=by
 intro e;subst e;rw[h]at h';exact d (Option.some.inj h')
theorem aG{H:Hp}{a b:Addr}{o:HO}(h:H a=some o)(h':H b=none):a≠b:=by
 intro e;subst e;rw[h]at h';cases h'
section
variable(P:Program)(w:World)
def fO(H:Hp)(h:Heap)(a:Addr):HO->Prop
 | .lst xs=>xs.length<=sizeLine/\∃(its:List Value) (n:Nat),Vals xs its/\h.get? a=some {cls:=.type "list",data:=.seq its.toArray n}
 | .tup xs=>xs.length<=sizeLine/\∃its:List Value,Vals xs its/\IsTup h a its.toArray
 | .dK kvs=>kvs.length<=sizeLine/\(a == sysModules)=false/\∃vs,KV kvs vs/\h.DictOf (gY P w) a vs
 | .dT kvs=>kvs.length<=sizeLine/\(a == sysModules)=false/\∃xs:List (List Key×Addr×Value),
    Paired (fun(p:List Key×V) (q:List Key×Addr×Value)=>p.1=q.1/\H q.2.1=some (.tup (p.1.map kV))/\RelV p.2 q.2.2) kvs xs/\
    ∃o es ep,h.get? a=some o/\o.ExactDict/\o.data=.dict es ep/\es.toList=xs.map (entryOfKey (tupleKind (gY P w)))/\(xs.map (·.1)).Nodup
 | .set S n=>h.SetOf (intKind P w) a S n
 | .ins C dx fs=>H dx=some (.own a)/\fs.length<=1000/\dx≠a/\h.get? a=some (PySem.W.instObj C dx)/\
    ∃mA,h.Ns1 dx mA/\(∀f,Dc (fs.lookup f) (mA f))/\PySem.Within mA (fs.map (·.1))
 | .own _=>∃o,h.get? a=some o
 | .xd fs=>∃mA,h.Ns1 a mA/\∀f,Dc (fs.lookup f) (mA f)
 | .rng lo hi=>∃t u v,h.get? a=some {cls:=.type "range",data:=.fields #[.int lo t,.int hi u,.int 1 v]}
 | .frz o u=>h.get? a=some o/\fO H h a u
 | .tbl ps=>h.get? a=some {cls:=.none,data:=.fields ps}
 | .met f x=>h.get? a=some (PySem.W.methodObj (.ref f) (.ref x))
 | .ext φ=>φ h/\(∃o,h.get? a=some o)/\∀h1 h2:Heap,φ h1->(∀o,h1.get? a=some o->h2.get? a=some o)->φ h2
def HY(H:Hp)(h:Heap):Prop:=∀a o,H a=some o->fO P w H h a o
end
section
variable{P:Program}{w:World}{H H':Hp}{h h':Heap}{a:Addr}{o:HO}
theorem fO.lt(x:fO P w H h a o):a<h.objs.size:=by
 cases o with
 | lst xs=>obtain⟨_,_,_,_,e⟩:=x;exact Heap.lt_size e
 | tup xs=>obtain⟨_,_,_,p⟩:=x;exact p.lt
 | dK kvs=>obtain⟨_,_,_,_,o,_,_,e,_⟩:=x;exact Heap.lt_size e
 | dT kvs=>obtain⟨_,_,_,_,o,_,_,e,_⟩:=x;exact Heap.lt_size e
 | set S n=>obtain⟨o,_,_,_,e,_⟩:=x;exact Heap.lt_size e
 | ins C dx fs=>obtain⟨_,_,_,e,_⟩:=x;exact Heap.lt_size e
 | own y=>obtain⟨_,e⟩:=x;exact Heap.lt_size e
 | xd fs=>obtain⟨_,⟨_,_,_,e,_⟩,_⟩:=x;exact Heap.lt_size e
 | rng lo hi=>obtain⟨_,_,_,e⟩:=x;exact Heap.lt_size e
 | frz ob u=>obtain⟨e,_⟩:=x;exact Heap.lt_size e
 | tbl ps=>exact Heap.lt_size (show h.get? a=some _ from x)
 | met f y=>exact Heap.lt_size (show h.get? a=some _ from x)
 | ext φ=>obtain⟨_,⟨_,e⟩,_⟩:=x;exact Heap.lt_size e
theorem Paired.ar5{α β:Type}{F G:α->β->Prop}:∀{l₁:List α} {l₂:List β},Paired F l₁ l₂->(∀a b,F a b->G a b)->Paired G l₁ l₂
 | _,_,.nil,_=>.nil
 | _,_,.cons r t,f=>.cons (f _ _ r) (Paired.ar5 t f)
theorem fO.stay(x:fO P w H h a o)(k:∀b u,(b=a\/H b=some (.own a))->h.get? b=some u->h'.get? b=some u)
 (ho:∀b,H b=some (.own a)->H' b=some (.own a)) (ht:∀b xs,H b=some (.tup xs)->H' b=some (.tup xs)):fO P w H' h' a o:=by
 induction o with
 | lst xs=>obtain⟨z,its,n,r,e⟩:=x;exact⟨z,its,n,r,k _ _ (.inl rfl) e⟩
 | tup xs=>obtain⟨z,its,r,ob,e,c⟩:=x;exact⟨z,its,r,ob,k _ _ (.inl rfl) e,c⟩
 | dK kvs=>obtain⟨z,y,vs,r,ob,es,ep,e,c⟩:=x;exact⟨z,y,vs,r,ob,es,ep,k _ _ (.inl rfl) e,c⟩
 | dT kvs =>
   obtain⟨z,y,xs,r,ob,es,ep,e,c⟩:=x
   exact⟨z,y,xs,Paired.ar5 r fun p q z=>⟨z.1,ht _ _ z.2.1,z.2.2⟩,ob,es,ep,k _ _ (.inl rfl) e,c⟩
 | set S n=>obtain⟨ob,es,ep,t,e,c⟩:=x;exact⟨ob,es,ep,t,k _ _ (.inl rfl) e,c⟩
 | ins C dx fs =>
   obtain⟨d,z,ne,e,mA,⟨od,es,ep,e2,c⟩,r⟩:=x
   exact⟨ho _ d,z,ne,k _ _ (.inl rfl) e,mA,⟨od,es,ep,k _ _ (.inr d) e2,c⟩,r⟩
 | own y=>obtain⟨ob,e⟩:=x;exact⟨ob,k _ _ (.inl rfl) e⟩
 | xd fs=>obtain⟨mA,⟨od,es,ep,e,c⟩,r⟩:=x;exact⟨mA,⟨od,es,ep,k _ _ (.inl rfl) e,c⟩,r⟩
 | rng lo hi=>obtain⟨t,u,v,e⟩:=x;exact⟨t,u,v,k _ _ (.inl rfl) e⟩
 | frz ob u ih=>obtain⟨e,q⟩:=x;exact⟨k _ _ (.inl rfl) e,ih q⟩
 | tbl ps =>
   have e:h.get? a=some {cls:=.none,data:=.fields ps}:=x
   show h'.get? a=some {cls:=.none,data:=.fields ps}
   exact k a _ (.inl rfl) e
 | met f y =>
   have e:h.get? a=some (PySem.W.methodObj (.ref f) (.ref y)):=x
   show h'.get? a=some (PySem.W.methodObj (.ref f) (.ref y))
   exact k a _ (.inl rfl) e
 | ext φ=>obtain⟨p,⟨o,e⟩,st⟩:=x;exact⟨st _ _ p fun o q=>k _ _ (.inl rfl) q,⟨o,k _ _ (.inl rfl) e⟩,st⟩
theorem HY.lt(x:HY P w H h)(e:H a=some o):a<h.objs.size:=(x a o e).lt
theorem HY.fresh(x:HY P w H h)(e:h.objs.size<=a):H a=none:=by
 cases q:H a with
 | none=>rfl
 | some u=>exact absurd (Nat.lt_of_lt_of_le (x.lt q) e) (Nat.lt_irrefl _)
theorem HY.kept(x:HY P w H h)(k:∀b u,h.get? b=some u->h'.get? b=some u):HY P w H h':=fun a o e =>
 (x a o e).stay (fun b u _ q=>k b u q) (fun _ q=>q) fun _ _ q=>q
theorem HY.laid(x:HY P w H h)(k:∀b u,h.get? b=some u->h'.get? b=some u)(hp:h.objs.size<=a)(new:fO P w (upd H a o) h' a o):HY P w (upd H a o) h':=fun b u e=>by
 have hn:=x.fresh hp
 by_cases hb:b=a
 ·subst hb;rw[aj]at e;cases e;exact new
 ·rw[aq hb]at e
  exact(x b u e).stay (fun c v _ q=>k c v q) (fun c q=>by rw[aq (aG q hn)];exact q) fun c xs q=>by rw[aq (aG q hn)];exact q
end
def Rd(H:Hp)(a:Addr)(u:HO):Prop:=H a=some u\/∃o,H a=some (.frz o u)
theorem Rd.ok{P:Program}{w:World}{H:Hp}{h:Heap}{a:Addr}{u:HO}(r:Rd H a u)(x:HY P w H h):fO P w H h a u:=by
 rcases r with r | ⟨o,r⟩
 ·exact x a u r
 ·obtain⟨_,q⟩:=x a _ r
  exact q
def Mut:Option HO->Prop
 | some (.lst _)=>True
 | some (.dK _)=>True
 | some (.dT _)=>True
 | some (.set _ _)=>True
 | some (.ins _ _ _)=>True
 | some (.ext _)=>True
 | _=>False
section
variable{P:Program}{w:World}{H:Hp}{h h':Heap}{x e:Addr}{o':HO}
theorem HY.write(ok:HY P w H h)(mu:Mut (H x))(he:e=x\/H e=some (.own x))(k:∀b u,b≠e->h.get? b=some u->h'.get? b=some u)(heo:∃u,h'.get? e=some u)
 (new:fO P w (upd H x o') h' x o'):HY P w (upd H x o') h':=fun b u q=>by
 have avK:∀c y,H c=some (.own y)->c≠x:=fun c y r z=>by subst z;rw[r]at mu;exact mu
 have ay0:∀c xs,H c=some (.tup xs)->c≠x:=fun c xs r z=>by subst z;rw[r]at mu;exact mu
 by_cases hb:b=x
 ·subst hb;rw[aj]at q;cases q;exact new
 ·rw[aq hb]at q
  by_cases hbe:b=e
  ·have q':H b=some (.own x):=by
    rcases he with z | z
    ·exact absurd (hbe.trans z) hb
    ·rw[hbe];exact z
   rw[q]at q';cases q'
   obtain⟨v,hv⟩:=heo
   exact⟨v,by rw[hbe];exact hv⟩
  ·refine(ok b u q).stay (fun c v hc r=>k c v ?_ r) (fun c r=>by rw[aq (avK c b r)];exact r) fun c xs r=>by rw[aq (ay0 c xs r)];exact r
   rcases hc with rfl | hc
   ·exact hbe
   ·rintro rfl
    rcases he with z | z
    ·exact avK c b hc z
    ·rw[hc]at z;cases z;exact hb rfl
end
structure Un(fs ex:List Addr)(H H':Hp)(h h':Heap):Prop where
 keep:∀b o,h.get? b=some o->H b=none->b∉fs->b∉ex->h'.get? b=some o
 slot:∀b o,h.get? b=some o->H b=none->b∈fs->b∉ex->∃sl,h'.get? b=some {o with slots:=sl}
 free:∀b o,h.get? b=some o->H b=none->b∉ex->H' b=none
 there:∀b o,h.get? b=some o->b∉ex->∃o',h'.get? b=some o'
 tups:∀b xs,H b=some (.tup xs)->H' b=some (.tup xs)
 JC:∀b o u,H b=some (.frz o u)->H' b=some (.frz o u)
 Ln:∀b ps,H b=some (.tbl ps)->∃more,H' b=some (.tbl (ps++more))
section
variable{fs fs' ex ex':List Addr}{H H1 H2:Hp}{h h1 h2 h':Heap}{a x e:Addr}{o:HO}
theorem Un.any(u:Un fs ex H H1 h h1){b:Addr}{ob:Obj}(q:h.get? b=some ob)(n:H b=none)(hx:b∉ex):∃sl,h1.get? b=some {ob with slots:=sl}:=by
 by_cases hb:b∈fs
 ·exact u.slot b ob q n hb hx
 ·exact⟨ob.slots,u.keep b ob q n hb hx⟩
theorem Un.kept(k:∀b u,h.get? b=some u->h'.get? b=some u):Un fs ex H H h h' :=
 ⟨fun b ob q _ _ _=>k b ob q,fun b ob q _ _ _=>⟨ob.slots,k b ob q⟩,fun _ _ _ n _=>n,fun b ob q _=>⟨ob,k b ob q⟩,fun _ _ q=>q,fun _ _ _ q=>q,fun _ ps q=>⟨#[],by rw[q];simp⟩⟩
theorem Un.refl:Un fs ex H H h h:=Un.kept fun _ _ q=>q
theorem Un.laid(k:∀b u,h.get? b=some u->h'.get? b=some u)(hp:h.objs.size<=a)(hn:H a=none):Un fs ex H (upd H a o) h h' where
 keep:=fun b u q _ _ _=>k b u q
 slot:=fun b u q _ _ _=>⟨u.slots,k b u q⟩
 free:=fun b u q n _=>by rw[aq (Nat.ne_of_lt (Nat.lt_of_lt_of_le (Heap.lt_size q) hp))];exact n
 there:=fun b u q _=>⟨u,k b u q⟩
 tups:=fun b xs q=>by rw[aq (aG q hn)];exact q
 JC:=fun b u xs q=>by rw[aq (aG q hn)];exact q
 Ln:=fun b ps q=>⟨#[],by rw[aq (aG q hn),q];simp⟩
theorem Un.write(mu:Mut (H x))(he:e=x\/H e=some (.own x))(k:∀b u,b≠e->h.get? b=some u->h'.get? b=some u)(heo:∃u,h'.get? e=some u):Un fs ex H (upd H x o) h h':=by
 have hx:∀b,H b=none->b≠x:=fun b n z=>by subst z;rw[n]at mu;exact mu
 have hb:∀b,H b=none->b≠e:=fun b n z=>by
  subst z
  rcases he with r | r
  ·exact hx b n r
  ·rw[n]at r;cases r
 have hm:∀b u,H b=some u->¬Mut (some u)->b≠x:=fun b u q nm z=>by subst z;rw[q]at mu;exact nm mu
 refine⟨fun b u q n _ _=>k b u (hb b n) q,fun b u q n _ _=>⟨u.slots,k b u (hb b n) q⟩,fun b u q n _=>by rw[aq (hx b n)];exact n,fun b u q _=>?_,
  fun b xs q=>by rw[aq (hm b _ q fun z=>z)];exact q,fun b u xs q=>by rw[aq (hm b _ q fun z=>z)];exact q,fun b ps q=>⟨#[],by rw[aq (hm b _ q fun z=>z),q];simp⟩⟩
 by_cases hbe:b=e
 ·subst hbe;exact heo
 ·exact⟨u,k b u hbe q⟩
end
def trk(h:Heap)(H:Hp):List Addr:=(List.range h.objs.size).filter fun a=>(H a).isSome
def acJ(h:Heap)(H:Hp):Heap:=PySem.W.hideAll h (trk h H)
theorem akD(h:Heap)(H:Hp):(acJ h H).objs.size=h.objs.size:=PySem.W.hideAll_size _ _
theorem alX{h:Heap}{H:Hp}{b:Addr}{o:Obj}(e:h.get? b=some o)(n:H b=none):(acJ h H).get? b=some o :=
 PySem.W.hideAll_get _ e fun hm=>by
  have q:(H b).isSome=true:=(List.mem_filter.mp hm).2
  rw[n]at q;simp at q
theorem aoG{h:Heap}{H:Hp}{b:Addr}{o:Obj}(e:(acJ h H).get? b=some o):h.get? b=some o/\H b=none:=by
 have e':h.get? b=some o:=PySem.W.of_hideAll (trk h H) e
 refine⟨e',?_⟩
 cases q:H b with
 | none=>rfl
 | some x =>
   have hm:b∈trk h H:=List.mem_filter.mpr ⟨List.mem_range.mpr (Heap.lt_size e'),by simp[q]⟩
   have z:(acJ h H).get? b=none:=PySem.W.hideAll_none (trk h H) hm
   rw[z]at e;cases e
end L2
namespace L2
open PySem PySem.Spec PyProof.Rows
structure Mod(K:PySem.W.Frag)(mg:Str->Option Value)(base:Heap):Prop where
 kin:K.In base
 glob:base.Ns mainGlobals mg
 blt:∃mb,base.Ns builtinsNs mb/\∀x:Str,x≠"__name__"->mb x=bootBuiltins x
 nolimit:base.NoLimit
structure Cx where
 prog:Program
 w:World
 K:PySem.W.Frag
 mg:Str->Option Value
 base:Heap
 A:Around
 N:List Str
 s₀:Shared
 H₀:Hp
 env:Env
 outer:List Env
 stack:List Env
 ex:List Addr
 fn:Str->Bool
 calm:Bool
 pn:List (Addr×Obj)
 xe:Value->Shared->Prop
def frs(l:List Env):List Addr:=l.filterMap (·.frame)
abbrev Cx.fs(X:Cx):List Addr:=frs X.outer
def Vis(sc:Scope)(x:Str):Prop:=sc.names.lookup x=some .local\/sc.names.lookup x=some .cell\/sc.names.lookup x=some .free
def Loc(sc:Scope)(x:Str):Prop:=sc.names.lookup x=some .local\/sc.names.lookup x=some .cell
def Look(env:Env)(h:Heap)(m:Str->Option Value)(x:Str)(u:Value):Prop :=
 (env.kindOf x=some .local/\m x=some u)\/((env.kindOf x=some .cell\/env.kindOf x=some .free)/\∃c,env.cells.lookup x=some c/\h.IsCell c (some u))
structure Cx.Ok(X:Cx):Prop where
 mod:Mod X.K X.mg X.base
 kind:X.env.scope.kind=.function
 glob:X.env.globals=mainGlobals
 blt:X.env.builtins=builtinsNs
 above:X.s₀.heap.objs.size<=X.env.locals
 inj:∀x y c,X.env.cells.lookup x=some c->X.env.cells.lookup y=some c->x=y
 has:∀x,(X.env.kindOf x=some .cell\/X.env.kindOf x=some .free)->∃c,X.env.cells.lookup x=some c
 cab:∀x c,X.fn x=true->X.env.cells.lookup x=some c->X.s₀.heap.objs.size<=c
 hd:X.calm=true->X.A.handled=none
 frames:X.A.frames=some X.stack
 stk:X.stack=X.outer\/(X.stack=X.env::X.outer/\X.env.frame=some X.env.locals)
 exf:∀b∈X.ex,b≠X.env.locals/\∀x c,X.env.cells.lookup x=some c->c≠b
 bs:∀b o,X.base.get? b=some o->X.s₀.heap.get? b=some o/\X.H₀ b=none
 bsz:X.base.objs.size<=X.s₀.heap.objs.size
 afK:∀b o,X.base.get? b=some o->b∉X.ex
 ah5:∀b∈X.ex,b∉X.fs
 JD:X.s₀.heap.FunFrames X.base X.outer
 frf:∀b∈X.fs,X.H₀ b=none
structure Inv(X:Cx)(pins:List (Addr×Obj))(σ:List (Option V))(H:Hp)(s:Shared):Prop where
 ok:X.Ok
 os:s.os=X.s₀.os
 bare:AllBare s.gens
 base:Un X.fs X.ex X.H₀ H X.s₀.heap s.heap
 loc:∃m,s.heap.Ns X.env.locals m/\∀(i:Nat) (x:Str) (v:V),X.N[i]? = some x->σ[i]? = some (some v)->Vis X.env.scope x->∃u,RelV v u/\Look X.env s.heap m x u
 cell:∀x c,X.env.cells.lookup x=some c->∃v,s.heap.IsCell c v
 free:H X.env.locals=none
 vB:∀x c,X.env.cells.lookup x=some c->H c=none
 pin:∀p∈X.pn++pins,s.heap.get? p.1=some p.2/\H p.1=none/\p.1≠X.env.locals/\p.1∉X.fs/\∀v,p.2.data≠.cell v
 hok:HY X.prog X.w H s.heap
 len:σ.length=X.N.length
section
variable{X:Cx}{pins:List (Addr×Obj)}{σ:List (Option V)}{H H':Hp}{s:Shared}{h':Heap}
theorem Cx.Ok.ay1(ok:X.Ok){b:Addr}{o:Obj}(e:X.base.get? b=some o):b∉X.fs:=fun hb=>by
 have:=(ok.JD.mem hb).1
 rw[e]at this;cases this
theorem Inv.bs(I:Inv X pins σ H s):∀b o,X.base.get? b=some o->s.heap.get? b=some o/\H b=none:=fun b o e =>
 ⟨I.base.keep b o (I.ok.bs b o e).1 (I.ok.bs b o e).2 (I.ok.ay1 e) (I.ok.afK b o e),I.base.free b o (I.ok.bs b o e).1 (I.ok.bs b o e).2 (I.ok.afK b o e)⟩
theorem Inv.bk(I:Inv X pins σ H s):∀b o,X.base.get? b=some o->s.heap.get? b=some o:=fun b o e=>(I.bs b o e).1
theorem Inv.mod(I:Inv X pins σ H s):Mod X.K X.mg X.base:=I.ok.mod
theorem Inv.yg(I:Inv X pins σ H s):X.K.In s.heap:=I.ok.mod.kin.keeps I.bk
theorem Inv.lt(I:Inv X pins σ H s):X.env.locals<s.heap.objs.size:=let ⟨_,hn,_⟩:=I.loc;hn.lt
theorem Inv.sz(I:Inv X pins σ H s):X.s₀.heap.objs.size<=s.heap.objs.size:=Nat.le_trans I.ok.above (Nat.le_of_lt I.lt)
theorem Inv.ay2(I:Inv X pins σ H s){a:Addr}(h:s.heap.objs.size<=a):a∉X.fs:=fun hb=>by
 obtain⟨_,o,ho,_⟩:=I.ok.JD.mem hb
 exact absurd (Nat.lt_of_lt_of_le (Heap.lt_size ho) (Nat.le_trans I.sz h)) (Nat.lt_irrefl _)
theorem Inv.cne(I:Inv X pins σ H s):∀x c,X.env.cells.lookup x=some c->c≠X.env.locals:=fun x c e z=>by
 obtain⟨v,o,ho,hd⟩:=I.cell x c e
 obtain⟨m,⟨o',es,ep,ho',hd',_⟩,_⟩:=I.loc
 rw[z,ho']at ho;cases ho;rw[hd']at hd;cases hd
theorem Inv.JD(I:Inv X pins σ H s):s.heap.FunFrames X.base X.outer:=by
 have all:∀(l:List Env),(∀b∈frs l,b∈X.fs)->X.s₀.heap.FunFrames X.base l->s.heap.FunFrames X.base l:=by
  intro l
  induction l with
  | nil=>intro _ _;trivial
  | cons env r ih =>
    intro hs hl
    obtain⟨hk,⟨L,o,hf,hn,ho,hd⟩,hr⟩:=hl
    have hL:L∈X.fs:=hs L (by unfold frs;rw[List.filterMap_cons,hf];exact List.mem_cons_self)
    obtain⟨sl,e⟩:=I.base.slot L o ho (I.ok.frf L hL) hL fun z=>I.ok.ah5 L z hL
    exact⟨hk,⟨L,_,hf,hn,e,hd⟩,ih (fun b hb=>hs b (by unfold frs;rw[List.filterMap_cons,hf];exact List.mem_cons_of_mem _ hb)) hr⟩
 exact all X.outer (fun _ hb=>hb) I.ok.JD
theorem Inv.stack(I:Inv X pins σ H s):s.heap.FunFrames X.base X.stack:=by
 rcases I.ok.stk with e | ⟨e,hf⟩
 ·rw[e];exact I.JD
 ·rw[e]
  obtain⟨m,hn,_⟩:=I.loc
  refine .cons (by rw[I.ok.kind];decide) hf hn ?_ I.JD
  exact Heap.get?_none_of_le (Nat.le_trans I.ok.bsz I.ok.above)
theorem Inv.Wy(I:Inv X pins σ H s):∀b∈frs X.stack,b∈X.env.locals::X.fs:=fun b hb=>by
 rcases I.ok.stk with e | ⟨e,hf⟩
 ·rw[e]at hb;exact List.mem_cons_of_mem _ hb
 ·rw[e]at hb
  unfold frs at hb
  rw[List.filterMap_cons,hf]at hb
  exact hb
theorem Inv.acK(I:Inv X pins σ H s):∀b∈frs X.stack,H b=none:=fun b hb=>by
 rcases List.mem_cons.mp (I.Wy b hb)with e | hb
 ·rw[e];exact I.free
 ·obtain⟨_,o,ho,_⟩:=I.ok.JD.mem hb
  exact I.base.free b o ho (I.ok.frf b hb) fun z=>I.ok.ah5 b z hb
theorem Inv.step{g':Array GenState}{t':Nat}{d':Drawn}{ch:List Addr}(I:Inv X pins σ H s)
 (hch:∀b∈ch,(b∈X.ex\/X.s₀.heap.objs.size<=b)/\b≠X.env.locals/\(∀x c,X.env.cells.lookup x=some c->c≠b)/\∀p∈X.pn++pins,p.1≠b)
 (keep:∀b o,b≠X.env.locals->b∉X.fs->b∉ch->s.heap.get? b=some o->H b=none->h'.get? b=some o)
 (slot:∀b o,b≠X.env.locals->b∈X.fs->b∉ch->s.heap.get? b=some o->H b=none->∃sl,h'.get? b=some {o with slots:=sl}) (free:∀b o,b∉ch->s.heap.get? b=some o->H b=none->H' b=none)
 (there:∀b o,b∉ch->s.heap.get? b=some o->∃o',h'.get? b=some o')
 (tups:∀b xs,H b=some (.tup xs)->H' b=some (.tup xs)) (JC:∀b o u,H b=some (.frz o u)->H' b=some (.frz o u)) (Ln:∀b ps,H b=some (.tbl ps)->∃more,H' b=some (.tbl (ps++more)))
 (ns:∀m,s.heap.Ns X.env.locals m->h'.Ns X.env.locals m) (hok:HY X.prog X.w H' h') (hg:AllBare g') :
 Inv X pins σ H' {s with heap:=h',gens:=g',drawn:=d',toks:=t'}:=by
 have neL:∀b o,X.s₀.heap.get? b=some o->b≠X.env.locals:=fun b o e=>Nat.ne_of_lt (Nat.lt_of_lt_of_le (Heap.lt_size e) I.ok.above)
 have neC:∀b o,X.s₀.heap.get? b=some o->b∉X.ex->b∉ch:=fun b o e hx hb=>by
  rcases (hch b hb).1 with z | z
  ·exact hx z
  ·exact absurd (Nat.lt_of_lt_of_le (Heap.lt_size e) z) (Nat.lt_irrefl _)
 have cellK:∀x c,X.env.cells.lookup x=some c->∀v,s.heap.IsCell c v->h'.IsCell c v:=fun x c e v ⟨o,ho,hd⟩=>by
  have nch:c∉ch:=fun z=>(hch c z).2.2.1 x c e rfl
  by_cases hc:c∈X.fs
  ·obtain⟨sl,q⟩:=slot c o (I.cne x c e) hc nch ho (I.vB x c e)
   exact⟨_,q,hd⟩
  ·exact⟨o,keep c o (I.cne x c e) hc nch ho (I.vB x c e),hd⟩
 refine⟨I.ok,I.os,hg,⟨fun b o e n hb hx=>?_,fun b o e n hb hx=>?_,fun b o e n hx=>?_,fun b o e hx=>?_,fun b xs e=>tups b xs (I.base.tups b xs e),fun b o xs e=>JC b o xs (I.base.JC b o xs e),fun b ps e=>?_⟩,?_,fun x c e=>?_,?_,fun x c e=>?_,fun p hp=>?_,hok,I.len⟩
 ·exact keep b o (neL b o e) hb (neC b o e hx) (I.base.keep b o e n hb hx) (I.base.free b o e n hx)
 ·obtain⟨sl,e1⟩:=I.base.slot b o e n hb hx
  obtain⟨sl',e2⟩:=slot b _ (neL b o e) hb (neC b o e hx) e1 (I.base.free b o e n hx)
  exact⟨sl',e2⟩
 ·obtain⟨o',e1⟩:=I.base.there b o e hx
  exact free b o' (neC b o e hx) e1 (I.base.free b o e n hx)
 ·obtain⟨o',e1⟩:=I.base.there b o e hx
  exact there b o' (neC b o e hx) e1
 ·obtain⟨m1,e1⟩:=I.base.Ln b ps e
  obtain⟨m2,e2⟩:=Ln b _ e1
  exact⟨m1++m2,by rw[e2,Array.append_assoc]⟩
 ·obtain⟨m,hn,hl⟩:=I.loc
  refine⟨m,ns m hn,fun i x v e1 e2 e3=>?_⟩
  obtain⟨u,r,l⟩:=hl i x v e1 e2 e3
  refine⟨u,r,?_⟩
  rcases l with l | ⟨k,c,e,z⟩
  ·exact .inl l
  ·exact .inr ⟨k,c,e,cellK x c e _ z⟩
 ·obtain⟨v,z⟩:=I.cell x c e
  exact⟨v,cellK x c e v z⟩
 ·obtain⟨m,⟨o,_,_,ho,_⟩,_⟩:=I.loc
  exact free _ o (fun z=>(hch _ z).2.1 rfl) ho I.free
 ·obtain⟨v,o,ho,hd⟩:=I.cell x c e
  exact free c o (fun z=>(hch c z).2.2.1 x c e rfl) ho (I.vB x c e)
 ·obtain⟨e,n,ne,nf,d⟩:=I.pin p hp
  have nch:p.1∉ch:=fun z=>(hch p.1 z).2.2.2 p hp rfl
  exact⟨keep p.1 p.2 ne nf nch e n,free p.1 p.2 nch e n,ne,nf,d⟩
theorem Inv.un{t':Nat}(I:Inv X pins σ H s)(u:Un X.fs [] H H' s.heap h')(hok:HY X.prog X.w H' h'):Inv X pins σ H' {s with heap:=h',toks:=t'}:=by
 obtain⟨m,⟨o,es,ep,ho,r⟩,_⟩:=id I.loc
 obtain⟨sl,hL⟩:=u.any ho I.free (by simp)
 exact I.step (g':=s.gens) (d':=s.drawn) (ch:=[]) (fun _ z=>nomatch z) (fun b o _ hb _ e n=>u.keep b o e n hb (by simp)) (fun b o _ hb _ e n=>u.slot b o e n hb (by simp)) (fun b o _ e n=>u.free b o e n (by simp)) (fun b o _ e=>u.there b o e (by simp)) u.tups u.JC u.Ln (fun m' hm=>by
  obtain⟨o',es',ep',ho',r'⟩:=hm
  rw[ho]at ho';cases ho'
  exact⟨_,es',ep',hL,r'⟩) hok I.bare
theorem Inv.call{g':Array GenState}{t':Nat}{d':Drawn}{ch:List Addr}(I:Inv X pins σ H s)(u:Un (frs X.stack) ch H H' s.heap h')(hok:HY X.prog X.w H' h')(hg:AllBare g')
 (hch:∀b∈ch,(b∈X.ex\/X.s₀.heap.objs.size<=b)/\b≠X.env.locals/\(∀x c,X.env.cells.lookup x=some c->c≠b)/\∀p∈X.pn++pins,p.1≠b) :
 Inv X pins σ H' {s with heap:=h',gens:=g',drawn:=d',toks:=t'}:=by
 obtain⟨m,⟨o,es,ep,ho,r⟩,_⟩:=id I.loc
 obtain⟨sl,hL⟩:=u.any ho I.free fun z=>(hch _ z).2.1 rfl
 exact I.step (ch:=ch) hch (fun b o hL hb hc e n=>u.keep b o e n (fun z=>(List.mem_cons.mp (I.Wy b z)).elim hL hb) hc) (fun b o _ _ hc e n=>u.any e n hc) (fun b o hc e n=>u.free b o e n hc) (fun b o hc e=>u.there b o e hc) u.tups u.JC u.Ln (fun m' hm=>by
  obtain⟨o',es',ep',ho',r'⟩:=hm
  rw[ho]at ho';cases ho'
  exact⟨_,es',ep',hL,r'⟩) hok hg
theorem Inv.turned{t':Nat}{it:Addr}(I:Inv X pins σ H s)(k:∀b o,b≠it->s.heap.get? b=some o->h'.get? b=some o)(hn:H it=none)(hL:it≠X.env.locals)
 (h1:it∈X.ex\/X.s₀.heap.objs.size<=it) (h2:∀x c,X.env.cells.lookup x=some c->c≠it) (h3:∀p∈X.pn++pins,p.1≠it):Inv X pins σ H {s with heap:=h',toks:=t'}:=by
 have nit:∀b u,H b=some u->b≠it:=fun b u e z=>by rw[z,hn]at e;cases e
 refine I.step (g':=s.gens) (d':=s.drawn) (ch:=[it]) (fun b hb=>?_) (fun b o _ _ hc e _=>k b o (fun z=>hc (by simp[z])) e) (fun b o _ _ hc e _=>⟨o.slots,k b o (fun z=>hc (by simp[z])) e⟩) (fun _ _ _ _ n=>n)
  (fun b o hc e=>⟨o,k b o (fun z=>hc (by simp[z])) e⟩) (fun _ _ e=>e) (fun _ _ _ e=>e) (fun b ps e=>⟨#[],by rw[e];simp⟩) (fun m hm=>?_) (fun b u e=>?_) I.bare
 ·have e:b=it:=by simpa using hb
  subst e
  exact⟨h1,hL,h2,h3⟩
 ·obtain⟨o,es,ep,ho,r⟩:=hm
  exact⟨o,es,ep,k _ o (Ne.symm hL) ho,r⟩
 ·refine(I.hok b u e).stay (fun c v hc q=>k c v ?_ q) (fun _ q=>q) fun _ _ q=>q
  rcases hc with z | z
  ·rw[z];exact nit b u e
  ·exact nit c _ z
theorem Inv.tok(I:Inv X pins σ H s)(t:Nat):Inv X pins σ H {s with toks:=t}:=I.un (h':=s.heap) (t':=t) Un.refl I.hok
theorem Inv.kept{t':Nat}(I:Inv X pins σ H s)(k:∀b u,s.heap.get? b=some u->h'.get? b=some u):Inv X pins σ H {s with heap:=h',toks:=t'}:=I.un (Un.kept k) (I.hok.kept k)
theorem Inv.laid{a:Addr}{o:HO}{t':Nat}(I:Inv X pins σ H s)(k:∀b u,s.heap.get? b=some u->h'.get? b=some u)(hp:s.heap.objs.size<=a)(new:fO X.prog X.w (upd H a o) h' a o) :
 Inv X pins σ (upd H a o) {s with heap:=h',toks:=t'}:=I.un (Un.laid k hp (I.hok.fresh hp)) (I.hok.laid k hp new)
theorem Inv.write{x e:Addr}{o:HO}{t':Nat}(I:Inv X pins σ H s)(mu:Mut (H x))(he:e=x\/H e=some (.own x))(k:∀b u,b≠e->s.heap.get? b=some u->h'.get? b=some u)(heo:∃u,h'.get? e=some u)
 (new:fO X.prog X.w (upd H x o) h' x o):Inv X pins σ (upd H x o) {s with heap:=h',toks:=t'}:=I.un (Un.write mu he k heo) (I.hok.write mu he k heo new)
theorem Inv.ajs{al0:List (Addr×Obj)}(I:Inv X pins σ H s)(h:∀p∈al0,s.heap.get? p.1=some p.2/\H p.1=none/\p.1≠X.env.locals/\p.1∉X.fs/\∀v,p.2.data≠.cell v):Inv X al0 σ H s :=
 ⟨I.ok,I.os,I.bare,I.base,I.loc,I.cell,I.free,I.vB,fun p hp=>(List.mem_append.mp hp).elim (fun z=>I.pin p (List.mem_append_left _ z)) (h p),I.hok,I.len⟩
theorem afL{N:List Str}(hN:N.Nodup){i j:Nat}{x:Str}(a:N[i]? = some x)(b:N[j]? = some x):i=j:=by
 obtain⟨h1,e1⟩:=List.getElem?_eq_some_iff.mp a
 obtain⟨h2,e2⟩:=List.getElem?_eq_some_iff.mp b
 exact(List.getElem_inj hN).mp (e1.trans e2.symm)
theorem akE{M:Model}{A:Around}{E:Value->Shared->Prop}{i:Nat}{x:Str}{v:V}{u:Value}{Q:Unit->Shared->Prop}(I:Inv X pins σ H s)(hN:X.N.Nodup)(hi:X.N[i]? = some x)(hx:Loc X.env.scope x)(r:RelV v u)
 (h:∀s',Inv X pins (σ.set i (some v)) H s'->(∃a,Heap.SameBut a s.heap s'.heap/\(a=X.env.locals\/X.env.cells.lookup x=some a))->Q () s') (hf:X.fn x=true\/X.env.scope.names.lookup x=some .local:=by first | exact .inl rfl | exact .inr rfl | assumption):wpAny M A (storeName X.env x u) Q E s:=by
 obtain⟨m,hn,hl⟩:=id I.loc
 have hcls:(X.env.scope.kind == .class || (X.env.scope.kind == .module && X.env.locals != X.env.globals))=false:=by rw[I.ok.kind];rfl
 have hiσ:i<σ.length:=by rw[I.len];exact(List.getElem?_eq_some_iff.mp hi).1
 have cne:=I.cne
 have tracked:∀{a:Addr} {h':Heap},(∃o,s.heap.get? a=some o/\H a=none)->Heap.SameBut a s.heap h'->HY X.prog X.w H h':=fun {a h'} ha hs b ob e=>by
  obtain⟨_,_,hfree⟩:=ha
  refine(I.hok b ob e).stay (fun c w' hc q=>(hs.2 c ?_).trans q) (fun _ q=>q) fun _ _ q=>q
  rintro rfl
  rcases hc with rfl | hc
  ·rw[hfree]at e;cases e
  ·rw[hfree]at hc;cases hc
 rcases hx with hk | hk
 ·refine wpAny_storeName_local hk hn (fun h' hn' hs=>?_) hcls
  obtain⟨oL,_,_,hoL,_⟩:=id hn
  refine h _ ⟨I.ok,I.os,I.bare,⟨fun b o e n hb hx=>?_,fun b o e n hb hx=>?_,I.base.free,fun b o e hx=>?_,I.base.tups,I.base.JC,I.base.Ln⟩,⟨_,hn',fun j y v' e1 e2 e3=>?_⟩,fun y c e=>?_,I.free,I.vB,fun p hp=>?_,tracked ⟨oL,hoL,I.free⟩ hs,by simpa using I.len⟩ ⟨_,hs,.inl rfl⟩
  ·exact(hs.2 b (Nat.ne_of_lt (Nat.lt_of_lt_of_le (Heap.lt_size e) I.ok.above))).trans (I.base.keep b o e n hb hx)
  ·obtain⟨sl,e1⟩:=I.base.slot b o e n hb hx
   exact⟨sl,(hs.2 b (Nat.ne_of_lt (Nat.lt_of_lt_of_le (Heap.lt_size e) I.ok.above))).trans e1⟩
  ·obtain⟨o',e1⟩:=I.base.there b o e hx
   exact⟨o',(hs.2 b (Nat.ne_of_lt (Nat.lt_of_lt_of_le (Heap.lt_size e) I.ok.above))).trans e1⟩
  ·by_cases hj:j=i
   ·subst hj
    rw[hi]at e1;cases e1
    rw[List.getElem?_set_self hiσ]at e2
    cases e2
    exact⟨u,r,.inl ⟨hk,by simp⟩⟩
   ·rw[List.getElem?_set_ne (Ne.symm hj)]at e2
    obtain⟨u',r',q⟩:=hl j y v' e1 e2 e3
    refine⟨u',r',?_⟩
    rcases q with ⟨k,e⟩ | ⟨k,c,e,z⟩
    ·refine .inl ⟨k,?_⟩
     have:y≠x:=fun e=>hj (afL hN e1 (e▸hi))
     simp[this,e]
    ·exact .inr ⟨k,c,e,z.sameBut hs (cne y c e)⟩
  ·obtain⟨w',z⟩:=I.cell y c e
   exact⟨w',z.sameBut hs (cne y c e)⟩
  ·obtain⟨e,n,ne,nf,d⟩:=I.pin p hp
   exact⟨(hs.2 p.1 ne).trans e,n,ne,nf,d⟩
 ·have hfn:X.fn x=true:=by
   rcases hf with z | z
   ·exact z
   ·rw[z]at hk;cases hk
  obtain⟨c,hc⟩:=I.ok.has x (.inl hk)
  obtain⟨w',z⟩:=I.cell x c hc
  refine wpAny_storeName_cell I.ok.kind hk hc z (fun h' hc' hs=>?_)
  obtain⟨oc,hoc,ay3⟩:=id z
  refine h {s with heap:=h'} ⟨I.ok,I.os,I.bare,⟨fun b o e n hb hx=>?_,fun b o e n hb hx=>?_,I.base.free,fun b o e hx=>?_,I.base.tups,I.base.JC,I.base.Ln⟩,⟨m,hn.sameBut hs (Ne.symm (cne x c hc)),fun j y v' e1 e2 e3=>?_⟩,fun y c' e=>?_,I.free,I.vB,fun p hp=>?_,tracked ⟨oc,hoc,I.vB x c hc⟩ hs,by simpa using I.len⟩ ⟨c,hs,.inr hc⟩
  ·exact(hs.2 b (Nat.ne_of_lt (Nat.lt_of_lt_of_le (Heap.lt_size e) (I.ok.cab x c hfn hc)))).trans (I.base.keep b o e n hb hx)
  ·obtain⟨sl,e1⟩:=I.base.slot b o e n hb hx
   exact⟨sl,(hs.2 b (Nat.ne_of_lt (Nat.lt_of_lt_of_le (Heap.lt_size e) (I.ok.cab x c hfn hc)))).trans e1⟩
  ·obtain⟨o',e1⟩:=I.base.there b o e hx
   exact⟨o',(hs.2 b (Nat.ne_of_lt (Nat.lt_of_lt_of_le (Heap.lt_size e) (I.ok.cab x c hfn hc)))).trans e1⟩
  ·by_cases hj:j=i
   ·subst hj
    rw[hi]at e1;cases e1
    rw[List.getElem?_set_self hiσ]at e2
    cases e2
    exact⟨u,r,.inr ⟨.inl hk,c,hc,hc'⟩⟩
   ·rw[List.getElem?_set_ne (Ne.symm hj)]at e2
    obtain⟨u',r',q⟩:=hl j y v' e1 e2 e3
    refine⟨u',r',?_⟩
    rcases q with q | ⟨k,c',e,z'⟩
    ·exact .inl q
    ·refine .inr ⟨k,c',e,z'.sameBut hs ?_⟩
     rintro rfl
     exact hj (afL hN e1 (I.ok.inj _ _ _ e hc▸hi))
  ·by_cases hcc:c'=c
   ·subst hcc;exact⟨_,hc'⟩
   ·obtain⟨w2,z2⟩:=I.cell y c' e
    exact⟨w2,z2.sameBut hs hcc⟩
  ·obtain⟨e,n,ne,nf,d⟩:=I.pin p hp
   refine⟨(hs.2 p.1 ?_).trans e,n,ne,nf,d⟩
   intro q
   rw[q,hoc]at e
   have q':oc=p.2:=Option.some.inj e
   exact d w' (by rw[<-q'];exact ay3)
theorem afM{M:Model}{A:Around}{E:Value->Shared->Prop}{i:Nat}{x:Str}{v:V}{u:Value}{Q:Unit->Shared->Prop}(I:Inv X pins σ H s)(hN:X.N.Nodup)(hi:X.N[i]? = some x)(hx:Loc X.env.scope x)(r:RelV v u)
 (h:∀s',Inv X pins (σ.set i (some v)) H s'->Q () s') (hf:X.fn x=true\/X.env.scope.names.lookup x=some .local:=by first | exact .inl rfl | exact .inr rfl | assumption):wpAny M A (storeName X.env x u) Q E s :=
 akE I hN hi hx r (fun s' I' _=>h s' I') hf
theorem Inv.call'{s':Shared}{ch:List Addr}(I:Inv X pins σ H s)(ho:s'.os=s.os)(u:Un (frs X.stack) ch H H' s.heap s'.heap)(hok:HY X.prog X.w H' s'.heap)(hg:AllBare s'.gens)
 (hch:∀b∈ch,(b∈X.ex\/X.s₀.heap.objs.size<=b)/\b≠X.env.locals/\(∀x c,X.env.cells.lookup x=some c->c≠b)/\∀p∈X.pn++pins,p.1≠b):Inv X pins σ H' s':=by
 obtain⟨h',g',d',t',o'⟩:=s'
 have e:o'=s.os:=ho
 subst e
 exact I.call (g':=g') (t':=t') (d':=d') u hok hg hch
end
abbrev XK:=Value->Option Addr->Hp->Prop
abbrev St:=List (Option V)
abbrev VK:=V->Hp->Prop
abbrev TE:=St->Hp->VK->Prop
abbrev TT:=St->Hp->(Bool->Hp->Prop)->Prop
abbrev TA:=St->Hp->(List V->Hp->Prop)->Prop
structure Ends where
 nx:St->Hp->Prop
 rt:VK
 bk:St->Hp->Prop:=fun _ _=>False
 ct:St->Hp->Prop:=fun _ _=>False
abbrev TS:=Ends->St->Hp->Prop
def EP(X:Cx)(pins:List (Addr×Obj))(σ:St)(Q:VK)(u:Value)(s':Shared):Prop:=∃v H',Inv X pins σ H' s'/\RelV v u/\Q v H'
def TP(X:Cx)(pins:List (Addr×Obj))(σ:St)(Q:Bool->Hp->Prop)(b:Bool)(s':Shared):Prop:=∃H',Inv X pins σ H' s'/\Q b H'
def AP(X:Cx)(pins:List (Addr×Obj))(σ:St)(Q:List V->Hp->Prop)(us:List Value)(s':Shared):Prop:=∃vs H',Inv X pins σ H' s'/\Vals vs us/\Q vs H'
def SP(X:Cx)(pins:List (Addr×Obj))(D:Ends)(f:Flow)(s':Shared):Prop :=
 match f with
 | .next=>∃σ' H',Inv X pins σ' H' s'/\D.nx σ' H'
 | .brk=>∃σ' H',Inv X pins σ' H' s'/\D.bk σ' H'
 | .cont=>∃σ' H',Inv X pins σ' H' s'/\D.ct σ' H'
 | .ret u=>∃v σ' H',Inv X pins σ' H' s'/\RelV v u/\D.rt v H'
def PE(X:Cx)(e:Expr)(t:TE):Prop :=
 ∀(pins:List (Addr×Obj)) (s:Shared) (σ:St) (H:Hp) (Q:VK),Inv X pins σ H s->t σ H Q->wpAny (model X.prog X.w) X.A (eval e X.env) (EP X pins σ Q) X.xe s
def PT(X:Cx)(e:Expr)(t:TT):Prop :=
 ∀(pins:List (Addr×Obj)) (s:Shared) (σ:St) (H:Hp) (Q:Bool->Hp->Prop),Inv X pins σ H s->t σ H Q->wpAny (model X.prog X.w) X.A (isTrue e X.env (eval e X.env)) (TP X pins σ Q) X.xe s
def PW(X:Cx)(e:Expr)(t:TT):Prop :=
 ∀(whole:Sem Value) (pins:List (Addr×Obj)) (s:Shared) (σ:St) (H:Hp) (Q:Bool->Hp->Prop),Inv X pins σ H s->t σ H Q->wpAny (model X.prog X.w) X.A (isTrue e X.env whole) (TP X pins σ Q) X.xe s
theorem PW.pt{X:Cx}{e:Expr}{t:TT}(h:PW X e t):PT X e t:=h _
def PA(X:Cx)(es:List Expr)(t:TA):Prop :=
 ∀(pos:Pos) (pins:List (Addr×Obj)) (s:Shared) (σ:St) (H:Hp) (Q:List V->Hp->Prop),Inv X pins σ H s->t σ H Q->wpAny (model X.prog X.w) X.A (spliced (backTo pos (starEach es X.env))) (AP X pins σ Q) X.xe s
def PS(X:Cx)(st:Stmt)(t:TS):Prop :=
 ∀(pins:List (Addr×Obj)) (s:Shared) (σ:St) (H:Hp) (D:Ends),Inv X pins σ H s->t D σ H->wpAny (model X.prog X.w) X.A (exec st X.env) (SP X pins D) X.xe s
def PSs(X:Cx)(st:List Stmt)(t:TS):Prop :=
 ∀(pins:List (Addr×Obj)) (s:Shared) (σ:St) (H:Hp) (D:Ends),Inv X pins σ H s->t D σ H->wpAny (model X.prog X.w) X.A (execs st X.env) (SP X pins D) X.xe s
theorem gC{α:Type}{t:Sem α}{Q Q':α->Shared->Prop}{M:Model}{A:Around}{E:Value->Shared->Prop}{s:Shared}(h:wpAny M A t Q E s)(hQ:∀a s,Q a s->Q' a s):wpAny M A t Q' E s:=wpAny_mono h hQ fun _ _ x=>x
end L2
namespace L2
open PySem PySem.Spec PyProof.Rows
section
variable{X:Cx}
def jj(i:Nat):TE:=fun σ H Q=>∃v,σ[i]? = some (some v)/\Q v H
def tC(v:V):TE:=fun _ H Q=>Q v H
theorem ar8{i:Nat}{x:Str}{pos:Pos}(hN:X.N[i]? = some x)(hv:Vis X.env.scope x)(hd:(x == ("__debug__":Str))=false:=by decide) (hcd:(x == ("__classdict__":Str))=false:=by decide):PE X (.Name x pos) (jj i):=by
 intro pins s σ H Q I h
 obtain⟨v,e,h⟩:=h
 obtain⟨m,hn,hl⟩:=I.loc
 obtain⟨u,r,l⟩:=hl i x v hN e hv
 have fin:EP X pins σ Q u s:=⟨v,H,I,r,h⟩
 rcases l with ⟨hk,hm⟩ | ⟨hk,c,hc,hcell⟩
 ·exact wpAny_Name (wpAny_loadName_local I.ok.kind hk hn hm fin) hd
 ·rcases hk with hk | hk
  ·exact wpAny_Name (wpAny_loadName_cell I.ok.kind hk hc hcell fin) hd
  ·exact wpAny_Name (wpAny_loadName_free I.ok.kind hk hc hcell fin hcd) hd
theorem az{i j pos}:PE X (.Constant (.int i) j pos) (tC (.int i)):=fun _ _ _ H _ I h=>wpAny_Constant_int ⟨.int i,H,I.tok _,⟨_,rfl⟩,h⟩
theorem vC{b j pos}:PE X (.Constant (.bool b) j pos) (tC (.bl b)):=fun _ _ _ H _ I h=>Constant_bool ⟨.bl b,H,I,rfl,h⟩
theorem tV{j pos}:PE X (.Constant .none j pos) (tC .non):=fun _ _ _ H _ I h=>Constant_none ⟨.non,H,I,rfl,h⟩
theorem aC{x j pos}:PE X (.Constant (.str x) j pos) (tC (.str x)):=fun _ _ _ H _ I h=>Calls.Constant_str ⟨.str x,H,I.tok _,⟨_,rfl⟩,h⟩
def Gl(X:Cx)(x:Str):Prop:=X.env.kindOf x=some .globalImplicit
theorem zH{E:Value->Shared->Prop}{pins:List (Addr×Obj)}{s:Shared}{σ:St}{H:Hp}{x:Str}{u:Value}{pos:Pos}{Q:Value->Shared->Prop}(I:Inv X pins σ H s)(hg:Gl X x)(hm:X.mg x=some u)(h:Q u s)
 (hd:(x == ("__debug__":Str))=false:=by decide):wpAny (model X.prog X.w) X.A (eval (.Name x pos) X.env) Q E s :=
 Calls.Name_function_global I.ok.kind hg (Calls.loadGlobal_global (by rw[I.ok.glob];exact I.mod.glob.keeps I.bk) hm h) hd
theorem Wz{E:Value->Shared->Prop}{pins:List (Addr×Obj)}{s:Shared}{σ:St}{H:Hp}{x:Str}{u:Value}{pos:Pos}{Q:Value->Shared->Prop}(I:Inv X pins σ H s)(hg:Gl X x)(hm:X.mg x=none)(hv:bootBuiltins x=some u)(h:Q u s)
 (hn:x≠"__name__":=by decide) (hd:(x == ("__debug__":Str))=false:=by decide):wpAny (model X.prog X.w) X.A (eval (.Name x pos) X.env) Q E s:=by
 obtain⟨mb,h1,h2⟩:=I.mod.blt
 exact Calls.Name_function_global I.ok.kind hg (Calls.loadGlobal_builtin (by rw[I.ok.glob];exact I.mod.glob.keeps I.bk) hm (by rw[I.ok.blt];exact h1.keeps I.bk) ((h2 x hn).trans hv) h) hd
theorem aoH{x:Str}{v:V}{u:Value}{pos:Pos}(hg:Gl X x)(hm:X.mg x=some u)(r:RelV v u)(hd:(x == ("__debug__":Str))=false:=by decide):PE X (.Name x pos) (tC v) :=
 fun _ _ _ H _ I h=>zH I hg hm ⟨v,H,I,r,h⟩ hd
theorem aoI{x:Str}{v:V}{u:Value}{pos:Pos}(hg:Gl X x)(hm:X.mg x=none)(hv:bootBuiltins x=some u)(r:RelV v u)(hn:x≠"__name__":=by decide) (hd:(x == ("__debug__":Str))=false:=by decide):PE X (.Name x pos) (tC v) :=
 fun _ _ _ H _ I h=>Wz I hg hm hv ⟨v,H,I,r,h⟩ hn hd
variable{a b:Expr}{ta tb:TE}{pos:Pos}
def PC(X:Cx)(op:CmpOp)(a b:Expr)(t:TE):Prop :=
 ∀(pins:List (Addr×Obj)) (s:Shared) (σ:St) (H:Hp) (Q:VK),Inv X pins σ H s->t σ H Q->
  wpAny (model X.prog X.w) X.A (eval a X.env) (fun v s₁=>wpAny (model X.prog X.w) X.A (eval b X.env) (fun u s₂=>wpAny (model X.prog X.w) X.A (compareOp op v u) (EP X pins σ Q) X.xe s₂) X.xe s₁) X.xe s
theorem afN(b:Expr){op:CmpOp}(h:op≠.In)(h2:op≠.NotIn):behindInMarks op b=false:=by
 have e1:(op == CmpOp.In)=false:=by cases op<;>first | rfl | exact absurd rfl h
 have e2:(op == CmpOp.NotIn)=false:=by cases op<;>first | rfl | exact absurd rfl h2
 cases b<;>simp[behindInMarks,e1,e2]
def ay4(ta:TE):TE:=fun σ H Q=>ta σ H fun x H1=>Q (.bl (decide (x=.non))) H1
def avN(ta:TE):TE:=fun σ H Q=>ta σ H fun x H1=>Q (.bl (!decide (x=.non))) H1
theorem RelV.afO{x:V}{v:Value}(r:RelV x v):(v == Value.none)=decide (x=.non):=by
 cases x with
 | non=>cases r;rfl
 | bl _=>cases r;rfl
 | int _=>obtain⟨t,rfl⟩:=r;rfl
 | str _=>obtain⟨t,rfl⟩:=r;rfl
 | byt _=>obtain⟨t,rfl⟩:=r;rfl
 | flt _=>obtain⟨t,rfl⟩:=r;rfl
 | ref _=>cases r;rfl
 | ty _=>cases r;rfl
theorem ah6{j pos'}(ha:PE X a ta):PC X .Is a (.Constant .none j pos') (ay4 ta):=by
 intro pins s σ H Q I h
 refine gC (ha pins s σ H _ I h) fun v s1 hz=>kW hz fun x H1 I1 r1 q1=>?_
 exact Constant_none (is_none_gen ⟨.bl _,H1,I1,by rw[r1.afO];rfl,q1⟩)
theorem vD{j pos'}(ha:PE X a ta):PC X .IsNot a (.Constant .none j pos') (avN ta):=by
 intro pins s σ H Q I h
 refine gC (ha pins s σ H _ I h) fun v s1 hz=>kW hz fun x H1 I1 r1 q1=>?_
 exact Constant_none (isnot_none_gen ⟨.bl _,H1,I1,by rw[r1.afO];rfl,q1⟩)
def tB(t:TE):TT:=fun σ H Q=>t σ H fun x H1=>∃c,x=.bl c/\Q c H1
theorem al1{op:CmpOp}{t:TE}(h:PC X op a b t)(h1:behindInMarks op b=false:=by first | exact afN _ (by decide) (by decide) | rfl):PE X (.Compare a [op] [b] pos) t:=fun pins s σ H Q I hw=>wpAny_Compare1 (h pins s σ H Q I hw) h1
theorem wW{op:CmpOp}{t:TE}(h:PC X op a b t)(h1:behindInMarks op b=false:=by first | exact afN _ (by decide) (by decide) | rfl):PT X (.Compare a [op] [b] pos) (tB t):=by
 intro pins s σ H Q I hw
 refine wpAny_isTrue_Compare1 (gC (h pins s σ H _ I hw) fun v s1 h1=>gC h1 fun u s2 h2=>gC h2 fun c s3 hz=>kW hz fun x H1 I1 r1 q1=>?_) h1
 obtain⟨d,rfl,q⟩:=q1
 cases r1
 exact wpAny_truthy_bool ⟨H1,I1,q⟩
theorem jO{e:Expr}{t:TE}(h:PE X e t)(he:∀whole,isTrue e X.env whole=(do let v <-whole;standAt e.pos;holding [v] (truthy v)):=by intro _;rfl):PT X e (tB t):=by
 intro pins s σ H Q I hw
 refine isTrue_plain (gC (h pins s σ H _ I hw) fun v s1 hz=>kW hz fun x H1 I1 r1 q1=>?_) (he _)
 obtain⟨d,rfl,q⟩:=q1
 cases r1
 exact wpAny_truthy_bool ⟨H1,I1,q⟩
variable{tA tB':TT}{rest:List Expr}
def avO(t u:TT):TT:=fun σ H Q=>t σ H fun c H1=>if c=true then u σ H1 Q else Q false H1
def tOr(t u:TT):TT:=fun σ H Q=>t σ H fun c H1=>if c=true then Q true H1 else u σ H1 Q
def ay5(t:TT):TT:=fun σ H Q=>t σ H fun c H1=>Q (!c) H1
theorem Lp(ha:PT X a tA):PW X (.BoolOp .And [a] pos) tA:=by
 intro wh pins s σ H Q I h
 refine isTrue_and (gC (ha pins s σ H Q I h) fun c s1 e=>?_)
 cases c with
 | true=>exact isTrue_and_nil e
 | false=>exact e
theorem lL(ha:PT X a tA):PW X (.BoolOp .Or [a] pos) tA:=by
 intro wh pins s σ H Q I h
 refine isTrue_or (gC (ha pins s σ H Q I h) fun c s1 e=>?_)
 cases c with
 | false=>exact isTrue_or_nil e
 | true=>exact e
theorem Qm(ha:PT X a tA)(hb:PW X (.BoolOp .And (b::rest) pos) tB'):PW X (.BoolOp .And (a::b::rest) pos) (avO tA tB'):=by
 intro wh pins s σ H Q I h
 refine isTrue_and (gC (ha pins s σ H _ I h) fun c s1 hz=>ex3 hz fun H1 I1 q1=>?_)
 cases c with
 | true=>exact hb wh pins s1 σ H1 Q I1 q1
 | false=>exact⟨H1,I1,q1⟩
theorem mU(ha:PT X a tA)(hb:PW X (.BoolOp .Or (b::rest) pos) tB'):PW X (.BoolOp .Or (a::b::rest) pos) (tOr tA tB'):=by
 intro wh pins s σ H Q I h
 refine isTrue_or (gC (ha pins s σ H _ I h) fun c s1 hz=>ex3 hz fun H1 I1 q1=>?_)
 cases c with
 | true=>exact⟨H1,I1,q1⟩
 | false=>exact hb wh pins s1 σ H1 Q I1 q1
theorem qW(ha:PT X a tA):PT X (.UnaryOp .Not a pos) (ay5 tA):=by
 intro pins s σ H Q I h
 exact isTrue_not (ha pins s σ H (fun c H1=>Q (!c) H1) I h)
def avP(ta tb:TE):TE:=fun σ H Q=>ta σ H fun x H1=>∃c,x=.bl c/\if c=true then tb σ H1 Q else Q (.bl false) H1
def ay6(ta tb:TE):TE:=fun σ H Q=>ta σ H fun x H1=>∃c,x=.bl c/\if c=true then Q (.bl true) H1 else tb σ H1 Q
def avQ(ta:TE):TE:=fun σ H Q=>ta σ H fun x H1=>∃c,x=.bl c/\Q (.bl (!c)) H1
theorem ah7{op}{t:TE}(h:PE X a t):PE X (.BoolOp op [a] pos) t:=fun pins s σ H Q I hw=>BoolOp_one (h pins s σ H Q I hw)
theorem al3(ha:PE X a ta)(hb:PE X (.BoolOp .And (b::rest) pos) tb):PE X (.BoolOp .And (a::b::rest) pos) (avP ta tb):=by
 intro pins s σ H Q I h
 refine BoolOp_and (gC (ha pins s σ H _ I h) fun v s1 hz=>kW hz fun x H1 I1 r1 q1=>?_)
 obtain⟨c,rfl,q1⟩:=q1
 cases r1
 refine wpAny_truthy_bool ?_
 cases c with
 | true=>exact hb pins s1 σ H1 Q I1 q1
 | false=>exact⟨.bl false,H1,I1,rfl,q1⟩
theorem avR(ha:PE X a ta)(hb:PE X (.BoolOp .Or (b::rest) pos) tb):PE X (.BoolOp .Or (a::b::rest) pos) (ay6 ta tb):=by
 intro pins s σ H Q I h
 refine BoolOp_or (gC (ha pins s σ H _ I h) fun v s1 hz=>kW hz fun x H1 I1 r1 q1=>?_)
 obtain⟨c,rfl,q1⟩:=q1
 cases r1
 refine wpAny_truthy_bool ?_
 cases c with
 | false=>exact hb pins s1 σ H1 Q I1 q1
 | true=>exact⟨.bl true,H1,I1,rfl,q1⟩
theorem ar9(ha:PE X a ta):PE X (.UnaryOp .Not a pos) (avQ ta):=by
 intro pins s σ H Q I h
 refine UnaryOp_ (gC (ha pins s σ H _ I h) fun v s1 hz=>kW hz fun x H1 I1 r1 q1=>?_)
 obtain⟨c,rfl,q1⟩:=q1
 cases r1
 exact not_of (wpAny_truthy_bool ⟨.bl (!c),H1,I1,rfl,q1⟩)
def tIf(t:TT)(ta tb:TE):TE:=fun σ H Q=>t σ H fun c H1=>if c=true then ta σ H1 Q else tb σ H1 Q
theorem qp{c:Expr}(hc:PT X c tA)(ha:PE X a ta)(hb:PE X b tb):PE X (.IfExp c a b pos) (tIf tA ta tb):=by
 intro pins s σ H Q I h
 refine wpAny_IfExp (gC (hc pins s σ H _ I h) fun d s1 hz=>ex3 hz fun H1 I1 q1=>?_)
 cases d with
 | true=>exact ha pins s1 σ H1 Q I1 q1
 | false=>exact hb pins s1 σ H1 Q I1 q1
end
end L2
namespace L2
open PySem PySem.Spec PyProof.Rows
def cz(K:PySem.W.Frag)(H:Hp)(a:Addr)(xs:List V):Prop :=
 Rd H a (.lst xs)\/
  ∃(o:Obj) (its:Array Value) (n:Nat),K.lookup a=some o/\o.cls=.type "list"/\o.dict=none/\o.data=.seq its n/\its.size<=sizeLine/\Vals xs its.toList
def cW(K:PySem.W.Frag)(H:Hp)(a:Addr)(xs:List V):Prop :=
 Rd H a (.tup xs)\/
  ∃(o:Obj) (its:Array Value) (n:Nat),K.lookup a=some o/\o.cls=.type "tuple"/\o.data=.seq its n/\its.size<=sizeLine/\Vals xs its.toList
def ay7:Value->Option V
 | .none=>some .non
 | .bool b=>some (.bl b)
 | .int i _=>some (.int i)
 | .str x _=>some (.str x)
 | .bytes b _=>some (.byt b)
 | .float b _=>some (.flt b)
 | .ref a=>some (.ref a)
 | .type n=>some (.ty n)
 | _=>none
theorem RelV.abs{x:V}{u:Value}(r:RelV x u):ay7 u=some x:=by
 cases x with
 | non=>cases r;rfl
 | bl _=>cases r;rfl
 | int _=>obtain⟨t,rfl⟩:=r;rfl
 | str _=>obtain⟨t,rfl⟩:=r;rfl
 | byt _=>obtain⟨t,rfl⟩:=r;rfl
 | flt _=>obtain⟨t,rfl⟩:=r;rfl
 | ref _=>cases r;rfl
 | ty _=>cases r;rfl
theorem RelV.inj{x y:V}{u:Value}(r:RelV x u)(q:RelV y u):x=y:=Option.some.inj (r.abs.symm.trans q.abs)
theorem Vals.inj:∀{xs ys:List V} {us:List Value},Vals xs us->Vals ys us->xs=ys
 | _,_,_,.nil,.nil=>rfl
 | _,_,_,.cons r t,.cons r' t'=>by rw[r.inj r',Vals.inj t t']
section
variable{X:Cx}{pins:List (Addr×Obj)}{σ:St}{H:Hp}{s:Shared}{a:Addr}{xs ys:List V}
theorem cz.of{K:PySem.W.Frag}(h:H a=some (.lst xs)):cz K H a xs:=.inl (.inl h)
theorem cW.of{K:PySem.W.Frag}(h:H a=some (.tup xs)):cW K H a xs:=.inl (.inl h)
theorem Inv.list(I:Inv X pins σ H s)(h:cz X.K H a xs):∃its:List Value,Vals xs its/\PlainL s.heap a its.toArray/\xs.length<=sizeLine:=by
 rcases h with h | ⟨o,its,n,hk,hc,hd,hs,hz,r⟩
 ·obtain⟨z,its,n,r,e⟩:=h.ok I.hok
  exact⟨its,r,⟨_,n,e,rfl,rfl,rfl⟩,z⟩
 ·refine⟨its.toList,r,⟨o,n,I.yg a o hk,hc,hd,by simpa using hs⟩,?_⟩
  have e:=r.length
  simp only[Array.length_toList]at e
  lia
theorem Inv.tuple(I:Inv X pins σ H s)(h:cW X.K H a xs):∃its:List Value,Vals xs its/\IsTup s.heap a its.toArray/\xs.length<=sizeLine:=by
 rcases h with h | ⟨o,its,n,hk,hc,hs,hz,r⟩
 ·obtain⟨z,its,r,p⟩:=h.ok I.hok
  exact⟨its,r,p,z⟩
 ·refine⟨its.toList,r,⟨o,I.yg a o hk,hc,n,by simpa using hs⟩,?_⟩
  have e:=r.length
  simp only[Array.length_toList]at e
  lia
theorem Inv.afP(I:Inv X pins σ H s)(h:cz X.K H a xs)(h':cz X.K H a ys):xs=ys:=by
 obtain⟨its,r,⟨o,n,e,_,_,d⟩,_⟩:=I.list h
 obtain⟨its',r',⟨o',n',e',_,_,d'⟩,_⟩:=I.list h'
 rw[e]at e';cases e'
 rw[d]at d'
 injection d' with d1 _
 have:its=its':=by simpa using congrArg Array.toList d1
 subst this
 exact r.inj r'
theorem Inv.akF(I:Inv X pins σ H s)(h:cW X.K H a xs)(h':cW X.K H a ys):xs=ys:=by
 obtain⟨its,r,⟨o,e,_,n,d⟩,_⟩:=I.tuple h
 obtain⟨its',r',⟨o',e',_,n',d'⟩,_⟩:=I.tuple h'
 rw[e]at e';cases e'
 rw[d]at d'
 injection d' with d1 _
 have:its=its':=by simpa using congrArg Array.toList d1
 subst this
 exact r.inj r'
end
abbrev Cx.wish(X:Cx)(E:Value->Shared->Prop):Cx:={X with xe:=E}
abbrev Cx.kZ(X:Cx):Cx:=X.wish fun _ _=>False
theorem Cx.Ok.wish{X:Cx}(ok:X.Ok)(E:Value->Shared->Prop):(X.wish E).Ok :=
 ⟨ok.mod,ok.kind,ok.glob,ok.blt,ok.above,ok.inj,ok.has,ok.cab,ok.hd,ok.frames,ok.stk,ok.exf,ok.bs,ok.bsz,ok.afK,ok.ah5,ok.JD,ok.frf⟩
theorem Cx.Ok.wX{X:Cx}{E:Value->Shared->Prop}(ok:(X.wish E).Ok):X.Ok :=
 ⟨ok.mod,ok.kind,ok.glob,ok.blt,ok.above,ok.inj,ok.has,ok.cab,ok.hd,ok.frames,ok.stk,ok.exf,ok.bs,ok.bsz,ok.afK,ok.ah5,ok.JD,ok.frf⟩
section
variable{X:Cx}{pins:List (Addr×Obj)}{σ:St}{H:Hp}{s:Shared}{E:Value->Shared->Prop}
theorem Inv.wish(I:Inv X pins σ H s)(E:Value->Shared->Prop):Inv (X.wish E) pins σ H s:=⟨I.ok.wish E,I.os,I.bare,I.base,I.loc,I.cell,I.free,I.vB,I.pin,I.hok,I.len⟩
theorem Inv.wX(I:Inv (X.wish E) pins σ H s):Inv X pins σ H s:=⟨I.ok.wX,I.os,I.bare,I.base,I.loc,I.cell,I.free,I.vB,I.pin,I.hok,I.len⟩
theorem SP.wX{D:Ends}{f:Flow}{s':Shared}(h:SP (X.wish E) pins D f s'):SP X pins D f s':=by
 cases f with
 | next=>obtain⟨σ',H',I,q⟩:=h;exact⟨σ',H',I.wX,q⟩
 | brk=>obtain⟨σ',H',I,q⟩:=h;exact⟨σ',H',I.wX,q⟩
 | cont=>obtain⟨σ',H',I,q⟩:=h;exact⟨σ',H',I.wX,q⟩
 | ret u=>obtain⟨v,σ',H',I,r,q⟩:=h;exact⟨v,σ',H',I.wX,r,q⟩
theorem PSs.kZ{st:List Stmt}{t:TS}(h:PSs X.kZ st t):PSs X st t:=fun pins s σ H D I hw =>
 wpAny_mono (h pins s σ H D (I.wish _) hw) (fun _ _ q=>q.wX) fun _ _ z=>False.elim z
end
section
variable{X:Cx}{st:Stmt}{rest:List Stmt}{t u:TS}{e:Expr}{te:TE}{pos:Pos}
def bJ:TS:=fun D σ H=>D.nx σ H
def aU(t u:TS):TS:=fun D σ H=>t {D with nx:=u D} σ H
theorem bw:PSs X [] bJ:=fun _ _ σ H _ I h=>wpAny_execs_nil ⟨σ,H,I,h⟩
theorem ak(h1:PS X st t)(h2:PSs X rest u):PSs X (st::rest) (aU t u):=by
 intro pins s σ H D I h
 refine wpAny_execs_cons (gC (h1 pins s σ H {D with nx:=u D} I h) fun f s1 q=>?_)
 cases f with
 | next =>
   obtain⟨σ',H',I',q⟩:=q
   exact h2 pins s1 σ' H' D I' q
 | ret v=>exact q
 | brk=>exact q
 | cont=>exact q
theorem aA(h1:PS X st t):PSs X [st] t:=by
 intro pins s σ H D I h
 refine wpAny_execs_cons (gC (h1 pins s σ H D I h) fun f s1 q=>?_)
 cases f with
 | next=>exact wpAny_execs_nil q
 | ret v=>exact q
 | brk=>exact q
 | cont=>exact q
theorem Inv.quiet{pins:List (Addr×Obj)}{σ:St}{H:Hp}{s:Shared}(I:Inv X pins σ H s):interactive X.env=false:=by simp[interactive,I.ok.kind]
def ajt(te:TE):TS:=fun D σ H=>te σ H fun _ H1=>D.nx σ H1
theorem bO(he:PE X e te)(hs:swapsWith e none pos.line X.env=pure false:=by rfl):PS X (.Expr e pos) (ajt te):=by
 intro pins s σ H D I h
 exact wpAny_Expr_any (gC (he pins s σ H _ I h) fun v s1 hz=>kW hz fun x H1 I1 r1 q1=>⟨σ,H1,I1,q1⟩) I.quiet hs
def asa(te:TE):TS:=fun D σ H=>te σ H D.rt
theorem aZ(he:PE X e te):PS X (.Return (some e) pos) (asa te):=by
 intro pins s σ H D I h
 exact wpAny_Return_some (gC (he pins s σ H _ I h) fun v s1 hz=>kW hz fun x H1 I1 r1 q1=>⟨x,σ,H1,I1,r1,q1⟩)
def cT(c:TT)(t u:TS):TS:=fun D σ H=>c σ H fun b H1=>if b=true then t D σ H1 else u D σ H1
theorem bU{c:Expr}{a b:List Stmt}{tc:TT}(hc:PT X c tc)(ha:PSs X a t)(hb:PSs X b u):PS X (.If c a b pos) (cT tc t u):=by
 intro pins s σ H D I h
 refine wpAny_If (gC (hc pins s σ H _ I h) fun d s1 hz=>ex3 hz fun H1 I1 q1=>?_)
 cases d with
 | true=>exact ha pins s1 σ H1 D I1 q1
 | false=>exact hb pins s1 σ H1 D I1 q1
def asb:TS:=fun _ _ _=>False
end
abbrev TG:=V->St->Hp->(St->Hp->Prop)->Prop
abbrev TGs:=List V->St->Hp->(St->Hp->Prop)->Prop
def PG(X:Cx)(target:Expr)(t:TG):Prop :=
 ∀(pins:List (Addr×Obj)) (s:Shared) (σ:St) (H:Hp) (v:V) (u:Value) (Q:St->Hp->Prop),Inv X pins σ H s->RelV v u->t v σ H Q->
  wpAny (model X.prog X.w) X.A (assign target X.env u) (fun _ s'=>∃σ' H',Inv X pins σ' H' s'/\Q σ' H') X.xe s
def PGs(X:Cx)(ts:List Expr)(t:TGs):Prop :=
 ∀(pins:List (Addr×Obj)) (s:Shared) (σ:St) (H:Hp) (vs:List V) (us:List Value) (Q:St->Hp->Prop),Inv X pins σ H s->Vals vs us->t vs σ H Q->
  wpAny (model X.prog X.w) X.A (assignInOrder ((assignEach ts X.env).map (·.2)) us) (fun _ s'=>∃σ' H',Inv X pins σ' H' s'/\Q σ' H') X.xe s
abbrev asd:=V->V->V->Hp->(Hp->Prop)->Prop
def avT(X:Cx)(t:asd):Prop :=
 ∀(pins:List (Addr×Obj)) (s:Shared) (σ:St) (H:Hp) (o i v:V) (ov iv u:Value) (Q:Hp->Prop),Inv X pins σ H s->RelV o ov->RelV i iv->RelV v u->t o i v H Q->
  wpAny (model X.prog X.w) X.A (setItem ov iv u) (fun _ s'=>∃H',Inv X pins σ H' s'/\Q H') X.xe s
section
variable{X:Cx}{pos:Pos}
def abW(i:Nat):TG:=fun v σ H Q=>Q (σ.set i (some v)) H
theorem cM{i:Nat}{x:Str}(hN:X.N.Nodup)(hi:X.N[i]? = some x)(hx:Loc X.env.scope x)(hf:X.fn x=true\/X.env.scope.names.lookup x=some .local:=by first | exact .inl rfl | exact .inr rfl | assumption):PG X (.Name x pos) (abW i):=by
 intro pins s σ H v u Q I r h
 exact wpAny_assign_Name (afM I hN hi hx r (fun s' I'=>⟨_,H,I',h⟩) hf)
def ay8:TGs:=fun vs σ H Q=>vs=[]/\Q σ H
def avU(t:TG)(u:TGs):TGs:=fun vs σ H Q=>∃v r,vs=v::r/\t v σ H fun σ' H'=>u r σ' H' Q
theorem zJ:PGs X [] ay8:=by
 intro pins s σ H vs us Q I r h
 obtain⟨e,h⟩:=h
 subst e
 cases r
 exact assignInOrder_nil ⟨σ,H,I,h⟩
theorem fP{e:Expr}{es:List Expr}{t:TG}{u:TGs}(h1:PG X e t)(h2:PGs X es u)
 (hs:(assignEach (e::es) X.env).map (·.2)=assign e X.env::(assignEach es X.env).map (·.2):=by rfl):PGs X (e::es) (avU t u):=by
 intro pins s σ H vs us Q I r h
 obtain⟨v,vr,e1,h⟩:=h
 subst e1
 cases r with
 | cons r rr =>
   rw[hs]
   refine assignInOrder_cons (gC (h1 pins s σ H _ _ _ I r h) fun _ s1 hz=>ex4 hz fun σ1 H1 I1 q1=>?_)
   exact h2 pins s1 σ1 H1 _ _ Q I1 rr q1
def avV(K:PySem.W.Frag)(n:Nat)(t:TGs):TG:=fun v σ H Q=>∃a xs,v=.ref a/\cW K H a xs/\xs.length=n/\t xs σ H Q
theorem JF{es:List Expr}{k:Nat}{t:TGs}{n:Nat}(hc:X.calm=true)(h:PGs X es t)
 (hn:(assignEach es X.env).length=n:=by rfl) (hst:(assignEach es X.env).findIdx? (·.1)=none:=by rfl):PG X (.Tuple es k pos) (avV X.K n t):=by
 intro pins s σ H v u Q I r hw
 obtain⟨a,xs,e1,hq,hl,hw⟩:=hw
 subst e1
 cases r
 obtain⟨its,rv,ht,hz⟩:=I.tuple hq
 refine assign_Tuple_tuple (I.ok.hd hc) ht (by simp[hn,<-hl,rv.length]) hst fun h' hx=>?_
 have I1:Inv X pins σ H {s with heap:=h'}:=I.kept (t':=s.toks) fun b o e=>hx b o (Nat.ne_of_lt (Heap.lt_size e)) e
 exact h pins _ σ H xs _ Q I1 (by simpa using rv) hw
def avW(to ti:TE)(t:asd):TG:=fun v σ H Q=>to σ H fun o H1=>ti σ H1 fun i H2=>t o i v H2 fun H3=>Q σ H3
theorem Ep{o i:Expr}{to ti:TE}{t:asd}(ho:PE X o to)(hi:PE X i ti)(hs:avT X t)
 (ha:∀v,assign (.Subscript o i pos) X.env v=(do
   let ov <-holding [v] (eval o X.env)
   let iv <-holding [v,ov] (eval i X.env)
   standAt pos
   holding [v,ov,iv] (setItem ov iv v)
   release [v,ov,iv] []):=by intro _;rfl):PG X (.Subscript o i pos) (avW to ti t):=by
 intro pins s σ H v u Q I r h
 rw[ha]
 refine wpAny_bind (wpAny_holding (gC (ho pins s σ H _ I h) fun ov s1 hz=>kW hz fun x H1 I1 r1 q1=>?_))
 refine wpAny_bind (wpAny_holding (gC (hi pins s1 σ H1 _ I1 q1) fun iv s2 hz=>kW hz fun y H2 I2 r2 q2=>?_))
 refine wpAny_bind (wpAny_standAt (wpAny_bind (wpAny_holding (gC (hs pins s2 σ H2 x y v ov iv u _ I2 r1 r2 r q2) fun _ s3 hz=>ex3 hz fun H3 I3 q3=>?_))))
 exact wpAny_release ⟨σ,H3,I3,q3⟩
def ase(te:TE)(g:TG):TS:=fun D σ H=>te σ H fun x H1=>g x σ H1 D.nx
theorem tW{tg e:Expr}{te:TE}{g:TG}(he:PE X e te)(hg:PG X tg g)(hs:swapsWithSole [tg] e pos.line X.env=pure false:=by rfl)(hw:swappedStores [tg] e X.env=pure none:=by rfl)
 (h1:(assignEach [tg] X.env).map (·.2)=[assign tg X.env]:=by rfl):PS X (.Assign [tg] e pos) (ase te g):=by
 intro pins s σ H D I h
 refine wpAny_Assign_stores (gC (he pins s σ H _ I h) fun v s1 hz=>kW hz fun x H1 I1 r1 q1=>?_) hs hw
 rw[h1]
 exact gC (hg pins s1 σ H1 x v _ I1 r1 q1) fun _ s2 q=>q
theorem bx{i:Nat}{x:Str}{e:Expr}{te:TE}{pos':Pos}(hN:X.N.Nodup)(hi:X.N[i]? = some x)(hx:Loc X.env.scope x)(he:PE X e te)(hs:swapsWith e (some (.Name x pos')) pos.line X.env=pure false:=by rfl)(hf:X.fn x=true\/X.env.scope.names.lookup x=some .local:=by first | exact .inl rfl | exact .inr rfl | assumption) :
 PS X (.Assign [.Name x pos'] e pos) (ase te (abW i)):=by
 intro pins s σ H D I h
 refine wpAny_Assign_Name (gC (he pins s σ H _ I h) fun v s1 hz=>kW hz fun y H1 I1 r1 q1=>?_) hs
 exact afM I1 hN hi hx r1 (fun s2 I2=>⟨_,H1,I2,q1⟩) hf
end
section
variable{X:Cx}{pos:Pos}
def acL(c:TT)(tb:TS):TS:=fun D σ H=>∃W:Nat->St->Hp->Prop,(∃m,W m σ H)/\∀m σ H,W m σ H->
 c σ H fun b H1=>if b=true then ∃N:St->Hp->Prop,(∀σ' H',N σ' H'->∃m',m'<m/\W m' σ' H')/\tb {D with nx:=N,ct:=N,bk:=D.nx} σ H1 else D.nx σ H1
theorem WD{c:Expr}{body:List Stmt}{tc:TT}{tb:TS}(hp:PassesOwn (model X.prog X.w) X.A X.env X.xe)(hc:PT X c tc)(hb:PSs X body tb):PS X (.While c body [] pos) (acL tc tb):=by
 intro pins s σ H D I h
 obtain⟨W,⟨m0,w0⟩,turn⟩:=h
 refine wpAny_While (codeAny_whileLoop (fun n s'=>∃σ' H',Inv X pins σ' H' s'/\W n σ' H') ?_ m0 ⟨σ,H,I,w0⟩)
 rintro n s1 ⟨σ1,H1,I1,w1⟩
 refine wpAny_passesOwn hp (gC (hc pins s1 σ1 H1 _ I1 (turn n σ1 H1 w1)) fun b s2 hz=>ex3 hz fun H2 I2 q2=>?_)
 cases b with
 | true =>
   obtain⟨N,hN,q2⟩:=q2
   rw[if_pos rfl]
   refine wpAny_passesOwn hp (gC (hb pins s2 σ1 H2 _ I2 q2) fun f s3 q3=>?_)
   cases f with
   | next =>
     obtain⟨σ3,H3,I3,n3⟩:=q3
     obtain⟨m',hm,w3⟩:=hN σ3 H3 n3
     exact⟨m',hm,σ3,H3,I3,w3⟩
   | cont =>
     obtain⟨σ3,H3,I3,n3⟩:=q3
     obtain⟨m',hm,w3⟩:=hN σ3 H3 n3
     exact⟨m',hm,σ3,H3,I3,w3⟩
   | brk=>exact q3
   | ret v=>exact q3
 | false =>
   rw[if_neg Bool.false_ne_true]
   exact wpAny_execs_nil ⟨σ1,H2,I2,q2⟩
end
structure It where
 go:Nat->Hp->Prop
 yld:Nat->Hp->V->Hp->Prop
 stop:Nat->Hp->Prop
def Lq(X:Cx)(pins:List (Addr×Obj))(H:Hp)(b:Addr):Prop :=
 H b=none/\b≠X.env.locals/\b∉X.fs/\(b∈X.ex\/X.s₀.heap.objs.size<=b)/\(∀x c,X.env.cells.lookup x=some c->c≠b)/\∀p∈X.pn++pins,p.1≠b
theorem Inv.al4{X:Cx}{pins:List (Addr×Obj)}{σ:St}{H H':Hp}{s:Shared}{b:Addr}(I:Inv X pins σ H s)(hb:s.heap.objs.size<=b)(hn:H' b=none):Lq X pins H' b:=by
 refine⟨hn,Nat.ne_of_gt (Nat.lt_of_lt_of_le I.lt hb),I.ay2 hb,.inr (Nat.le_trans I.sz hb),fun x c e z=>?_,fun p hp z=>?_⟩
 ·obtain⟨v,q⟩:=I.cell x c e
  exact absurd (Nat.lt_of_lt_of_le q.lt (by rw[z];exact hb)) (Nat.lt_irrefl _)
 ·exact absurd (Nat.lt_of_lt_of_le (Heap.lt_size (I.pin p hp).1) (by rw[z];exact hb)) (Nat.lt_irrefl _)
structure Turn(P:Program)(w:World)(K:PySem.W.Frag)(tg:Expr)(J:It)(fp:List Addr)(it:Addr)(tn:Nat->Heap->Prop):Prop where
 mem:it∈fp
 obj:∀i h,tn i h->∀b∈fp,∃o,h.get? b=some o/\∀v,o.data≠.cell v
 keep:∀i h h',tn i h->(∀b∈fp,∀o,h.get? b=some o->h'.get? b=some o)->tn i h'
 item:∀(X:Cx),X.prog=P->X.w=w->X.K=K->X.calm=true->∀(i:Nat) (pins:List (Addr×Obj)) (s:Shared) (σ:St) (H:Hp) (E:Value->Shared->Prop),Inv X pins σ H s->(∀b∈fp,Lq X pins H b)->tn i s.heap->J.go i H->
  wpAny (model P w) X.A (pyNext (.ref it)) (fun r s1=>∃u,r=some u/\
   wpAny (model P w) X.A (letOwnedTupleGo tg (.ref it) u) (fun _ s2=>∃x H',Inv X pins σ H' s2/\RelV x u/\J.yld i H x H'/\tn (i+1) s2.heap/\∀b∈fp,H' b=none) E s1) E s
 done:∀(X:Cx),X.prog=P->X.w=w->X.K=K->X.calm=true->∀(i:Nat) (pins:List (Addr×Obj)) (s:Shared) (σ:St) (H:Hp) (E:Value->Shared->Prop),Inv X pins σ H s->(∀b∈fp,Lq X pins H b)->tn i s.heap->J.stop i H->
  wpAny (model P w) X.A (pyNext (.ref it)) (fun r s1=>r=none/\Inv X pins σ H s1) E s
 self:∀(A:Around) (i:Nat) (s:Shared) (Q:Value->Shared->Prop) (E:Value->Shared->Prop),tn i s.heap->Q (.ref it) s->wpAny (model P w) A (pyIter (.ref it)) Q E s
abbrev TI:=St->Hp->(It->Hp->Prop)->Prop
def PIE(X:Cx)(pins:List (Addr×Obj))(σ:St)(tg:Expr)(R:It->Hp->Prop)(itv:Value)(s2:Shared):Prop :=
 ∃(it:Addr) (fp:List Addr) (tn:Nat->Heap->Prop) (J:It) (H':Hp),itv=.ref it/\Inv X pins σ H' s2/\Turn X.prog X.w X.K tg J fp it tn/\tn 0 s2.heap/\(∀b∈fp,Lq X pins H' b)/\R J H'
def PI(X:Cx)(tg iter:Expr)(wi:TI):Prop :=
 ∀(pins:List (Addr×Obj)) (s:Shared) (σ:St) (H:Hp) (R:It->Hp->Prop),Inv X pins σ H s->wi σ H R->
  wpAny (model X.prog X.w) X.A (eval iter X.env) (fun v s1=>wpAny (model X.prog X.w) X.A (pyIter v) (PIE X pins σ tg R) X.xe s1) X.xe s
theorem al5{M:Model}{A:Around}{E:Value->Shared->Prop}{s:Shared}{tg:Expr}{it:Addr}{u:Value}{o:Obj}{n:String}{vs:Array Value}{Q:Unit->Shared->Prop}(ho:s.heap.get? it=some o)(hc:o.cls=.type n)(hd:o.data=.fields vs)
 (hn:["enumerate","zip","dict_itemiterator","dict_reverseitemiterator","odict_iterator","itertools.zip_longest","itertools.pairwise"].contains n=false) (hQ:Q () s):wpAny M A (letOwnedTupleGo tg (.ref it) u) Q E s:=by
 unfold letOwnedTupleGo
 cases tg<;>first
  | exact wpAny_pure hQ
  | (cases u<;>first
      | exact wpAny_pure hQ
      | (refine wpAny_bind (wpAny_load ho ?_)
         rw[hc,hd]
         show wpAny M A (if(["enumerate","zip","dict_itemiterator","dict_reverseitemiterator","odict_iterator","itertools.zip_longest","itertools.pairwise"].contains n && vs[0]? == some (rawInt _))=true then _ else _) Q E s
         rw[if_neg (by intro h;rw[hn,Bool.false_and]at h;cases h)]
         exact wpAny_pure hQ))
def Itl(K:PySem.W.Frag)(a:Addr):It :=
 ⟨fun i H=>∃xs x,cz K H a xs/\xs[i]? = some x,fun i H x H'=>H'=H/\∀xs,cz K H a xs->xs[i]? = some x,fun i H=>∃xs,cz K H a xs/\xs.length<=i⟩
def Itt(K:PySem.W.Frag)(a:Addr):It :=
 ⟨fun i H=>∃xs x,cW K H a xs/\xs[i]? = some x,fun i H x H'=>H'=H/\∀xs,cW K H a xs->xs[i]? = some x,fun i H=>∃xs,cW K H a xs/\xs.length<=i⟩
def Itr(lo:Int)(n:Nat):It:=⟨fun i _=>i<n,fun i H x H'=>H'=H/\x=.int (lo+i),fun i _=>n<=i⟩
theorem akG{P:Program}{w:World}{K:PySem.W.Frag}{tg:Expr}(a it:Addr):Turn P w K tg (Itl K a) [it] it (fun i h=>h.IsListIter it a i) where
 mem:=by simp
 obj:=fun i h st b hb=>by
  have e:b=it:=by simpa using hb
  subst e
  obtain⟨o,e,c,d⟩:=st
  exact⟨o,e,fun v z=>by rw[d]at z;cases z⟩
 keep:=fun i h h' st k=>st.at fun o e=>k it (by simp) o e
 item:=by
  intro X hP hw hK hc i pins s σ H E I hf st hg
  subst hP hw hK
  obtain⟨xs,x,hq,hx⟩:=hg
  obtain⟨its,rv,p,hz⟩:=I.list hq
  obtain⟨u,hu,ru⟩:=rv.get hx
  obtain⟨f0,f1,f2,f3,f4,f5⟩:=hf it (by simp)
  refine wpAny_pyNext_list_item st p.isList (x:=u) (by simpa using hu) fun h' st' sb=>?_
  have I1:Inv X pins σ H {s with heap:=h'}:=I.turned (t':=s.toks) (fun b o hb e=>(sb.2 b hb).trans e) f0 f1 f3 f4 f5
  obtain⟨o,e,c,d⟩:=id st'
  exact⟨u,rfl,al5 (s:={s with heap:=h'}) e c d (by decide) ⟨x,H,I1,ru,⟨rfl,fun ys hy=>by rw[I.afP hy hq];exact hx⟩,st',fun b hb=>(hf b hb).1⟩⟩
 done:=by
  intro X hP hw hK hc i pins s σ H E I hf st hg
  subst hP hw hK
  obtain⟨xs,hq,hx⟩:=hg
  obtain⟨its,rv,p,hz⟩:=I.list hq
  obtain⟨f0,f1,f2,f3,f4,f5⟩:=hf it (by simp)
  have hl:=rv.length
  exact wpAny_pyNext_list_end (I.ok.hd hc) st p.isList (by simp;lia) fun h' eb=>⟨rfl,I.turned (t':=s.toks) (fun b o hb e=>eb b o hb e) f0 f1 f3 f4 f5⟩
 self:=fun _ _ _ _ _ st h=>wpAny_pyIter_listiter st h
theorem ah8{P:Program}{w:World}{K:PySem.W.Frag}{tg:Expr}(a it:Addr):Turn P w K tg (Itt K a) [it] it (fun i h=>h.IsTupleIter it a i) where
 mem:=by simp
 obj:=fun i h st b hb=>by
  have e:b=it:=by simpa using hb
  subst e
  obtain⟨o,e,c,d⟩:=st
  exact⟨o,e,fun v z=>by rw[d]at z;cases z⟩
 keep:=fun i h h' st k=>st.at fun o e=>k it (by simp) o e
 item:=by
  intro X hP hw hK hc i pins s σ H E I hf st hg
  subst hP hw hK
  obtain⟨xs,x,hq,hx⟩:=hg
  obtain⟨its,rv,p,hz⟩:=I.tuple hq
  obtain⟨u,hu,ru⟩:=rv.get hx
  obtain⟨f0,f1,f2,f3,f4,f5⟩:=hf it (by simp)
  refine wpAny_pyNext_tuple_item st (show s.heap.IsTuple a its.toArray from p) (x:=u) (by simpa using hu) fun h' st' sb=>?_
  have I1:Inv X pins σ H {s with heap:=h'}:=I.turned (t':=s.toks) (fun b o hb e=>(sb.2 b hb).trans e) f0 f1 f3 f4 f5
  obtain⟨o,e,c,d⟩:=id st'
  exact⟨u,rfl,al5 (s:={s with heap:=h'}) e c d (by decide) ⟨x,H,I1,ru,⟨rfl,fun ys hy=>by rw[I.akF hy hq];exact hx⟩,st',fun b hb=>(hf b hb).1⟩⟩
 done:=by
  intro X hP hw hK hc i pins s σ H E I hf st hg
  subst hP hw hK
  obtain⟨xs,hq,hx⟩:=hg
  obtain⟨its,rv,p,hz⟩:=I.tuple hq
  obtain⟨f0,f1,f2,f3,f4,f5⟩:=hf it (by simp)
  have hl:=rv.length
  exact wpAny_pyNext_tuple_end (I.ok.hd hc) st (show s.heap.IsTuple a its.toArray from p) (by simp;lia) fun h' eb=>⟨rfl,I.turned (t':=s.toks) (fun b o hb e=>eb b o hb e) f0 f1 f3 f4 f5⟩
 self:=fun _ _ _ _ _ st h=>wpAny_pyIter_tupleiter st h
theorem ah9{P:Program}{w:World}{K:PySem.W.Frag}{tg:Expr}(it:Addr)(lo:Int)(n:Nat):Turn P w K tg (Itr lo n) [it] it (fun i h=>IsRangeIter h it (lo+(i:Nat)*1) ((n:Int) - (i:Nat)) 1) where
 mem:=by simp
 obj:=fun i h st b hb=>by
  have e:b=it:=by simpa using hb
  subst e
  exact⟨_,st,fun v z=>by
   have z':Data.fields _=Data.cell v:=z
   cases z'⟩
 keep:=fun i h h' st k=>k it (by simp) _ st
 item:=by
  intro X hP hw hK hc i pins s σ H E I hf st hg
  subst hP hw hK
  obtain⟨f0,f1,f2,f3,f4,f5⟩:=hf it (by simp)
  have W:=Walks.range (prog:=X.prog) (w:=X.w) (I.ok.hd hc) it lo 1 n
  refine W.item i s _ _ hg st fun v h' tk hv st' kk=>?_
  obtain⟨t,rfl⟩:=hv
  have I1:Inv X pins σ H {s with heap:=h',toks:=tk}:=I.turned (fun b o hb e=>kk b o (by simpa using hb) e) f0 f1 f3 f4 f5
  refine⟨_,rfl,al5 (s:={s with heap:=h',toks:=tk}) (n:="range_iterator") st' rfl rfl (by decide) ⟨.int (lo+i),H,I1,⟨t,?_⟩,⟨rfl,rfl⟩,st',fun b hb=>(hf b hb).1⟩⟩
  rw[Int.mul_one]
 done:=by
  intro X hP hw hK hc i pins s σ H E I hf st hg
  subst hP hw hK
  obtain⟨f0,f1,f2,f3,f4,f5⟩:=hf it (by simp)
  exact wpAny_pyNext_range_end (I.ok.hd hc) st (by have:n<=i:=hg;lia) fun h' eb=>⟨rfl,I.turned (t':=s.toks) (fun b o hb e=>eb b o hb e) f0 f1 f3 f4 f5⟩
 self:=fun _ _ _ _ _ st h=>wpAny_pyIter_rangeiter st h
end L2
namespace L2
open PySem PySem.Spec PyProof.Rows
section
variable{X:Cx}{tg:Expr}
def avY(K:PySem.W.Frag)(tl:TE):TI:=fun σ H R=>tl σ H fun x H1=>∃a,x=.ref a/\(∃xs,cz K H1 a xs)/\R (Itl K a) H1
def ay9(K:PySem.W.Frag)(tl:TE):TI:=fun σ H R=>tl σ H fun x H1=>∃a,x=.ref a/\(∃xs,cW K H1 a xs)/\R (Itt K a) H1
theorem sG{l:Expr}{tl:TE}(hl:PE X l tl):PI X tg l (avY X.K tl):=by
 intro pins s σ H R I h
 refine gC (hl pins s σ H _ I h) fun v s1 hz=>kW hz fun x H1 I1 r1 q1=>?_
 obtain⟨a,e,⟨xs,hq⟩,q⟩:=q1
 subst e
 cases r1
 obtain⟨its,rv,p,hz⟩:=I1.list hq
 refine wpAny_pyIter_list p.isList ?_
 refine⟨s1.heap.objs.size,[s1.heap.objs.size],_,_,H1,rfl,I1.kept (t':=s1.toks) fun b o e=>Heap.get?_push_of_some _ e,akG a _,⟨_,Heap.get?_push_size _ rfl,rfl,rfl⟩,fun b hb=>?_,q⟩
 have e:b=s1.heap.objs.size:=by simpa using hb
 subst e
 exact I1.al4 (Nat.le_refl _) (I1.hok.fresh (Nat.le_refl _))
theorem asf{l:Expr}{tl:TE}(hl:PE X l tl):PI X tg l (ay9 X.K tl):=by
 intro pins s σ H R I h
 refine gC (hl pins s σ H _ I h) fun v s1 hz=>kW hz fun x H1 I1 r1 q1=>?_
 obtain⟨a,e,⟨xs,hq⟩,q⟩:=q1
 subst e
 cases r1
 obtain⟨its,rv,p,hz⟩:=I1.tuple hq
 refine wpAny_pyIter_tuple (show s1.heap.IsTuple a its.toArray from p) ?_
 refine⟨s1.heap.objs.size,[s1.heap.objs.size],_,_,H1,rfl,I1.kept (t':=s1.toks) fun b o e=>Heap.get?_push_of_some _ e,ah8 a _,⟨_,Heap.get?_push_size _ rfl,rfl,rfl⟩,fun b hb=>?_,q⟩
 have e:b=s1.heap.objs.size:=by simpa using hb
 subst e
 exact I1.al4 (Nat.le_refl _) (I1.hok.fresh (Nat.le_refl _))
theorem al6{pins:List (Addr×Obj)}{σ:St}{H:Hp}{s:Shared}{R:It->Hp->Prop}{E:Value->Shared->Prop}{lo hi:Int}{t u v:Tok}{tk:Nat}(I:Inv X pins σ H s)(h1 : -(2 ^ 62)<=lo)(h2:lo<2 ^ 62)(h3 : -(2 ^ 62)<=hi)(h4:hi<2 ^ 62)
 (q:R (Itr lo (hi - lo).toNat) H):wpAny (model X.prog X.w) X.A (pyIter (.ref s.heap.objs.size)) (PIE X pins σ tg R) E {s with heap:=s.heap.push {cls:=.type "range",data:=.fields #[.int lo t,.int hi u,.int 1 v]},toks:=tk}:=by
 refine wpAny_pyIter_range (IsRange.new ..) (small_one h1 h2 h3 h4) ?_
 have I1:Inv X pins σ H {s with heap:=s.heap.push {cls:=.type "range",data:=.fields #[.int lo t,.int hi u,.int 1 v]},toks:=tk}:=I.kept fun b o e=>Heap.get?_push_of_some _ e
 refine⟨(s.heap.push {cls:=.type "range",data:=.fields #[.int lo t,.int hi u,.int 1 v]}).objs.size,[(s.heap.push {cls:=.type "range",data:=.fields #[.int lo t,.int hi u,.int 1 v]}).objs.size],_,_,H,rfl,
  I1.kept (t':=tk) fun b o e=>Heap.get?_push_of_some _ e,ah9 _ lo (hi - lo).toNat,?_,fun b hb=>?_,q⟩
 ·have e1:lo+((0:Nat):Int)*1=lo:=by simp
  have e2:(((hi - lo).toNat:Nat):Int) - ((0:Nat):Int)=Builtin.Range.rangeSize lo hi 1:=by rw[rangeSize_one];split<;>lia
  show IsRangeIter _ _ (lo+((0:Nat):Int)*1) ((((hi - lo).toNat:Nat):Int) - ((0:Nat):Int)) 1
  rw[e1,e2]
  exact Heap.get?_push_size _ rfl
 ·have e:b=(s.heap.push {cls:=.type "range",data:=.fields #[.int lo t,.int hi u,.int 1 v]}).objs.size:=by simpa using hb
  subst e
  exact I1.al4 (Nat.le_refl _) (I1.hok.fresh (Nat.le_refl _))
def avZ(ta:TA):TI:=fun σ H R=>ta σ H fun vs H1=>∃j:Int,vs=[.int j]/\-(2 ^ 62)<=j/\j<2 ^ 62/\R (Itr 0 j.toNat) H1
theorem iW{a:Expr}{ta:TA}{p pos:Pos}(hg:Gl X "range") (hm:X.mg "range"=none) (ha:PA X [a] ta) (hs:starEach [a] X.env=[(false,eval a X.env)]:=by rfl):PI X tg (.Call (.Name "range" p) [a] [] pos) (avZ ta):=by
 intro pins s σ H R I h
 refine Call_ (Wz I hg hm boot_range (PyProof.Rows.callWith_type1 (gC (ha pos pins s σ H _ I h) fun us s1 hz=>kW hz fun vs H1 I1 r1 q1=>?_) hs rfl))
 obtain⟨j,e,q1,q2,q⟩:=q1
 subst e
 cases r1 with
 | cons r rr =>
   cases rr
   obtain⟨t,rfl⟩:=r
   exact call_range_1 (al6 I1 (by lia) (by lia) q1 q2 (by simpa using q))
def TQ(wi:TI)(g:TG)(tb:TS):TS:=fun D σ H=>wi σ H fun J H1=>∃W:Nat->Nat->St->Hp->Prop,(∃m,W 0 m σ H1)/\∀i m σ H,W i m σ H->
 (J.stop i H/\D.nx σ H)\/(J.go i H/\∃N:St->Hp->Prop,(∀σ' H',N σ' H'->∃m',m'<m/\W (i+1) m' σ' H')/\∀x H',J.yld i H x H'->g x σ H' fun σ2 H2=>tb {D with nx:=N,ct:=N,bk:=D.nx} σ2 H2)
def WK(fp:List Addr)(h:Heap):List (Addr×Obj):=fp.filterMap fun b=>(h.get? b).map fun o=>(b,o)
theorem zK{fp:List Addr}{h:Heap}{b:Addr}{o:Obj}(hb:b∈fp)(e:h.get? b=some o):(b,o)∈WK fp h:=List.mem_filterMap.mpr ⟨b,hb,by rw[e];rfl⟩
theorem akH{fp:List Addr}{h:Heap}{p:Addr×Obj}(hp:p∈WK fp h):p.1∈fp/\h.get? p.1=some p.2:=by
 obtain⟨b,hb,e⟩:=List.mem_filterMap.mp hp
 cases q:h.get? b with
 | none=>rw[q]at e;cases e
 | some o =>
   rw[q]at e
   have e':(b,o)=p:=Option.some.inj e
   subst e'
   exact⟨hb,q⟩
theorem Inv.pinned{pins:List (Addr×Obj)}{σ:St}{H:Hp}{s:Shared}{fp:List Addr}(I:Inv X pins σ H s)(hf:∀b∈fp,Lq X pins H b)(ho:∀b∈fp,∃o,s.heap.get? b=some o/\∀v,o.data≠.cell v):Inv X (pins++WK fp s.heap) σ H s :=
 I.ajs fun p hp=>(List.mem_append.mp hp).elim (fun z=>I.pin p (List.mem_append_right _ z)) fun z=>by
  obtain⟨hb,e⟩:=akH z
  obtain⟨f0,f1,f2,_⟩:=hf p.1 hb
  obtain⟨o,e',d⟩:=ho p.1 hb
  rw[e]at e';cases e'
  exact⟨e,f0,f1,f2,d⟩
theorem Inv.Lr{pins pl:List (Addr×Obj)}{σ:St}{H:Hp}{s:Shared}(I:Inv X (pins++pl) σ H s):Inv X pins σ H s:=I.ajs fun p hp=>I.pin p (List.mem_append_right _ (List.mem_append_left _ hp))
theorem tX{iter:Expr}{body:List Stmt}{wi:TI}{g:TG}{tb:TS}{pos:Pos}(hp:PassesOwn (model X.prog X.w) X.A X.env X.xe)(hc:X.calm=true)(hi:PI X tg iter wi)(hg:PG X tg g)(hb:PSs X body tb)
 (hs:∀x,foldedSetIterable iter X.env x=pure x:=by intro _;rfl):PS X (.For tg iter body [] pos) (TQ wi g tb):=by
 intro pins s σ H D I h
 refine wpAny_For (gC (hi pins s σ H _ I h) fun v s1 h1=>gC h1 fun itv s2 h2=>?_) hs
 obtain⟨it,fp,tn,J,H2,e,I2,T,st2,f2,W,⟨m0,w0⟩,turn⟩:=h2
 subst e
 have stat:∀{H':Hp},(∀b∈fp,H' b=none)->∀b∈fp,Lq X pins H' b:=fun hn b hb=>⟨hn b hb,(f2 b hb).2⟩
 refine codeAny_forLoop_any (fun n s'=>∃i σ' H',Inv X pins σ' H' s'/\tn i s'.heap/\(∀b∈fp,H' b=none)/\W i n σ' H') ?_ m0 ⟨0,σ,H2,I2,st2,fun b hb=>(f2 b hb).1,w0⟩
 rintro n s3 ⟨i,σ3,H3,I3,st3,fr3,w3⟩
 rcases turn i n σ3 H3 w3 with ⟨stop,qn⟩ | ⟨go,N,hN,step⟩
 ·refine wpAny_passesOwn hp (gC (T.done X rfl rfl rfl hc i pins s3 σ3 H3 X.xe I3 (stat fr3) st3 stop) fun r s4 ⟨hr,I4⟩=>?_)
  subst hr
  exact wpAny_execs_nil ⟨σ3,H3,I4,qn⟩
 ·refine wpAny_passesOwn hp (gC (T.item X rfl rfl rfl hc i pins s3 σ3 H3 X.xe I3 (stat fr3) st3 go) fun r s4 ⟨u,hr,h4⟩=>?_)
  subst hr
  refine wpAny_passesOwn hp (gC h4 fun _ s5 hz=>kW hz fun x H5 I5 r5 ⟨y5,st5,fr5⟩=>?_)
  have I5':=I5.pinned (stat fr5) (T.obj _ _ st5)
  refine wpAny_passesOwn hp (gC (hg _ s5 σ3 H5 x u _ I5' r5 (step x H5 y5)) fun _ s6 hz=>ex4 hz fun σ6 H6 I6 q6=>?_)
  refine wpAny_passesOwn hp (gC (hb _ s6 σ6 H6 _ I6 q6) fun f s7 q7=>?_)
  have again:∀{σ7:St} {H7:Hp},Inv X (pins++WK fp s5.heap) σ7 H7 s7->N σ7 H7->∃m,m<n/\∃i σ' H',Inv X pins σ' H' s7/\tn i s7.heap/\(∀b∈fp,H' b=none)/\W i m σ' H':=fun {σ7 H7} I7 n7=>by
   obtain⟨m',hm,w7⟩:=hN σ7 H7 n7
   refine⟨m',hm,i+1,σ7,H7,I7.Lr,T.keep _ _ _ st5 fun b hb o e=>(I7.pin (b,o) (List.mem_append_right _ (List.mem_append_right _ (zK hb e)))).1,fun b hb=>?_,w7⟩
   obtain⟨o,e,d⟩:=T.obj _ _ st5 b hb
   exact(I7.pin (b,o) (List.mem_append_right _ (List.mem_append_right _ (zK hb e)))).2.1
  cases f with
  | next=>obtain⟨σ7,H7,I7,n7⟩:=q7;exact again I7 n7
  | cont=>obtain⟨σ7,H7,I7,n7⟩:=q7;exact again I7 n7
  | brk=>obtain⟨σ7,H7,I7,q7⟩:=q7;exact⟨σ7,H7,I7.Lr,q7⟩
  | ret v=>obtain⟨x7,σ7,H7,I7,r7,q7⟩:=q7;exact⟨x7,σ7,H7,I7.Lr,r7,q7⟩
end
theorem tY{K:PySem.W.Frag}{a:Addr}{xs:List V}{g:TG}{tb:TS}{D:Ends}{σ:St}{H:Hp}(Pv:Nat->St->Hp->Prop)(h0:Pv 0 σ H)(hl:∀i σ H,i<=xs.length->Pv i σ H->cz K H a xs)
 (hs:∀i x σ H,xs[i]? = some x->Pv i σ H->g x σ H fun σ2 H2=>tb {D with nx:=Pv (i+1),ct:=Pv (i+1),bk:=D.nx} σ2 H2) (hd:∀σ H,Pv xs.length σ H->D.nx σ H) :
 ∃W:Nat->Nat->St->Hp->Prop,(∃m,W 0 m σ H)/\∀i m σ H,W i m σ H->
  ((Itl K a).stop i H/\D.nx σ H)\/((Itl K a).go i H/\∃N:St->Hp->Prop,(∀σ' H',N σ' H'->∃m',m'<m/\W (i+1) m' σ' H')/\∀x H',(Itl K a).yld i H x H'->g x σ H' fun σ2 H2=>tb {D with nx:=N,ct:=N,bk:=D.nx} σ2 H2):=by
 refine⟨fun i m σ H=>m=xs.length - i/\i<=xs.length/\Pv i σ H,⟨xs.length,by simp,Nat.zero_le _,h0⟩,?_⟩
 rintro i m σ H ⟨rfl,hi,p⟩
 have q:=hl i σ H hi p
 by_cases hlt:i<xs.length
 ·refine .inr ⟨⟨xs,xs[i],q,by simp[hlt]⟩,Pv (i+1),fun σ' H' p'=>⟨xs.length - (i+1),by lia,rfl,hlt,p'⟩,fun x H' y=>?_⟩
  obtain⟨e,y⟩:=y
  subst e
  exact hs i x σ _ (y xs q) p
 ·have e:i=xs.length:=by lia
  subst e
  exact .inl ⟨⟨xs,q,Nat.le_refl _⟩,hd σ H p⟩
theorem aoJ{K:PySem.W.Frag}{a:Addr}{xs:List V}{g:TG}{tb:TS}{D:Ends}{σ:St}{H:Hp}(Pv:Nat->St->Hp->Prop)(h0:Pv 0 σ H)(hl:∀i σ H,i<=xs.length->Pv i σ H->cW K H a xs)
 (hs:∀i x σ H,xs[i]? = some x->Pv i σ H->g x σ H fun σ2 H2=>tb {D with nx:=Pv (i+1),ct:=Pv (i+1),bk:=D.nx} σ2 H2) (hd:∀σ H,Pv xs.length σ H->D.nx σ H) :
 ∃W:Nat->Nat->St->Hp->Prop,(∃m,W 0 m σ H)/\∀i m σ H,W i m σ H->
  ((Itt K a).stop i H/\D.nx σ H)\/((Itt K a).go i H/\∃N:St->Hp->Prop,(∀σ' H',N σ' H'->∃m',m'<m/\W (i+1) m' σ' H')/\∀x H',(Itt K a).yld i H x H'->g x σ H' fun σ2 H2=>tb {D with nx:=N,ct:=N,bk:=D.nx} σ2 H2):=by
 refine⟨fun i m σ H=>m=xs.length - i/\i<=xs.length/\Pv i σ H,⟨xs.length,by simp,Nat.zero_le _,h0⟩,?_⟩
 rintro i m σ H ⟨rfl,hi,p⟩
 have q:=hl i σ H hi p
 by_cases hlt:i<xs.length
 ·refine .inr ⟨⟨xs,xs[i],q,by simp[hlt]⟩,Pv (i+1),fun σ' H' p'=>⟨xs.length - (i+1),by lia,rfl,hlt,p'⟩,fun x H' y=>?_⟩
  obtain⟨e,y⟩:=y
  subst e
  exact hs i x σ _ (y xs q) p
 ·have e:i=xs.length:=by lia
  subst e
  exact .inl ⟨⟨xs,q,Nat.le_refl _⟩,hd σ H p⟩
theorem Qn{lo:Int}{n:Nat}{g:TG}{tb:TS}{D:Ends}{σ:St}{H:Hp}(Pv:Nat->St->Hp->Prop)(h0:Pv 0 σ H)
 (hs:∀i σ H,i<n->Pv i σ H->g (.int (lo+i)) σ H fun σ2 H2=>tb {D with nx:=Pv (i+1),ct:=Pv (i+1),bk:=D.nx} σ2 H2) (hd:∀σ H,Pv n σ H->D.nx σ H) :
 ∃W:Nat->Nat->St->Hp->Prop,(∃m,W 0 m σ H)/\∀i m σ H,W i m σ H->
  ((Itr lo n).stop i H/\D.nx σ H)\/((Itr lo n).go i H/\∃N:St->Hp->Prop,(∀σ' H',N σ' H'->∃m',m'<m/\W (i+1) m' σ' H')/\∀x H',(Itr lo n).yld i H x H'->g x σ H' fun σ2 H2=>tb {D with nx:=N,ct:=N,bk:=D.nx} σ2 H2):=by
 refine⟨fun i m σ H=>m=n - i/\i<=n/\Pv i σ H,⟨n,by simp,Nat.zero_le _,h0⟩,?_⟩
 rintro i m σ H ⟨rfl,hi,p⟩
 by_cases hlt:i<n
 ·refine .inr ⟨hlt,Pv (i+1),fun σ' H' p'=>⟨n - (i+1),by lia,rfl,hlt,p'⟩,fun x H' y=>?_⟩
  obtain⟨e,y⟩:=y
  subst e y
  exact hs i σ _ hlt p
 ·have e:i=n:=by lia
  subst e
  exact .inl ⟨Nat.le_refl _,hd σ H p⟩
end L2
namespace L2
open PySem PySem.Spec PyProof.Rows
abbrev R2:=V->V->Hp->VK->Prop
def Ws(X:Cx)(f:Value->Value->Sem Value)(r:R2):Prop :=
 ∀(pins:List (Addr×Obj)) (s:Shared) (σ:St) (H:Hp) (x y:V) (v u:Value) (Q:VK),Inv X pins σ H s->RelV x v->RelV y u->r x y H Q->
  wpAny (model X.prog X.w) X.A (f v u) (EP X pins σ Q) X.xe s
def UnR(X:Cx)(f:Value->Sem Value)(r:V->Hp->VK->Prop):Prop :=
 ∀(pins:List (Addr×Obj)) (s:Shared) (σ:St) (H:Hp) (x:V) (v:Value) (Q:VK),Inv X pins σ H s->RelV x v->r x H Q->
  wpAny (model X.prog X.w) X.A (f v) (EP X pins σ Q) X.xe s
def RW(X:Cx)(f:Value)(r:List V->Hp->VK->Prop):Prop :=
 ∀(pins:List (Addr×Obj)) (s:Shared) (σ:St) (H:Hp) (xs:List V) (us:List Value) (Q:VK),Inv X pins σ H s->Vals xs us->r xs H Q->
  wpAny (model X.prog X.w) X.A (call f us) (EP X pins σ Q) X.xe s
def azb(X:Cx)(r:V->Hp->(Bool->Hp->Prop)->Prop):Prop :=
 ∀(pins:List (Addr×Obj)) (s:Shared) (σ:St) (H:Hp) (x:V) (v:Value) (Q:Bool->Hp->Prop),Inv X pins σ H s->RelV x v->r x H Q->
  wpAny (model X.prog X.w) X.A (truthy v) (TP X pins σ Q) X.xe s
def WL(r:R2)(ta tb:TE):TE:=fun σ H Q=>ta σ H fun x H1=>tb σ H1 fun y H2=>r x y H2 Q
def tUn(r:V->Hp->VK->Prop)(ta:TE):TE:=fun σ H Q=>ta σ H fun x H1=>r x H1 Q
def rI(C:Int->Int->Prop)(g:Int->Int->V):R2:=fun x y H Q=>∃i j,x=.int i/\y=.int j/\C i j/\Q (g i j) H
def rI0(g:Int->Int->V):R2:=fun x y H Q=>∃i j,x=.int i/\y=.int j/\Q (g i j) H
def rU(g:Int->V):V->Hp->VK->Prop:=fun x H Q=>∃i,x=.int i/\Q (g i) H
section
variable{X:Cx}{a b c:Expr}{ta tb tc:TE}{pos:Pos}
theorem ash(ha:PE X a ta)(hb:PE X b tb){pins:List (Addr×Obj)}{s:Shared}{σ:St}{H:Hp}{R:V->V->Hp->Prop}(I:Inv X pins σ H s)
 (h:ta σ H fun x H1=>tb σ H1 fun y H2=>R x y H2) {Q:Value->Shared->Prop} {f:Value->Value->Sem Value}
 (hf:∀v u s2 x y H2,Inv X pins σ H2 s2->RelV x v->RelV y u->R x y H2->wpAny (model X.prog X.w) X.A (f v u) Q X.xe s2) :
 wpAny (model X.prog X.w) X.A (eval a X.env) (fun v s₁=>wpAny (model X.prog X.w) X.A (eval b X.env) (fun u s₂=>wpAny (model X.prog X.w) X.A (f v u) Q X.xe s₂) X.xe s₁) X.xe s:=by
 refine gC (ha pins s σ H _ I h) fun v s1 hz=>kW hz fun x H1 I1 r1 q1=>?_
 refine gC (hb pins s1 σ H1 _ I1 q1) fun u s2 hz=>kW hz fun y H2 I2 r2 q2=>?_
 exact hf v u s2 x y H2 I2 r1 r2 q2
theorem bF{op:Operator}{r:R2}(ho:Ws X (binaryOp op) r)(ha:PE X a ta)(hb:PE X b tb):PE X (.BinOp a op b pos) (WL r ta tb):=by
 intro pins s σ H Q I h
 exact wpAny_BinOp (ash ha hb I h fun v u s2 x y H2 I2 rx ry q=>ho pins s2 σ H2 x y v u Q I2 rx ry q)
theorem RX{op:UnaryOp}{r:V->Hp->VK->Prop}(ho:UnR X (unaryOp op) r)(ha:PE X a ta):PE X (.UnaryOp op a pos) (tUn r ta):=by
 intro pins s σ H Q I h
 exact UnaryOp_ (gC (ha pins s σ H _ I h) fun v s1 hz=>kW hz fun x H1 I1 r1 q1=>ho pins s1 σ H1 x v Q I1 r1 q1)
theorem opI{f:Value->Value->Sem Value}{C:Int->Int->Prop}{g:Int->Int->Int}
 (rule:∀(i j:Int) (t u:Tok) (s:Shared) (Q:Value->Shared->Prop) (E:Value->Shared->Prop),C i j->Q (.int (g i j) s.toks) {s with toks:=s.toks+1}->wpAny (model X.prog X.w) X.A (f (.int i t) (.int j u)) Q E s) :
 Ws X f (rI C fun i j=>.int (g i j)):=by
 intro pins s σ H x y v u Q I rx ry h
 obtain⟨i,j,rfl,rfl,hc,q⟩:=h
 obtain⟨t,rfl⟩:=rx
 obtain⟨t',rfl⟩:=ry
 exact rule i j t t' s _ _ hc ⟨.int (g i j),H,I.tok _,⟨_,rfl⟩,q⟩
theorem av0{f:Value->Value->Sem Value}{g:Int->Int->Int}
 (rule:∀(i j:Int) (t u:Tok) (s:Shared) (Q:Value->Shared->Prop) (E:Value->Shared->Prop),Q (.int (g i j) s.toks) {s with toks:=s.toks+1}->wpAny (model X.prog X.w) X.A (f (.int i t) (.int j u)) Q E s) :
 Ws X f (rI0 fun i j=>.int (g i j)):=by
 intro pins s σ H x y v u Q I rx ry h
 obtain⟨i,j,rfl,rfl,q⟩:=h
 obtain⟨t,rfl⟩:=rx
 obtain⟨t',rfl⟩:=ry
 exact rule i j t t' s _ _ ⟨.int (g i j),H,I.tok _,⟨_,rfl⟩,q⟩
theorem asi{f:Value->Value->Sem Value}{g:Int->Int->Bool}
 (rule:∀(i j:Int) (t u:Tok) (s:Shared) (Q:Value->Shared->Prop) (E:Value->Shared->Prop),Q (.bool (g i j)) s->wpAny (model X.prog X.w) X.A (f (.int i t) (.int j u)) Q E s) :
 Ws X f (rI0 fun i j=>.bl (g i j)):=by
 intro pins s σ H x y v u Q I rx ry h
 obtain⟨i,j,rfl,rfl,q⟩:=h
 obtain⟨t,rfl⟩:=rx
 obtain⟨t',rfl⟩:=ry
 exact rule i j t t' s _ _ ⟨.bl (g i j),H,I,rfl,q⟩
def av1(i j:Int):Prop:=0<j/\j<1073741824
def azc(i j:Int):Prop:=0<=j/\j<=1000000/\i.natAbs<2 ^ 64
def al7(i j:Int):Prop:=(-(2 ^ 64)<i/\i<2 ^ 64)\/(-(2 ^ 64)<j/\j<2 ^ 64)
theorem al7.ok{i j:Int}(h:al7 i j):IntMulOk i j:=by
 rcases h with ⟨h1,h2⟩ | ⟨h1,h2⟩
 ·exact .of_left (intBits_le_64 h1 h2)
 ·exact .of_right (intBits_le_64 h1 h2)
theorem jP:Ws X (binaryOp .Add) (rI0 fun i j=>.int (i+j)):=av0 fun _ _ _ _ _ _ _ q=>add_int q
theorem JG:Ws X (binaryOp .Sub) (rI0 fun i j=>.int (i - j)):=av0 fun _ _ _ _ _ _ _ q=>sub_int q
theorem zL:Ws X (binaryOp .Mult) (rI al7 fun i j=>.int (i*j)):=opI fun _ _ _ _ _ _ _ hc q=>mul_int q hc.ok
theorem jH:Ws X (binaryOp .FloorDiv) (rI av1 fun i j=>.int (i / j)):=opI fun i j _ _ _ _ _ hc q=>by
 have h1:(0:Int)<j:=hc.1
 have h2:j<1073741824:=hc.2
 exact floordiv_int (by lia) (by rw[Int.fdiv_eq_ediv_of_nonneg i (by lia)];exact q) (.inl (PyProof.noPylong_small (by lia)))
theorem fK:Ws X (binaryOp .Mod) (rI (fun _ j=>0<j) fun i j=>.int (i % j)):=opI fun i j _ _ _ _ _ hc q=>by
 have h1:(0:Int)<j:=hc
 exact mod_int' (by lia) (by rw[Int.fmod_eq_emod_of_nonneg i (by lia)];exact q)
theorem acM:Ws X (binaryOp .Pow) (rI azc fun i j=>.int (i ^ j.toNat)):=opI fun _ _ _ _ _ _ _ hc q=>pow_int_small hc.1 hc.2.1 hc.2.2 q
theorem unI{f:Value->Sem Value}{g:Int->Int}
 (rule:∀(i:Int) (t:Tok) (s:Shared) (Q:Value->Shared->Prop) (E:Value->Shared->Prop),Q (.int (g i) s.toks) {s with toks:=s.toks+1}->wpAny (model X.prog X.w) X.A (f (.int i t)) Q E s) :
 UnR X f (rU fun i=>.int (g i)):=by
 intro pins s σ H x v Q I rx h
 obtain⟨i,rfl,q⟩:=h
 obtain⟨t,rfl⟩:=rx
 exact rule i t s _ _ ⟨.int (g i),H,I.tok _,⟨_,rfl⟩,q⟩
theorem Er:UnR X (unaryOp .USub) (rU fun i=>.int (-i)):=unI fun _ _ _ _ _ q=>neg_int q
end
def asj:V->V->Bool
 | .non,.non=>true | .non,.int _=>true | .int _,.non=>true | .non,.bl _=>true | .bl _,.non=>true | .non,.str _=>true | .str _,.non=>true
 | .int _,.int _=>true | .bl _,.bl _=>true | .str _,.str _=>true | .byt _,.byt _=>true
 | .int _,.str _=>true | .str _,.int _=>true | .bl _,.str _=>true | .str _,.bl _=>true
 | _,_=>false
def rEq:R2:=fun x y H Q=>asj x y=true/\Q (.bl (decide (x=y))) H
def rNe:R2:=fun x y H Q=>asj x y=true/\Q (.bl (!decide (x=y))) H
theorem aju{i j:Int}:decide (V.int i=V.int j)=(i == j):=by
 rw[Bool.eq_iff_iff]
 simp
theorem al8{i j:Bool}:decide (V.bl i=V.bl j)=(i == j):=by
 rw[Bool.eq_iff_iff]
 simp
theorem ajv{i j:Str}:decide (V.str i=V.str j)=(i == j):=by
 rw[Bool.eq_iff_iff]
 simp
theorem ajw{i j:Array UInt8}:decide (V.byt i=V.byt j)=(i.toList == j.toList):=by
 rw[Bool.eq_iff_iff]
 cases i
 cases j
 simp
section
variable{X:Cx}{a b c:Expr}{ta tb tc:TE}{pos:Pos}
theorem eN{pins:List (Addr×Obj)}{σ:St}{H:Hp}{s:Shared}{Q:VK}{k k':Bool}(I:Inv X pins σ H s)(q:Q (.bl k) H)(e:k=k'):EP X pins σ Q (.bool k') s:=by
 subst e
 exact⟨.bl k,H,I,rfl,q⟩
theorem cQ:Ws X (compareOp .Eq) rEq:=by
 intro pins s σ H x y v u Q I rx ry h
 obtain⟨hs,q⟩:=h
 cases x with
 | non =>
   cases rx
   cases y with
   | non=>cases ry;exact PySem.EqNone.eq_none_none (eN I q (by simp))
   | bl j=>cases ry;exact PySem.EqNone.eq_none_bool (eN I q (by simp))
   | int j=>obtain⟨t',rfl⟩:=ry;exact PySem.EqNone.eq_none_int (eN I q (by simp))
   | str j=>obtain⟨t',rfl⟩:=ry;exact PySem.EqNone.eq_none_str (eN I q (by simp))
   | _=>exact absurd (show false=true from hs) Bool.false_ne_true
 | bl i =>
   cases rx
   cases y with
   | non=>cases ry;exact PySem.EqNone.eq_bool_none (eN I q (by simp))
   | bl j=>cases ry;exact eq_bool (eN I q al8)
   | str j=>obtain⟨t',rfl⟩:=ry;exact PySem.EqMixed.eq_bool_str (eN I q (by simp))
   | _=>exact absurd (show false=true from hs) Bool.false_ne_true
 | int i =>
   obtain⟨t,rfl⟩:=rx
   cases y with
   | non=>cases ry;exact PySem.EqNone.eq_int_none (eN I q (by simp))
   | int j=>obtain⟨t',rfl⟩:=ry;exact eq_int (eN I q aju)
   | str j=>obtain⟨t',rfl⟩:=ry;exact PySem.EqMixed.eq_int_str (eN I q (by simp))
   | _=>exact absurd (show false=true from hs) Bool.false_ne_true
 | str i =>
   obtain⟨t,rfl⟩:=rx
   cases y with
   | non=>cases ry;exact PySem.EqNone.eq_str_none (eN I q (by simp))
   | bl j=>cases ry;exact PySem.EqMixed.eq_str_bool (eN I q (by simp))
   | int j=>obtain⟨t',rfl⟩:=ry;exact PySem.EqMixed.eq_str_int (eN I q (by simp))
   | str j=>obtain⟨t',rfl⟩:=ry;exact eq_str (eN I q ajv)
   | _=>exact absurd (show false=true from hs) Bool.false_ne_true
 | byt i =>
   obtain⟨t,rfl⟩:=rx
   cases y with
   | byt j=>obtain⟨t',rfl⟩:=ry;exact PySem.W.eq_bytes (eN I q ajw)
   | _=>exact absurd (show false=true from hs) Bool.false_ne_true
 | _=>cases y<;>exact absurd (show false=true from hs) Bool.false_ne_true
theorem tZ:Ws X (compareOp .NotEq) rNe:=by
 intro pins s σ H x y v u Q I rx ry h
 obtain⟨hs,q⟩:=h
 cases x with
 | non =>
   cases rx
   cases y with
   | non=>cases ry;exact PySem.EqNone.ne_none_none (eN I q (by simp))
   | bl j=>cases ry;exact PySem.EqNone.ne_none_bool (eN I q (by simp))
   | int j=>obtain⟨t',rfl⟩:=ry;exact PySem.EqNone.ne_none_int (eN I q (by simp))
   | str j=>obtain⟨t',rfl⟩:=ry;exact PySem.EqNone.ne_none_str (eN I q (by simp))
   | _=>exact absurd (show false=true from hs) Bool.false_ne_true
 | bl i =>
   cases rx
   cases y with
   | non=>cases ry;exact PySem.EqNone.ne_bool_none (eN I q (by simp))
   | bl j=>cases ry;exact ne_bool (eN I q (congrArg not al8))
   | str j=>obtain⟨t',rfl⟩:=ry;exact PySem.EqMixed.ne_bool_str (eN I q (by simp))
   | _=>exact absurd (show false=true from hs) Bool.false_ne_true
 | int i =>
   obtain⟨t,rfl⟩:=rx
   cases y with
   | non=>cases ry;exact PySem.EqNone.ne_int_none (eN I q (by simp))
   | int j=>obtain⟨t',rfl⟩:=ry;exact ne_int (eN I q (congrArg not aju))
   | str j=>obtain⟨t',rfl⟩:=ry;exact PySem.EqMixed.ne_int_str (eN I q (by simp))
   | _=>exact absurd (show false=true from hs) Bool.false_ne_true
 | str i =>
   obtain⟨t,rfl⟩:=rx
   cases y with
   | non=>cases ry;exact PySem.EqNone.ne_str_none (eN I q (by simp))
   | bl j=>cases ry;exact PySem.EqMixed.ne_str_bool (eN I q (by simp))
   | int j=>obtain⟨t',rfl⟩:=ry;exact PySem.EqMixed.ne_str_int (eN I q (by simp))
   | str j=>obtain⟨t',rfl⟩:=ry;exact ne_str (eN I q (congrArg not ajv))
   | _=>exact absurd (show false=true from hs) Bool.false_ne_true
 | byt i =>
   obtain⟨t,rfl⟩:=rx
   cases y with
   | byt j=>obtain⟨t',rfl⟩:=ry;exact PySem.W.ne_bytes (eN I q (congrArg not ajw))
   | _=>exact absurd (show false=true from hs) Bool.false_ne_true
 | _=>cases y<;>exact absurd (show false=true from hs) Bool.false_ne_true
theorem RZ:Ws X (compareOp .Lt) (rI0 fun i j=>.bl (decide (i<j))):=asi fun _ _ _ _ _ _ _ q=>lt_int q
theorem ark:Ws X (compareOp .Gt) (rI0 fun i j=>.bl (decide (j<i))):=asi fun _ _ _ _ _ _ _ q=>gt_int q
theorem Ls:Ws X (compareOp .GtE) (rI0 fun i j=>.bl (decide (j<=i))):=asi fun _ _ _ _ _ _ _ q=>ge_int q
theorem aW(b:Expr){op:CmpOp}(h:op≠.In:=by decide)(h2:op≠.NotIn:=by decide):behindInMarks op b=false:=by
 have e1:(op == CmpOp.In)=false:=by cases op<;>first | rfl | exact absurd rfl h
 have e2:(op == CmpOp.NotIn)=false:=by cases op<;>first | rfl | exact absurd rfl h2
 cases b<;>simp[behindInMarks,e1,e2]
theorem mV{op:CmpOp}{r:R2}(ho:Ws X (compareOp op) r)(ha:PE X a ta)(hb:PE X b tb)(hm:behindInMarks op b=false):PE X (.Compare a [op] [b] pos) (WL r ta tb):=by
 intro pins s σ H Q I h
 exact wpAny_Compare1 (ash ha hb I h fun v u s2 x y H2 I2 rx ry q=>ho pins s2 σ H2 x y v u Q I2 rx ry q) hm
def afQ(t:TE):TT:=fun σ H Q=>t σ H fun x H'=>∃k,x=.bl k/\Q k H'
theorem aQ{op:CmpOp}{r:R2}(ho:Ws X (compareOp op) r)(ha:PE X a ta)(hb:PE X b tb)(hm:behindInMarks op b=false):PT X (.Compare a [op] [b] pos) (afQ (WL r ta tb)):=by
 intro pins s σ H Q I h
 refine wpAny_isTrue_Compare1 (gC (ha pins s σ H _ I h) fun v s1 hz=>kW hz fun x H1 I1 r1 q1=>gC (hb pins s1 σ H1 _ I1 q1) fun u s2 hz=>kW hz fun y H2 I2 r2 q2 =>
  gC (ho pins s2 σ H2 x y v u _ I2 r1 r2 q2) fun c s3 hz=>kW hz fun z H3 I3 r3 ⟨k,e,q3⟩=>?_) hm
 subst e
 cases r3
 exact wpAny_truthy_bool ⟨H3,I3,q3⟩
def av2(K:PySem.W.Frag)(x:V)(H:Hp)(k:Bool):Prop :=
 match x with
 | .non=>k=false
 | .bl b=>k=b
 | .int i=>k=(i != 0)
 | .str y=>y.length<=sizeLine/\k=((y.length:Int) != 0)
 | .byt y=>y.size<=sizeLine/\k=((y.size:Int) != 0)
 | .ref p=>(∃xs,cz K H p xs/\k = !xs.isEmpty)\/(∃xs,cW K H p xs/\k = !xs.isEmpty)\/∃kvs,H p=some (.dK kvs)/\k = !kvs.isEmpty
 | _=>False
theorem aia{κ:Type}{kvs:List (κ×V)}{vs:List (κ×Value)}(r:KV kvs vs):(!vs.isEmpty) = !kvs.isEmpty:=by
 cases r<;>rfl
theorem WM{xs:List V}{its:List Value}(r:Vals xs its):(!its.toArray.isEmpty) = !xs.isEmpty:=by
 cases r<;>simp
theorem WN:(sizeLine:Nat)<2 ^ 63:=by rw[sizeLine_eq];decide
theorem asl:azb X (fun x H Q=>∃k,av2 X.K x H k/\Q k H):=by
 intro pins s σ H x v Q I rx h
 obtain⟨k,e,q⟩:=h
 have hl:=WN
 have hs:sizeLine=16777216:=sizeLine_eq
 cases x with
 | non =>
   cases rx
   have e':k=false:=e
   subst e'
   exact truthy_none ⟨H,I,q⟩
 | bl b =>
   cases rx
   have e':k=b:=e
   subst e'
   exact wpAny_truthy_bool ⟨H,I,q⟩
 | int i =>
   obtain⟨t,rfl⟩:=rx
   have e':k=(i != 0):=e
   subst e'
   exact PySem.P.truthy_int ⟨H,I,q⟩
 | str y =>
   obtain⟨t,rfl⟩:=rx
   obtain⟨hy,e'⟩:y.length<=sizeLine/\k=((y.length:Int) != 0):=e
   subst e'
   exact PySem.P.truthy_str (by lia) ⟨H,I.tok _,q⟩
 | byt y =>
   obtain⟨t,rfl⟩:=rx
   obtain⟨hy,e'⟩:y.size<=sizeLine/\k=((y.size:Int) != 0):=e
   subst e'
   exact PySem.W.truthy_bytes (by lia) ⟨H,I.tok _,q⟩
 | ref p =>
   cases rx
   have e':(∃xs,cz X.K H p xs/\k = !xs.isEmpty)\/(∃xs,cW X.K H p xs/\k = !xs.isEmpty)\/∃kvs,H p=some (.dK kvs)/\k = !kvs.isEmpty:=e
   rcases e' with ⟨xs,hx,e'⟩ | ⟨xs,hx,e'⟩ | ⟨kvs,hx,e'⟩
   ·subst e'
    obtain⟨its,r,pl,hz⟩:=I.list hx
    have hlen:=r.length
    exact wpAny_truthy_list pl.isList (by simp only[List.size_toArray];lia) ⟨H,I.tok _,by rw[WM r];exact q⟩
   ·subst e'
    obtain⟨its,r,pl,hz⟩:=I.tuple hx
    have hlen:=r.length
    exact truthy_tuple pl (by simp only[List.size_toArray];lia) ⟨H,I.tok _,by rw[WM r];exact q⟩
   ·subst e'
    obtain⟨hz,hS,vs,r,m⟩:kvs.length<=sizeLine/\(p == sysModules)=false/\∃vs,KV kvs vs/\s.heap.DictOf (gY X.prog X.w) p vs:=I.hok p _ hx
    have hlen:kvs.length=vs.length:=Paired.length r
    exact wpAny_truthy_dict hS m (by lia) ⟨H,I.tok _,by rw[aia r];exact q⟩
 | _=>exact(show False from e).elim
theorem Es(ha:PE X a ta)(he:∀whole,isTrue a X.env whole=(do let v <-whole;standAt a.pos;holding [v] (truthy v))) :
 PT X a (fun σ H Q=>ta σ H fun x H'=>∃k,av2 X.K x H' k/\Q k H'):=by
 intro pins s σ H Q I h
 exact isTrue_plain (gC (ha pins s σ H _ I h) fun v s1 hz=>kW hz fun x H1 I1 r1 q1=>asl pins s1 σ H1 x v Q I1 r1 q1) (he _)
theorem aib:Ws X (binaryOp .Add) (fun x y H Q=>∃i j,x=.str i/\y=.str j/\i.length+j.length<=sizeLine/\Q (.str (i++j)) H):=by
 intro pins s σ H x y v u Q I rx ry h
 obtain⟨i,j,rfl,rfl,hz,q⟩:=h
 obtain⟨t,rfl⟩:=rx
 obtain⟨t',rfl⟩:=ry
 exact add_str (fun t' tk=>⟨.str (i++j),H,I.tok _,⟨_,rfl⟩,q⟩) hz
theorem vals1{x:V}{us:List Value}(r:Vals [x] us):∃u,us=[u]/\RelV x u:=by
 cases r with
 | cons r1 r2=>cases r2;exact⟨_,rfl,r1⟩
theorem mq:RW X (.type "int") (fun xs H Q=>(∃i,xs=[.int i]/\Q (.int i) H)\/∃k,xs=[.bl k]/\Q (.int (if k then 1 else 0)) H):=by
 intro pins s σ H xs us Q I r h
 rcases h with ⟨i,rfl,q⟩ | ⟨k,rfl,q⟩
 ·obtain⟨u,rfl,t,rfl⟩:=vals1 r
  exact call_int_int ⟨.int i,H,I,⟨_,rfl⟩,q⟩
 ·obtain⟨u,rfl,r1⟩:=vals1 r
  cases r1
  exact call_int_bool ⟨.int (if k then 1 else 0),H,I.tok _,⟨_,rfl⟩,q⟩
end
end L2
namespace L2
open PySem PySem.Spec PyProof.Rows
structure aic(h:Heap)(x dx C:Addr)(mA:Str->Option Value):Prop where
 obj:h.get? x=some (PySem.W.instObj C dx)
 ns:h.Ns1 dx mA
 ne:dx≠x
theorem akI{h:Heap}{dx:Addr}{mA:Str->Option Value}(n:h.Ns1 dx mA):∃od,h.get? dx=some od/\∀name,PySem.W.lookIn name od=some (mA name):=by
 obtain⟨o,es,ep,ho,hd,hk,_,hm⟩:=n
 refine⟨o,ho,fun name=>?_⟩
 have e:=hm name
 unfold nsFind findBy at e
 rw[<-Array.find?_toList]at e
 unfold PySem.W.lookIn
 rw[hd]
 dsimp only
 split
 ·rename_i y q
  rw[q]at e
  exact congrArg some e
 ·rename_i q
  rw[q]at e
  have a:es.toList.any (·.refKey)=false:=by
   rw[List.any_eq_false]
   intro y hy
   obtain⟨z,t,hkey⟩:=hk y (Array.mem_toList_iff.mp hy)
   simp[DictEntry.refKey,hkey]
  have a':¬es.toList.any (·.refKey)=true:=by rw[a];exact Bool.false_ne_true
  rw[if_neg a']
  exact congrArg some e
theorem aic.look{h:Heap}{x dx C:Addr}{mA:Str->Option Value}(I:aic h x dx C mA):∃od,PySem.W.InstAt h x (PySem.W.instObj C dx) C (some od)/\∀name,PySem.W.lookIn name od=some (mA name) :=
 let ⟨od,ho,hl⟩:=akI I.ns
 ⟨od,⟨I.obj,rfl,rfl,ho⟩,hl⟩
section
variable{prog:Program}{w:World}{A:Around}{E:Value->Shared->Prop}{s:Shared}{K:PySem.W.Frag}{x dx C f:Addr}{mA:Str->Option Value}{name:Str}{v:Value}
theorem get_map{expr:Bool}{Q:Value->Shared->Prop}(X:K.In s.heap)(I:aic s.heap x dx C mA)(hg:PySem.W.plainGet K C name=true)(hh:PySem.W.hasDictIn K C=true)
 (ha:PySem.W.findIn K (.ref C) name=some none) (hv:mA name=some v) (hv':PySem.W.handedIn v=true) (h:Q v {s with toks:=s.toks+1}) :
 wpAny (model prog w) A (getAttr (.ref x) name expr) Q E s:=by
 obtain⟨od,J,hl⟩:=I.look
 exact PySem.W.get_value X J (PySem.W.plainGet_of hg).1 (PySem.W.findObj_own hh ha rfl (by rw[hl,hv])) hv' h
theorem al9{pl:Sem Bool}{Q:Value×List Value->Shared->Prop}(X:K.In s.heap)(I:aic s.heap x dx C mA)(hg:PySem.W.plainGet K C name=true)
 (hf:PySem.W.findIn K (.ref C) name=some (some (.ref f))) (ht:PySem.W.isFn K (.ref f)=true) (hv:mA name=none) (h:Q (.ref f,[.ref x]) s) :
 wpAny (model prog w) A (getMethod (.ref x) name pl) Q E s:=by
 obtain⟨od,J,hl⟩:=I.look
 exact PySem.W.method_fn X J (PySem.W.plainGet_of hg).1 (PySem.W.plainGet_of hg).2 hf (beq_iff_eq.mp ht) (by show(PySem.W.lookIn name od).map (·.isSome)=some false;rw[hl,hv];rfl) h
theorem aoL{ns:List Str}{Q:Unit->Shared->Prop}(X:K.In s.heap)(I:aic s.heap x dx C mA)
 (hs:PySem.W.findIn K (.ref C) "__setattr__"=some (some (.builtin "object.__setattr__"))) (hp:PySem.W.plainOver K C=true) (ht:PySem.W.takerIn K C name=some none) (hh:PySem.W.hasDictIn K C=true)
 (hw:PySem.Within mA ns) (hsz:ns.length<=sizeLine)
 (h:∀h',aic h' x dx C (fun y=>if y=name then some v else mA y)->Heap.SameBut dx s.heap h'->Q () {s with heap:=h',toks:=s.toks+2}) :
 wpAny (model prog w) A (setAttr (.ref x) name v) Q E s:=by
 obtain⟨od,J,hl⟩:=I.look
 refine PySem.W.set_plain X J hs (PySem.W.osa_open (s:={s with toks:=s.toks+1}) (r:=none) X J hp ht fun b=>?_)
 obtain⟨cd,hc,hd'⟩:=PySem.W.any_some hh
 have hx:s.heap.get? x=some ⟨.ref C,some dx,.plain,#[]⟩:=I.obj
 refine wpAny_bind (wpAny_pure (wpAny_bind (wpAny_bind (wpAny_loadPart hx (wpAny_bind (PySem.W.Looks.here (s:={s with toks:=s.toks+1}) (PySem.W.looks_clsIn X hc) ?_))))))
 rw[hd']
 refine wpAny_pure (a:=some dx) (wpAny_bind (wpAny_pure (wpAny_bind ?_)))
 refine wpAny_nsSet1 (s:={s with toks:=s.toks+1}) I.ns fun h' hn2 hs2=>?_
 obtain⟨oD,esD,epD,hoD,hdD,hcD⟩:=hn2.count (PySem.Within.cons name v hw)
 refine wpAny_bind (wpAny_lookBehind hoD (by rw[hdD];exact pastItsLine_dict (Nat.le_trans hcD (by rw[List.length_cons];lia))) ?_)
 exact wpAny_pure (h _ ⟨(hs2.2 _ (Ne.symm I.ne)).trans I.obj,hn2,I.ne⟩ hs2)
theorem ama{R:Result->Shared->Prop}{vs:List Value}{kw:List (Str×Value)}(X:K.In s.heap)(hm:PySem.W.makesIn K C=true)
 (hi:PySem.W.findIn K (.ref C) "__init__"=some (some (.ref f))) (hf:PySem.W.typeIn K (.ref f)=some (.type "function"))
 (h:codeAny (model prog w) (A.under (.builtin "type.__call__" ⟨.ref C::vs,kw⟩)) (.call (.ref f) ⟨.ref (s.heap.objs.size+1)::vs,kw⟩) (PySem.W.InitBack (s.heap.objs.size+1) R)
   {s with heap:=(s.heap.push PySem.W.emptyDict).push (PySem.W.instObj C s.heap.objs.size)}) :
 codeAny (model prog w) A (.call (.ref C) ⟨vs,kw⟩) R s:=by
 obtain⟨hh,g,d,t,os⟩:=s
 exact PySem.W.make_core (PySem.W.makes_of X hm) (PySem.W.looks_findIn X hi) (fun self=>PySem.W.bind_fn X self hf) (.inl rfl) h
end
def gh(f:Str)(v:V):List (Str×V)->List (Str×V)
 | []=>[(f,v)]
 | (g,x)::r=>if g=f then(g,v)::r else(g,x)::gh f v r
theorem jQ(f g:Str)(v:V):∀fs:List (Str×V),(gh f v fs).lookup g=if g=f then some v else fs.lookup g
 | []=>by
   show List.lookup g [(f,v)]=_
   by_cases h:g=f
   ·have hb:(g == f)=true:=beq_iff_eq.mpr h
    simp only[List.lookup,hb,if_pos h]
   ·have hb:(g == f)=false:=beq_eq_false_iff_ne.mpr h
    simp only[List.lookup,hb,if_neg h]
 | (k,x)::r=>by
   have ih:=jQ f g v r
   rw[show gh f v ((k,x)::r)=(if k=f then(k,v)::r else(k,x)::gh f v r)from rfl]
   by_cases hk:k=f
   ·rw[if_pos hk]
    by_cases h:g=k
    ·have hb:(g == k)=true:=beq_iff_eq.mpr h
     simp only[List.lookup,hb,if_pos (h.trans hk)]
    ·have hb:(g == k)=false:=beq_eq_false_iff_ne.mpr h
     simp only[List.lookup,hb,if_neg (fun e:g=f=>h (e.trans hk.symm))]
   ·rw[if_neg hk]
    by_cases h:g=k
    ·have hb:(g == k)=true:=beq_iff_eq.mpr h
     simp only[List.lookup,hb,if_neg (fun e:g=f=>hk (h.symm.trans e))]
    ·have hb:(g == k)=false:=beq_eq_false_iff_ne.mpr h
     simp only[List.lookup,hb]
     exact ih
theorem Qo(f:Str)(v:V):∀fs:List (Str×V),f∈(gh f v fs).map (·.1)/\∀g,g∈fs.map (·.1)->g∈(gh f v fs).map (·.1)
 | []=>⟨by simp[gh],fun g h=>by simp at h⟩
 | (k,x)::r=>by
   obtain⟨i1,i2⟩:=Qo f v r
   rw[show gh f v ((k,x)::r)=(if k=f then(k,v)::r else(k,x)::gh f v r)from rfl]
   by_cases hk:k=f
   ·rw[if_pos hk]
    subst hk
    exact⟨by simp,fun g h=>by simpa using h⟩
   ·rw[if_neg hk]
    refine⟨?_,fun g h=>?_⟩
    ·rw[List.map_cons]
     exact List.mem_cons_of_mem _ i1
    ·rw[List.map_cons]at h ⊢
     rcases List.mem_cons.mp h with e | e
     ·exact List.mem_cons.mpr (.inl e)
     ·exact List.mem_cons_of_mem _ (i2 g e)
theorem R0(f:Str)(v:V):∀fs:List (Str×V),(gh f v fs).length<=fs.length+1
 | []=>by simp[gh]
 | (k,x)::r=>by
   have ih:=R0 f v r
   rw[show gh f v ((k,x)::r)=(if k=f then(k,v)::r else(k,x)::gh f v r)from rfl]
   by_cases hk:k=f
   ·rw[if_pos hk,List.length_cons,List.length_cons];lia
   ·rw[if_neg hk,List.length_cons,List.length_cons];lia
theorem Dc.some_of{v:V}{o:Option Value}(r:Dc (some v) o):∃u,o=some u/\RelV v u:=by
 cases o with
 | none=>exact(show False from r).elim
 | some u=>exact⟨u,rfl,r⟩
theorem Dc.none_of{o:Option Value}(r:Dc none o):o=none:=by
 cases o with
 | none=>rfl
 | some u=>exact(show False from r).elim
theorem akJ{v:V}{u:Value}(r:RelV v u):PySem.W.handedIn u=true:=by
 cases v with
 | non=>cases (show u=Value.none from r);rfl
 | bl b=>cases (show u=Value.bool b from r);rfl
 | int i=>obtain⟨t,e⟩:=(show ∃t,u=Value.int i t from r);cases e;rfl
 | str x=>obtain⟨t,e⟩:=(show ∃t,u=Value.str x t from r);cases e;rfl
 | byt b=>obtain⟨t,e⟩:=(show ∃t,u=Value.bytes b t from r);cases e;rfl
 | flt b=>obtain⟨t,e⟩:=(show ∃t,u=Value.float b t from r);cases e;rfl
 | ref a=>cases (show u=Value.ref a from r);rfl
 | ty n=>cases (show u=Value.type n from r);rfl
section
variable{P:Program}{w:World}{H H':Hp}{h h':Heap}{a C dx:Addr}{fs fs':List (Str×V)}
theorem Lw(hok:HY P w H h)(e:H a=some (.ins C dx fs)):∃mA,aic h a dx C mA/\(∀f,Dc (fs.lookup f) (mA f))/\PySem.Within mA (fs.map (·.1))/\fs.length<=1000/\H dx=some (.own a):=by
 obtain⟨d,z,ne,ob,mA,n,r,q⟩:=(show fO P w H h a (.ins C dx fs)from hok a _ e)
 exact⟨mA,⟨ob,n,ne⟩,r,q,z,d⟩
end
structure Cls(K:PySem.W.Frag)(C:Addr):Prop where
 pg:PySem.W.plainGet K C Str.empty=true
 hd:PySem.W.hasDictIn K C=true
 po:PySem.W.plainOver K C=true
 sa:PySem.W.findIn K (.ref C) "__setattr__"=some (some (.builtin "object.__setattr__"))
theorem Cls.get{K:PySem.W.Frag}{C:Addr}(c:Cls K C)(f:Str):PySem.W.plainGet K C f=true:=c.pg
def g8(K:PySem.W.Frag)(C:Addr)(f:Str):Prop:=PySem.W.findIn K (.ref C) f=some none
theorem g8.taker{K:PySem.W.Frag}{C:Addr}{f:Str}(n:g8 K C f):PySem.W.takerIn K C f=some none:=by
 unfold PySem.W.takerIn
 rw[show PySem.W.findIn K (.ref C) f=some none from n]
 rfl
structure Meth(K:PySem.W.Frag)(C:Addr)(m:Str)(f:Addr):Prop where
 at_:PySem.W.findIn K (.ref C) m=some (some (.ref f))
 fn:PySem.W.isFn K (.ref f)=true
 kp:PySem.W.keepIn K (.ref f)=true
section
variable{X:Cx}{pins:List (Addr×Obj)}{σ:St}{H:Hp}{s:Shared}{a C dx:Addr}{fs:List (Str×V)}{f:Str}{v:V}{A:Around}{E:Value->Shared->Prop}
theorem WQ{b:Bool}{Q:Value->Shared->Prop}(I:Inv X pins σ H s)(e:H a=some (.ins C dx fs))(c:Cls X.K C)(n:g8 X.K C f)(l:fs.lookup f=some v)
 (h:∀u s',Inv X pins σ H s'->RelV v u->Q u s'):wpAny (model X.prog X.w) A (getAttr (.ref a) f b) Q E s:=by
 obtain⟨mA,O,r,_,_,_⟩:=Lw I.hok e
 obtain⟨u,hu,ru⟩:=Dc.some_of (v:=v) (o:=mA f) (by rw[<-l];exact r f)
 exact get_map I.yg O (c.get f) c.hd n hu (akJ ru) (h u _ (I.tok _) ru)
theorem JH{m:Str}{g:Addr}{pl:Sem Bool}{Q:Value×List Value->Shared->Prop}(I:Inv X pins σ H s)(e:H a=some (.ins C dx fs))(c:Cls X.K C)(k:Meth X.K C m g)(l:fs.lookup m=none)
 (h:Q (.ref g,[.ref a]) s):wpAny (model X.prog X.w) A (getMethod (.ref a) m pl) Q E s:=by
 obtain⟨mA,O,r,_,_,_⟩:=Lw I.hok e
 have hn:mA m=none:=Dc.none_of (by rw[<-l];exact r m)
 exact al9 I.yg O (c.get m) k.at_ k.fn hn h
theorem WR{y:V}{u:Value}{Q:Unit->Shared->Prop}(I:Inv X pins σ H s)(e:H a=some (.ins C dx fs))(c:Cls X.K C)(n:g8 X.K C f)(hl:fs.length<1000)(ry:RelV y u)
 (h:∀s',Inv X pins σ (upd H a (.ins C dx (gh f y fs))) s'->Q () s'):wpAny (model X.prog X.w) A (setAttr (.ref a) f u) Q E s:=by
 obtain⟨mA,O,r,wi,_,ho⟩:=Lw I.hok e
 have hz:(fs.map (·.1)).length<=sizeLine:=by rw[List.length_map,sizeLine_eq];lia
 refine aoL I.yg O c.sa c.po n.taker c.hd wi hz fun h' O' sb=>h _ ?_
 have hd:∃o,h'.get? dx=some o:=let ⟨o,_,_,e',_⟩:=O'.ns;⟨o,e'⟩
 refine I.write (x:=a) (e:=dx) (by rw[e];exact True.intro) (.inr ho) (fun b q hb z=>(sb.2 b hb).trans z) hd ?_
 refine⟨by rw[aq O.ne];exact ho,?_,O.ne,O'.obj,_,O'.ns,fun g=>?_,fun g hg=>?_⟩
 ·have:=R0 f y fs;lia
 ·show Dc ((gh f y fs).lookup g) (if g=f then some u else mA g)
  rw[jQ]
  by_cases q:g=f
  ·rw[if_pos q,if_pos q];exact ry
  ·rw[if_neg q,if_neg q];exact r g
 ·by_cases q:g=f
  ·rw[q];exact(Qo f y fs).1
  ·refine(Qo f y fs).2 g (wi g fun z=>hg ?_)
   show(if g=f then some u else mA g)=none
   rw[if_neg q];exact z
theorem Inv.made(I:Inv X pins σ H s):Inv X pins σ (upd (upd H s.heap.objs.size (.own (s.heap.objs.size+1))) (s.heap.objs.size+1) (.ins C s.heap.objs.size []))
 {s with heap:=(s.heap.push PySem.W.emptyDict).push (PySem.W.instObj C s.heap.objs.size)}:=by
 have e1:(s.heap.push PySem.W.emptyDict).get? s.heap.objs.size=some PySem.W.emptyDict:=Heap.get?_push_size s.heap rfl
 have e2:((s.heap.push PySem.W.emptyDict).push (PySem.W.instObj C s.heap.objs.size)).get? (s.heap.objs.size+1)=some (PySem.W.instObj C s.heap.objs.size):=by
  have:=Heap.get?_push_size (s.heap.push PySem.W.emptyDict) (o:=PySem.W.instObj C s.heap.objs.size) rfl
  rwa[Heap.size_push]at this
 have e3:(s.heap.push PySem.W.emptyDict).Ns s.heap.objs.size (fun _=>none):=⟨PySem.W.emptyDict,#[],_,e1,rfl,(fun e he=>absurd he (by simp)),fun _=>rfl⟩
 have I1:=I.laid (a:=s.heap.objs.size) (o:=.own (s.heap.objs.size+1)) (h':=s.heap.push PySem.W.emptyDict) (t':=s.toks) (fun b u q=>Heap.get?_push_of_some _ q) (Nat.le_refl _) ⟨_,e1⟩
 refine I1.laid (a:=s.heap.objs.size+1) (o:=.ins C s.heap.objs.size []) (t':=s.toks) (fun b u q=>Heap.get?_push_of_some _ q) (Nat.le_of_eq (Heap.size_push _ _)) ?_
 have ne:s.heap.objs.size≠s.heap.objs.size+1:=Nat.ne_of_lt (Nat.lt_succ_self _)
 refine⟨by rw[aq ne,aj],Nat.zero_le _,ne,e2,fun _=>none,(Heap.Ns1.of_empty e3).at fun o q=>Heap.get?_push_of_some _ q,fun _=>True.intro,fun y hy=>absurd rfl hy⟩
theorem aoM{prog:Program}{w:World}{env:Env}{e:Expr}{f:Str}{pos:Pos}{s:Shared}{Q:Value->Shared->Prop}(hb:attributeBase e f env (eval e env)=eval e env)
 (h:wpAny (model prog w) A (eval e env) (fun o s₁=>wpAny (model prog w) A (getAttr o f true) Q E s₁) E s):wpAny (model prog w) A (eval (.Attribute e f pos) env) Q E s :=
 Attribute_any_ h (by rw[arm_eval_Attribute,hb])
end
def acN(K:PySem.W.Frag)(ta:TE)(f:Str):TE:=fun σ H Q=>ta σ H fun x H1=>∃a C dx fs v,x=.ref a/\H1 a=some (.ins C dx fs)/\Cls K C/\g8 K C f/\fs.lookup f=some v/\Q v H1
def aze(K:PySem.W.Frag)(ta tv:TE)(f:Str):TS:=fun D σ H=>tv σ H fun y H1=>ta σ H1 fun x H2=>∃a C dx fs,x=.ref a/\H2 a=some (.ins C dx fs)/\Cls K C/\g8 K C f/\fs.length<1000/\
 D.nx σ (upd H2 a (.ins C dx (gh f y fs)))
def av3(X:Cx)(op:Operator)(rd:V->V->Hp->VK->Prop):Prop :=
 ∀(pins:List (Addr×Obj)) (s:Shared) (σ:St) (H:Hp) (x y:V) (u v:Value) (Q:VK),Inv X pins σ H s->RelV x u->RelV y v->rd x y H Q->wpAny (model X.prog X.w) X.A (inplaceOp op u v) (EP X pins σ Q) X.xe s
def aoN(K:PySem.W.Frag)(ta tv:TE)(rd:V->V->Hp->VK->Prop)(f:Str):TS:=fun D σ H=>ta σ H fun x H1=>∃a C dx fs v,x=.ref a/\H1 a=some (.ins C dx fs)/\Cls K C/\g8 K C f/\fs.lookup f=some v/\
 tv σ H1 fun y H2=>rd v y H2 fun z H3=>∃dx' fs',H3 a=some (.ins C dx' fs')/\fs'.length<1000/\D.nx σ (upd H3 a (.ins C dx' (gh f z fs')))
section
variable{X:Cx}{o e value:Expr}{f:Str}{pos pos' tpos:Pos}{ta tv:TE}
theorem cL(he:PE X e ta)(hb:attributeBase e f X.env (eval e X.env)=eval e X.env):PE X (.Attribute e f pos) (acN X.K ta f):=by
 intro pins s σ H Q I h
 refine aoM hb (gC (he pins s σ H _ I h) fun u s1 hz=>kW hz fun x H1 I1 rx ⟨a,C,dx,fs,v,ex,ea,c,n,l,q⟩=>?_)
 subst ex
 obtain rfl:u=Value.ref a:=rx
 exact WQ I1 ea c n l fun u' s2 I2 ru=>⟨v,H1,I2,ru,q⟩
theorem gk(ha:PE X o ta)(hv:PE X value tv)(hs:swapsWith value (some (.Attribute o f pos')) pos.line X.env=pure false):PS X (.Assign [.Attribute o f pos'] value pos) (aze X.K ta tv f):=by
 intro pins s σ H D I h
 refine plainObj_wpAny_Assign_Attribute (gC (hv pins s σ H _ I h) fun u s1 hz=>kW hz fun y H1 I1 ry q=>gC (ha pins s1 σ H1 _ I1 q) fun ov s2 hz=>kW hz fun x H2 I2 rx ⟨a,C,dx,fs,ex,ea,c,n,l,q2⟩=>?_) hs
 subst ex
 obtain rfl:ov=Value.ref a:=rx
 exact WR I2 ea c n l ry fun s3 I3=>⟨σ,_,I3,q2⟩
theorem akK{op:Operator}{rd:V->V->Hp->VK->Prop}(ha:PE X o ta)(hv:PE X value tv)(hop:av3 X op rd):PS X (.AugAssign (.Attribute o f tpos) op value pos) (aoN X.K ta tv rd f):=by
 intro pins s σ H D I h
 refine wpAny_AugAssign_AttributeAny (gC (ha pins s σ H _ I h) fun ov s1 hz=>kW hz fun x H1 I1 rx ⟨a,C,dx,fs,v,ex,ea,c,n,l,q⟩=>?_)
 subst ex
 obtain rfl:ov=Value.ref a:=rx
 refine WQ I1 ea c n l fun u s2 I2 ru=>gC (hv pins s2 σ H1 _ I2 q) fun w3 s3 hz=>kW hz fun y H2 I3 ry q3=>gC (hop pins s3 σ H2 v y u w3 _ I3 ru ry q3) fun w4 s4 hz=>kW hz fun z H3 I4 rz ⟨dx',fs',ea',l',q4⟩=>?_
 exact WR I4 ea' c n l' rz fun s5 I5=>⟨σ,_,I5,q4⟩
def azf:V->V->Hp->VK->Prop:=fun x y H Q=>∃i j,x=.int i/\y=.int j/\Q (.int (i - j)) H
theorem asm:av3 X .Sub azf:=by
 rintro pins s σ H x y u v Q I rx ry ⟨i,j,rfl,rfl,q⟩
 obtain⟨t,rfl⟩:=(show ∃t,u=Value.int i t from rx)
 obtain⟨t',rfl⟩:=(show ∃t',v=Value.int j t' from ry)
 exact PyProof.Rows.isub_int ⟨.int (i - j),H,I.tok _,⟨_,rfl⟩,q⟩
end
section
variable{X:Cx}{pins:List (Addr×Obj)}{σ:St}{H:Hp}{s:Shared}{A:Around}{E:Value->Shared->Prop}{Q:Value->Shared->Prop}{c:Value}{b:Bool}
inductive Lx (K:PySem.W.Frag) (H:Hp):V->Value->Prop where
 | non:Lx K H .non (.type "NoneType")
 | bl (x:Bool):Lx K H (.bl x) (.type "bool")
 | int (i:Int):Lx K H (.int i) (.type "int")
 | str (x:Str):Lx K H (.str x) (.type "str")
 | flt (x:UInt64):Lx K H (.flt x) (.type "float")
 | lst {a:Addr} {xs:List V} (e:H a=some (.lst xs)):Lx K H (.ref a) (.type "list")
 | frz {a:Addr} {o:Obj} {xs:List V} (e:H a=some (.frz o (.lst xs))):Lx K H (.ref a) (.type "list")
 | tup {a:Addr} {xs:List V} (e:H a=some (.tup xs)):Lx K H (.ref a) (.type "tuple")
 | dK {a:Addr} {kvs:List (Key×V)} (e:H a=some (.dK kvs)):Lx K H (.ref a) (.type "dict")
 | dT {a:Addr} {kvs:List (List Key×V)} (e:H a=some (.dT kvs)):Lx K H (.ref a) (.type "dict")
 | ins {a C dx:Addr} {fs:List (Str×V)} (e:H a=some (.ins C dx fs)) (cl:Cls K C) (ha:PySem.W.findIn K (.ref C) "__class__"=some (some (.builtin "object.__class__")))
    (hn:PySem.W.specialIn K (.builtin "object.__class__") "__get__"=some (some (.builtin "getset_descriptor.__get__"))) (htk:PySem.W.takesIn K (.builtin "object.__class__")=some true)
    (hm:PySem.W.mroIn K C (.type "object")=some true):Lx K H (.ref a) (.ref C)
theorem akL{x:V}{u t:Value}(I:Inv X pins σ H s)(rx:RelV x u)(ty:Lx X.K H x t)(e:PySem.W.kitOne X.K t c=some b)(h:∀tk,Q (.bool b) {s with toks:=tk}) :
 wpAny (model X.prog X.w) A (call (.builtin "isinstance") [u,c]) Q E s:=by
 cases ty with
 | non=>cases (show u=Value.none from rx);exact PySem.W.kia_one PySem.W.kitx_none I.yg True.intro e (fun z=>nomatch z) h
 | bl y=>cases (show u=Value.bool y from rx);exact PySem.W.kia_one PySem.W.kitx_bool I.yg True.intro e (fun z=>nomatch z) h
 | int i=>obtain⟨t,q⟩:=(show ∃t,u=Value.int i t from rx);cases q;exact PySem.W.kia_one PySem.W.kitx_int I.yg True.intro e (fun z=>nomatch z) h
 | str y=>obtain⟨t,q⟩:=(show ∃t,u=Value.str y t from rx);cases q;exact PySem.W.kia_one PySem.W.kitx_str I.yg True.intro e (fun z=>nomatch z) h
 | flt y=>obtain⟨t,q⟩:=(show ∃t,u=Value.float y t from rx);cases q;exact PySem.W.kia_one PySem.W.kitx_float I.yg True.intro e (fun z=>nomatch z) h
 | @lst a xs ea =>
   cases (show u=Value.ref a from rx)
   obtain⟨_,_,n,_,h1⟩:=(show fO X.prog X.w H s.heap a (.lst xs)from I.hok a _ ea)
   exact PySem.W.kia_one PySem.W.kitx_list I.yg ⟨_,h1,rfl⟩ e (fun z=>nomatch z) h
 | @frz a ob xs ea =>
   cases (show u=Value.ref a from rx)
   obtain⟨_,_,_,n,_,h1⟩:=(show fO X.prog X.w H s.heap a (.frz ob (.lst xs))from I.hok a _ ea)
   exact PySem.W.kia_one PySem.W.kitx_list I.yg ⟨_,h1,rfl⟩ e (fun z=>nomatch z) h
 | @tup a xs ea =>
   cases (show u=Value.ref a from rx)
   obtain⟨_,_,_,p⟩:=(show fO X.prog X.w H s.heap a (.tup xs)from I.hok a _ ea)
   obtain⟨o,h1,h2,_⟩:=p
   exact PySem.W.kia_one PySem.W.kitx_tuple I.yg ⟨o,h1,h2⟩ e (fun z=>nomatch z) h
 | @dK a kvs ea =>
   cases (show u=Value.ref a from rx)
   obtain⟨_,_,vs,_,p⟩:=(show fO X.prog X.w H s.heap a (.dK kvs)from I.hok a _ ea)
   obtain⟨o,es,ep,h1,h2,_⟩:=p
   exact PySem.W.kia_one PySem.W.kitx_dict I.yg ⟨o,h1,h2.1⟩ e (fun z=>nomatch z) h
 | @dT a kvs ea =>
   cases (show u=Value.ref a from rx)
   obtain⟨_,_,xs,_,o,es,ep,h1,h2,_⟩:=(show fO X.prog X.w H s.heap a (.dT kvs)from I.hok a _ ea)
   exact PySem.W.kia_one PySem.W.kitx_dict I.yg ⟨o,h1,h2.1⟩ e (fun z=>nomatch z) h
 | @ins a C dx fs ea cl ha hn htk hm =>
   cases (show u=Value.ref a from rx)
   obtain⟨mA,O,_⟩:=Lw I.hok ea
   obtain⟨od,J,_⟩:=O.look
   exact PySem.W.kia_one (PySem.W.kitx_own (cl.get _) cl.hd ha hn htk hm) I.yg J e (fun z=>nomatch z) h
end
end L2
namespace L2
open PySem PySem.Spec PyProof.Rows
structure bQ(k:Nat)(A:Around):Prop where
 hd:A.handled=none
 dp:A.depth+3*k+5<recursionLimit
 un:A.units+16*k+200<cLine
theorem bQ.mono{j k:Nat}{A:Around}(r:bQ k A)(h:j<=k):bQ j A:=⟨r.hd,by have:=r.dp;lia,by have:=r.un;lia⟩
theorem bQ.deeper{k:Nat}{A:Around}(r:bQ (k+1) A)(env:Env):bQ k (A.deeper env) :=
 ⟨r.hd,by have:=r.dp;show A.depth+1+3*k+5<_;lia,by have:=r.un;show A.units+3+16*k+200<_;lia⟩
theorem aid{A:Around}{C:Addr}{us:List Value}{kw:List (Str×Value)}:(A.under (.builtin "type.__call__" ⟨.ref C::us,kw⟩)).depth=A.depth+1:=by
 first | rfl | simp[Around.under,Code.weight,Code.isCreation,Code.isGuard,Code.isCaller,Code.frames,Code.isFrame,guardIds]
theorem aie{A:Around}{C:Addr}{us:List Value}{kw:List (Str×Value)}:(A.under (.builtin "type.__call__" ⟨.ref C::us,kw⟩)).units=A.units+1:=by
 first | rfl | simp[Around.under,Code.cUnits,Code.frames,Code.isFrame]
theorem bQ.make{k:Nat}{A:Around}(r:bQ (k+1) A)(C:Addr)(us:List Value)(kw:List (Str×Value)):bQ k (A.under (.builtin "type.__call__" ⟨.ref C::us,kw⟩)) :=
 ⟨r.hd,by have:=r.dp;rw[aid];lia,by have:=r.un;rw[aie];lia⟩
theorem bQ.depth{k:Nat}{A:Around}(r:bQ k A):A.depth<recursionLimit:=by have:=r.dp;lia
theorem bQ.units{k:Nat}{A:Around}(r:bQ k A):A.units+64<cLine:=by have:=r.un;lia
theorem bQ.aif{k:Nat}{A:Around}(r:bQ k A):A.units<cLine:=by have:=r.un;lia
def Ia:TA:=fun _ H Q=>Q [] H
def my(ta:TE)(tr:TA):TA:=fun σ H Q=>ta σ H fun x H1=>tr σ H1 fun xs H2=>Q (x::xs) H2
section
variable{X:Cx}{e:Expr}{es:List Expr}{te:TE}{t:TA}{pos:Pos}
theorem ao:PA X [] Ia:=fun _ _ _ _ H Q I h=>Calls.spliced_nil ⟨[],H,I,.nil,h⟩
theorem aa(ha:PE X e te)(hr:PA X es t)(hs:starEach (e::es) X.env=(false,eval e X.env)::starEach es X.env:=by rfl):PA X (e::es) (my te t):=by
 intro pos pins s σ H Q I h
 rw[hs]
 show wpAny _ _ (spliced ((false,eval e X.env)::backTo pos (starEach es X.env))) _ _ s
 refine Calls.spliced_cons (gC (ha pins s σ H _ I h) fun u s1 hz=>kW hz fun x H1 I1 r1 q1=>?_)
 exact gC (hr pos pins s1 σ H1 _ I1 q1) fun us s2 hz=>kW hz fun xs H2 I2 r2 q2=>⟨x::xs,H2,I2,.cons r1 r2,q2⟩
def amb(t:TA):TE:=fun σ H Q=>t σ H fun xs H1=>xs.length<=sizeLine/\∀p,H1 p=none->Q (.ref p) (upd H1 p (.tup xs))
def azg(t:TA):TE:=fun σ H Q=>t σ H fun xs H1=>xs.length<=sizeLine/\∀p,H1 p=none->Q (.ref p) (upd H1 p (.lst xs))
theorem cg{x1}(h:PA X es t):PE X (.Tuple es x1 pos) (amb t):=by
 intro pins s σ H Q I hq
 refine wpAny_Tuple_spliced (gC (h pos pins s σ H _ I hq) fun us s1 hz=>kW hz fun xs H1 I1 r ⟨z,q⟩=>⟨by rw[<-r.length];exact z,?_⟩)
 have hf:H1 s1.heap.objs.size=none:=I1.hok.fresh (Nat.le_refl _)
 refine⟨.ref s1.heap.objs.size,upd H1 s1.heap.objs.size (.tup xs),I1.laid (t':=s1.toks) (fun b u e=>Heap.get?_push_of_some _ e) (Nat.le_refl _) ?_,rfl,q _ hf⟩
 exact⟨z,us,r,⟨_,Heap.get?_push_size _ rfl,rfl,_,rfl⟩⟩
theorem bN(h:PA X es t):PE X (.List es pos) (azg t):=by
 intro pins s σ H Q I hq
 refine wpAny_List_spliced (gC (h pos pins s σ H _ I hq) fun us s1 hz=>kW hz fun xs H1 I1 r ⟨z,q⟩=>⟨by rw[<-r.length];exact z,?_⟩)
 have hf:H1 s1.heap.objs.size=none:=I1.hok.fresh (Nat.le_refl _)
 refine⟨.ref s1.heap.objs.size,upd H1 s1.heap.objs.size (.lst xs),I1.laid (t':=s1.toks) (fun b u e=>Heap.get?_push_of_some _ e) (Nat.le_refl _) ?_,rfl,q _ hf⟩
 exact⟨z,us,0,r,Heap.get?_push_size _ rfl⟩
end
abbrev Sp:=List V->Hp->VK->XK->Prop
abbrev CXT:=List Env->Hp->Shared->XK->Value->Shared->Prop
structure aih(P:Program)(w:World)(K:PySem.W.Frag)(mg:Str->Option Value)(base:Heap)(A:Around)(outer:List Env)(s:Shared)(H:Hp):Prop where
 frames:A.frames=some outer
 mod:Mod K mg base
 bs:∀b o,base.get? b=some o->s.heap.get? b=some o/\H b=none
 bsz:base.objs.size<=s.heap.objs.size
 JD:s.heap.FunFrames base outer
 frf:∀b∈frs outer,H b=none
 hok:HY P w H s.heap
 bare:AllBare s.gens
def CE(outer:List Env)(P:Program)(w:World)(H:Hp)(s:Shared)(Q:VK)(u:Value)(s':Shared):Prop :=
 ∃v H',s'.os=s.os/\AllBare s'.gens/\Un (frs outer) [] H H' s.heap s'.heap/\HY P w H' s'.heap/\RelV v u/\Q v H'
def CR(CX:CXT)(outer:List Env)(P:Program)(w:World)(H:Hp)(s:Shared)(Q:VK)(E:XK)(r:Result)(s':Shared):Prop :=
 match r with
 | .ok (.ret u)=>CE outer P w H s Q u s'
 | .ok _=>False
 | .error e=>CX outer H s E e s'
structure dj(P:Program)(w:World)(K:PySem.W.Frag)(mg:Str->Option Value)(base:Heap)(CX:CXT)(k:Nat)(f:Addr)(fd:FuncData)(ps:List Str)(sp:Sp):Prop where
 len:∀vs H Q E,sp vs H Q E->vs.length=ps.length
 run:∀(A:Around) (outer:List Env) (s:Shared) (H:Hp) (args:Args) (us:List Value) (vs:List V) (Q:VK) (E:XK),bQ k A->aih P w K mg base A outer s H->BindsTo s fd args (ps.zip us)->Vals vs us->sp vs H Q E->
  codeAny (model P w) A (.call (.ref f) args) (CR CX outer P w H s Q E) s
theorem aih.make{P:Program}{w:World}{K:PySem.W.Frag}{mg:Str->Option Value}{base:Heap}{A:Around}{outer:List Env}{s:Shared}{H:Hp}(e:aih P w K mg base A outer s H)(C:Addr)(us:List Value)(kw:List (Str×Value)) :
 aih P w K mg base (A.under (.builtin "type.__call__" ⟨.ref C::us,kw⟩)) outer s H:=⟨by first | exact e.frames | (simpa[Around.under,Code.envs,Code.isFrame,pushEnvs] using e.frames),e.mod,e.bs,e.bsz,e.JD,e.frf,e.hok,e.bare⟩
section
variable{X:Cx}{pins:List (Addr×Obj)}{σ:St}{H:Hp}{s s':Shared}
theorem Inv.env0(I:Inv X pins σ H s):aih X.prog X.w X.K X.mg X.base X.A X.stack s H :=
 ⟨I.ok.frames,I.ok.mod,I.bs,Nat.le_trans I.ok.bsz I.sz,I.stack,I.acK,I.hok,I.bare⟩
theorem Inv.after{Q:VK}{u:Value}(I:Inv X pins σ H s)(h:CE X.stack X.prog X.w H s Q u s'):EP X pins σ Q u s':=by
 obtain⟨v,H',os,bare,un,hok,r,q⟩:=h
 obtain⟨hh,g,d,t,os'⟩:=s'
 obtain rfl:os'=s.os:=os
 exact⟨v,H',I.call (h':=hh) (g':=g) (d':=d) (t':=t) (ch:=[]) un hok bare (fun b z=>absurd z (by simp)),r,q⟩
end
def amc(sp:Sp)(WT:List V)(E:XK)(t:TA):TE:=fun σ H Q=>t σ H fun vs H1=>sp (vs++WT) H1 Q E
def arl(C:Addr)(m:Str)(sp:Sp)(WT:List V)(E:XK)(ta:TE)(t:TA):TE:=fun σ H Q=>ta σ H fun x H1=>∃a dx fs,x=.ref a/\H1 a=some (.ins C dx fs)/\fs.lookup m=none/\
 t σ H1 fun vs H2=>sp (x::(vs++WT)) H2 Q E
def arn(C:Addr)(sp:Sp)(WT:List V)(E:XK)(t:TA):TE:=fun σ H Q=>t σ H fun vs H1=>∀x dx,H1 x=none->H1 dx=none->dx≠x->
 sp (.ref x::(vs++WT)) (upd (upd H1 dx (.own x)) x (.ins C dx [])) (fun v H2=>v=.non/\Q (.ref x) H2) E
def Binds(K:PySem.W.Frag)(fd:FuncData)(ps:List Str)(ds:List Value):Prop :=
 ∀(s:Shared) (us:List Value),K.In s.heap->(us++ds).length=ps.length->BindsTo s fd ⟨us,[]⟩ (ps.zip (us++ds))
theorem Binds.all{K:PySem.W.Frag}{fd:FuncData}{ps:List Str}(h:∀us:List Value,us.length=ps.length->bindArgs fd ⟨us,[]⟩=pure (ps.zip us)):Binds K fd ps []:=fun s us _ hl=>by
 rw[List.append_nil]at hl ⊢
 exact .of_eq (h us hl)
def Passes(CX:CXT)(X:Cx)(E:XK):Prop:=∀(pins:List (Addr×Obj)) (σ:St) (H:Hp) (s:Shared) (e:Value) (s':Shared),Inv X pins σ H s->CX X.stack H s E e s'->X.xe e s'
section
variable{X:Cx}{CX:CXT}{k:Nat}{f C:Addr}{fd:FuncData}{ps:List Str}{sp:Sp}{WT:List V}{ds:List Value}{E:XK}{x m:Str}{p pos apos:Pos}{e o:Expr}{es:List Expr}{ta:TE}{t:TA}
theorem aii{pins:List (Addr×Obj)}{σ:St}{H:Hp}{s:Shared}{Q:VK}{us:List Value}{vs:List V}(F:dj X.prog X.w X.K X.mg X.base CX k f fd ps sp)(hr:bQ k X.A)(hb:Binds X.K fd ps ds)(hd:Vals WT ds)(hx:Passes CX X E)
 (I:Inv X pins σ H s) (r:Vals vs us) (h:sp (vs++WT) H Q E):wpAny (model X.prog X.w) X.A (call (.ref f) us) (EP X pins σ Q) X.xe s:=by
 have r2:Vals (vs++WT) (us++ds):=r.append hd
 have hl:(us++ds).length=ps.length:=by rw[<-r2.length];exact F.len _ _ _ _ h
 refine wpAny_call (codeAny_mono (F.run X.A X.stack s H ⟨us,[]⟩ (us++ds) (vs++WT) Q E hr I.env0 (hb s us I.yg hl) r2 h) fun r s' hq=>?_)
 cases r with
 | error e=>exact hx pins σ H s e s' I hq
 | ok fl =>
   cases fl with
   | ret u=>exact I.after hq
   | next=>exact False.elim hq
   | brk=>exact False.elim hq
   | cont=>exact False.elim hq
theorem cB(F:dj X.prog X.w X.K X.mg X.base CX k f fd ps sp)(hr:bQ k X.A)(hg:Gl X x)(hm:X.mg x=some (.ref f))(hk:PySem.W.keepIn X.K (.ref f)=true)(hb:Binds X.K fd ps ds)(hd:Vals WT ds)(hx:Passes CX X E)
 (ha:PA X (e::es) t) (hdb:(x == ("__debug__":Str))=false:=by decide) (he:starEach (e::es) X.env=(false,eval e X.env)::starEach es X.env:=by rfl) (hpl:(backTo pos (starEach es X.env)).any (·.1)=false:=by rfl) :
 PE X (.Call (.Name x p) (e::es) [] pos) (amc sp WT E t):=by
 intro pins s σ H Q I h
 refine wpAny_Call_Name_kw (zH I hg hm ?_ hdb)
 refine PySem.W.callWith_K (h₀:=X.base) I.ok.mod.kin hk (gC (ha pos pins s σ H _ I h) fun us s1 hz=>kW hz fun vs H1 I1 r q=>⟨I1.yg,?_⟩) he hpl
 exact aii F hr hb hd hx I1 r q
theorem cD{pl:Sem Bool}(he:PE X o ta)(c:Cls X.K C)(hm:Meth X.K C m f)(F:dj X.prog X.w X.K X.mg X.base CX k f fd ps sp)(hr:bQ k X.A)(hb:Binds X.K fd ps ds)(hd:Vals WT ds)(hx:Passes CX X E)(ha:PA X (e::es) t)
 (hst:starEach (e::es) X.env=(false,eval e X.env)::starEach es X.env:=by rfl) (hpl:(backTo pos (starEach es X.env)).any (·.1)=false:=by rfl)
 (ht:eval (.Call (.Attribute o m apos) (e::es) [] pos) X.env=(do
   let ov <-eval o X.env
   standAt apos.atName
   let (f,first) <-holding [ov] (getMethod ov m pl)
   callWith pos f first (backTo pos (starEach (e::es) X.env)) (backToKw pos (keywordEach [] X.env))):=by rfl) :
 PE X (.Call (.Attribute o m apos) (e::es) [] pos) (arl C m sp WT E ta t):=by
 intro pins s σ H Q I h
 refine PySem.W.methodCall_KW (pl:=pl) (gC (he pins s σ H _ I h) fun u s1 hz=>kW hz fun x H1 I1 rx ⟨a,dx,fs,ex,ea,l,q⟩=>?_) ht
 subst ex
 obtain rfl:u=Value.ref a:=rx
 refine JH I1 ea c hm l ?_
 refine PySem.W.callWith_K (first:=[.ref a]) (h₀:=X.base) I.ok.mod.kin hm.kp (gC (ha pos pins s1 σ H1 _ I1 q) fun us s2 hz=>kW hz fun vs H2 I2 r q2=>⟨I2.yg,?_⟩) hst hpl
 exact aii (us:=.ref a::us) (vs:=.ref a::vs) F hr hb hd hx I2 (.cons rfl r) q2
theorem yh{pl:Sem Bool}(he:PE X o ta)(c:Cls X.K C)(hm:Meth X.K C m f)(F:dj X.prog X.w X.K X.mg X.base CX k f fd ps sp)(hr:bQ k X.A)(hb:Binds X.K fd ps ds)(hd:Vals WT ds)(hx:Passes CX X E)
 (ht:eval (.Call (.Attribute o m apos) [] [] pos) X.env=(do
   let ov <-eval o X.env
   standAt apos.atName
   let (f,first) <-holding [ov] (getMethod ov m pl)
   callWith pos f first (backTo pos (starEach [] X.env)) (backToKw pos (keywordEach [] X.env))):=by rfl) :
 PE X (.Call (.Attribute o m apos) [] [] pos) (arl C m sp WT E ta Ia):=by
 intro pins s σ H Q I h
 refine PySem.W.methodCall_KW (pl:=pl) (gC (he pins s σ H _ I h) fun u s1 hz=>kW hz fun x H1 I1 rx ⟨a,dx,fs,ex,ea,l,q⟩=>?_) ht
 subst ex
 obtain rfl:u=Value.ref a:=rx
 refine JH I1 ea c hm l ?_
 exact PySem.W.callWith_K0 (first:=[.ref a]) I1.yg hm.kp (aii (us:=[.ref a]) (vs:=[.ref a]) F hr hb hd hx I1 (.cons rfl .nil) q)
structure Mk(K:PySem.W.Frag)(C f:Addr):Prop where
 makes:PySem.W.makesIn K C=true
 init:PySem.W.findIn K (.ref C) "__init__"=some (some (.ref f))
 fn:PySem.W.isFn K (.ref f)=true
 kp:PySem.W.keepIn K (.ref C)=true
theorem afR{pins:List (Addr×Obj)}{σ:St}{H:Hp}{s:Shared}{Q:VK}{us:List Value}{vs:List V}(M:Mk X.K C f)(F:dj X.prog X.w X.K X.mg X.base CX k f fd ps sp)(hr:bQ (k+1) X.A)(hb:Binds X.K fd ps ds)(hd:Vals WT ds)
 (hx:Passes CX X E) (I:Inv X pins σ H s) (r:Vals vs us)
 (h:∀x dx,H x=none->H dx=none->dx≠x->sp (.ref x::(vs++WT)) (upd (upd H dx (.own x)) x (.ins C dx [])) (fun v H2=>v=.non/\Q (.ref x) H2) E) :
 wpAny (model X.prog X.w) X.A (call (.ref C) us) (EP X pins σ Q) X.xe s:=by
 have hq:=h (s.heap.objs.size+1) s.heap.objs.size (I.hok.fresh (Nat.le_succ _)) (I.hok.fresh (Nat.le_refl _)) (Nat.ne_of_lt (Nat.lt_succ_self _))
 have I2:=Inv.made (C:=C) I
 have r2:Vals (V.ref (s.heap.objs.size+1)::(vs++WT)) (Value.ref (s.heap.objs.size+1)::(us++ds)):=.cons rfl (r.append hd)
 have hl:(Value.ref (s.heap.objs.size+1)::us++ds).length=ps.length:=by
  have e:=r2.length
  rw[F.len _ _ _ _ hq]at e
  exact e.symm
 refine wpAny_call (ama (f:=f) I.yg M.makes M.init (beq_iff_eq.mp M.fn) (codeAny_mono (F.run _ X.stack _ _ ⟨Value.ref (s.heap.objs.size+1)::us,[]⟩ (Value.ref (s.heap.objs.size+1)::(us++ds)) _ _ E (hr.make C us [])
  (I2.env0.make C us []) (hb _ (Value.ref (s.heap.objs.size+1)::us) I2.yg hl) r2 hq) fun r s' hq'=>?_))
 cases r with
 | error e=>exact hx pins σ _ _ e s' I2 hq'
 | ok fl =>
   cases fl with
   | ret u =>
     obtain⟨v,H',I3,rv,ev,q3⟩:=I2.after hq'
     subst ev
     exact⟨rv,⟨V.ref (s.heap.objs.size+1),H',I3,rfl,q3⟩⟩
   | next=>exact False.elim hq'
   | brk=>exact False.elim hq'
   | cont=>exact False.elim hq'
theorem acO(M:Mk X.K C f)(F:dj X.prog X.w X.K X.mg X.base CX k f fd ps sp)(hr:bQ (k+1) X.A)(hg:Gl X x)(hm:X.mg x=some (.ref C))(hb:Binds X.K fd ps ds)(hd:Vals WT ds)(hx:Passes CX X E)
 (ha:PA X (e::es) t) (hdb:(x == ("__debug__":Str))=false:=by decide) (he:starEach (e::es) X.env=(false,eval e X.env)::starEach es X.env:=by rfl) (hpl:(backTo pos (starEach es X.env)).any (·.1)=false:=by rfl) :
 PE X (.Call (.Name x p) (e::es) [] pos) (arn C sp WT E t):=by
 intro pins s σ H Q I h
 refine wpAny_Call_Name_kw (zH I hg hm ?_ hdb)
 refine PySem.W.callWith_K (h₀:=X.base) I.ok.mod.kin M.kp (gC (ha pos pins s σ H _ I h) fun us s1 hz=>kW hz fun vs H1 I1 r q=>⟨I1.yg,?_⟩) he hpl
 exact afR M F hr hb hd hx I1 r q
theorem amd(M:Mk X.K C f)(F:dj X.prog X.w X.K X.mg X.base CX k f fd ps sp)(hr:bQ (k+1) X.A)(hg:Gl X x)(hm:X.mg x=some (.ref C))(hb:Binds X.K fd ps ds)(hd:Vals WT ds)(hx:Passes CX X E)
 (hdb:(x == ("__debug__":Str))=false:=by decide):PE X (.Call (.Name x p) [] [] pos) (arn C sp WT E Ia):=by
 intro pins s σ H Q I h
 refine wpAny_Call_Name_kw (zH I hg hm ?_ hdb)
 exact PySem.W.callWith_K0 I.yg M.kp (afR (us:=[]) M F hr hb hd hx I .nil h)
end
section
variable{X:Cx}{CX:CXT}{k:Nat}{f C:Addr}{fd:FuncData}{ps ks:List Str}{sp:Sp}{E:XK}{x m:Str}{p pos apos aCr:Pos}{e o:Expr}{es:List Expr}{kws:List Keyword}{te ta:TE}{t tk:TA}{nm:Option Str}
variable{g:List Value->List Value->List Value}{gV:List V->List V->List V}
end
structure bC(N P:List Str)(sc:Scope):Prop where
 kind:sc.kind=.function
 co:sc.isCoroutine=false
 gen:sc.isGenerator=false
 nd:N.Nodup
 pre:N.take P.length=P
 par:∀x∈P,sc.names.lookup x=some .local\/sc.names.lookup x=some .cell
 asn:∀y∈sc.names,y.2≠.free
theorem abX{kindOf:Str->Option NameKind}{x:Str}:∀{binds:List (Str×Value)} {m:Str->Option Value},(∀v,(x,v)∉binds)->bindL kindOf binds m x=m x
 | [],_,_=>rfl
 | (n,v)::r,m,h=>by
   unfold bindL
   rw[abX fun w hw=>h w (List.mem_cons_of_mem _ hw)]
   split
   ·have:x≠n:=by rintro rfl;exact h v List.mem_cons_self
    simp[this]
   ·rfl
theorem abY{kindOf:Str->Option NameKind}{x:Str}:∀{binds:List (Str×Value)} {m:Str->Option Value},(∀v,(x,v)∉binds)->bindC kindOf binds m x=m x
 | [],_,_=>rfl
 | (n,v)::r,m,h=>by
   unfold bindC
   rw[abY fun w hw=>h w (List.mem_cons_of_mem _ hw)]
   split
   ·rfl
   ·have:x≠n:=by rintro rfl;exact h v List.mem_cons_self
    simp[this]
theorem abZ{kindOf:Str->Option NameKind}{x:Str}{v:Value}:∀{P:List Str} {vs:List Value} {i:Nat} {m:Str->Option Value},P.Nodup->P[i]? = some x->vs[i]? = some v->kindOf x=some .local->
 bindL kindOf (P.zip vs) m x=some v
 | [],_,_,_,_,h,_,_=>by simp at h
 | _::_,[],_,_,_,_,h,_=>by simp at h
 | p::P,w::vs,0,m,nd,h1,h2,hk=>by
   simp at h1 h2;subst h1;subst h2
   show bindL kindOf ((p,w)::P.zip vs) m p=_
   unfold bindL
   rw[abX fun v hv=>(List.nodup_cons.mp nd).1 (List.of_mem_zip hv).1,if_pos hk]
   simp
 | p::P,w::vs,i+1,m,nd,h1,h2,hk=>by
   show bindL kindOf ((p,w)::P.zip vs) m x=_
   unfold bindL
   exact abZ (i:=i) (List.nodup_cons.mp nd).2 (by simpa using h1) (by simpa using h2) hk
theorem ab0{kindOf:Str->Option NameKind}{x:Str}{v:Value}:∀{P:List Str} {vs:List Value} {i:Nat} {m:Str->Option Value},P.Nodup->P[i]? = some x->vs[i]? = some v->kindOf x≠some .local->
 bindC kindOf (P.zip vs) m x=some v
 | [],_,_,_,_,h,_,_=>by simp at h
 | _::_,[],_,_,_,_,h,_=>by simp at h
 | p::P,w::vs,0,m,nd,h1,h2,hk=>by
   simp at h1 h2;subst h1;subst h2
   show bindC kindOf ((p,w)::P.zip vs) m p=_
   unfold bindC
   rw[abY fun v hv=>(List.nodup_cons.mp nd).1 (List.of_mem_zip hv).1,if_neg hk]
   simp
 | p::P,w::vs,i+1,m,nd,h1,h2,hk=>by
   show bindC kindOf ((p,w)::P.zip vs) m x=_
   unfold bindC
   exact ab0 (i:=i) (List.nodup_cons.mp nd).2 (by simpa using h1) (by simpa using h2) hk
def start(N:List Str)(vs:List V):St:=vs.map some++List.replicate (N.length - vs.length) none
def dD(CX:CXT)(P:Program)(w:World)(K:PySem.W.Frag)(mg:Str->Option Value)(base:Heap)(N:List Str)(qual:Str)(scope:Scope)(f:Addr)(cd:Value)(A:Around)(outer:List Env)(s:Shared)(H:Hp)(E:XK):Cx where
 prog:=P
 w:=w
 K:=K
 mg:=mg
 base:=base
 A:=A.deeper (envOfC qual scope s.heap.objs.size f cd)
 N:=N
 s₀:=s
 H₀:=H
 env:=envOfC qual scope s.heap.objs.size f cd
 outer:=outer
 stack:=envOfC qual scope s.heap.objs.size f cd::outer
 ex:=[]
 calm:=true
 fn:=fun _=>true
 pn:=[]
 xe:=fun e s'=>wpAny (model P w) (A.deeper (envOfC qual scope s.heap.objs.size f cd)) (leaving (envOfC qual scope s.heap.objs.size f cd) e) (fun _ s''=>CX outer H s E e s'') (fun e' s''=>CX outer H s E e' s'') s'
theorem afS{sc:Scope}{n:Nat}{x:Str}(h:sc.names.lookup x=some .cell):∃c,(cellsFrom n sc.names []).lookup x=some c:=by
 have q:=PySem.W.cellsFrom_some sc.names n [] (.inl h)
 exact Option.isSome_iff_exists.mp q
theorem akN{CX:CXT}{P:Program}{w:World}{K:PySem.W.Frag}{mg:Str->Option Value}{base:Heap}{N ps:List Str}{qual:Str}{scope:Scope}{f:Addr}{cd:Value}{A:Around}{outer:List Env}{s s1:Shared}{H:Hp}{E:XK}{us:List Value}{vs:List V}
 (S:bC N ps scope) (hd:A.handled=none) (e0:aih P w K mg base A outer s H) (hl:vs.length=ps.length) (r:Vals vs us)
 (x:InCallC s s.heap.objs.size (bindL (envOfC qual scope s.heap.objs.size f cd).kindOf (ps.zip us) fun _=>none) (cellsFrom (s.heap.objs.size+1) scope.names []) (bindC (envOfC qual scope s.heap.objs.size f cd).kindOf (ps.zip us) fun _=>none) s1) :
 Inv (dD CX P w K mg base N qual scope f cd A outer s H E) [] (start N vs) H s1:=by
 have hpl:ps.length<=N.length:=by have:=congrArg List.length S.pre;rw[List.length_take]at this;lia
 obtain⟨h1,tk,rfl,hk⟩:=x.done
 have noA:∀b:Addr,b∉(dD CX P w K mg base N qual scope f cd A outer s H E).ex:=fun b z=>absurd (show b∈([]:List Addr)from z) (by simp)
 refine⟨⟨e0.mod,S.kind,rfl,rfl,Nat.le_refl _,fun y z c h1 h2=>?_,fun y hy=>?_,fun y c _ h=>?_,fun _=>hd,Around.frames_deeper e0.frames,.inr ⟨rfl,rfl⟩,fun b z=>absurd z (noA b),e0.bs,e0.bsz,fun b _ _=>noA b,fun b z=>absurd z (noA b),e0.JD,e0.frf⟩,
  rfl,e0.bare,Un.kept hk,⟨_,x.toInCall.ns,fun i y v h1 h2 h3=>?_⟩,fun y c h=>⟨_,x.cell y c h⟩,e0.hok.fresh (Nat.le_refl _),fun y c h=>?_,fun p hp=>absurd (show p∈([]:List (Addr×Obj))from hp) (by simp),e0.hok.kept hk,?_⟩
 ·exact name_of_addr x.apart (PySem.mem_of_lookup h1) (PySem.mem_of_lookup h2)
 ·have hy:scope.names.lookup y=some .cell\/scope.names.lookup y=some .free:=hy
  rcases hy with hy | hy
  ·exact afS hy
  ·exact absurd rfl (S.asn _ (PySem.mem_of_lookup hy))
 ·exact Nat.le_of_lt (x.above y c (PySem.mem_of_lookup h))
 ·have hi:i<vs.length:=by
   unfold start at h2
   by_cases hi:i<vs.length
   ·exact hi
   ·rw[List.getElem?_append_right (by simpa using hi)]at h2
    rw[List.getElem?_replicate]at h2
    split at h2<;>cases h2
  have ha:vs[i]? = some v:=by
   unfold start at h2
   rw[List.getElem?_append_left (by simpa using hi),List.getElem?_map]at h2
   cases e:vs[i]? with
   | none=>rw[e]at h2;cases h2
   | some a=>rw[e]at h2;cases h2;rfl
  obtain⟨u,hu,rv⟩:=r.get ha
  have hp:ps[i]? = some y:=by
   rw[<-S.pre,List.getElem?_take_of_lt (by lia)];exact h1
  have ndP:ps.Nodup:=by rw[<-S.pre];exact S.nd.sublist (List.take_sublist _ _)
  refine⟨u,rv,?_⟩
  rcases S.par y (List.mem_of_getElem? hp)with k | k
  ·exact .inl ⟨k,abZ ndP hp hu k⟩
  ·obtain⟨c,e⟩:=afS (n:=s.heap.objs.size+1) k
   refine .inr ⟨.inl k,c,e,?_⟩
   have q:=x.cell y c e
   rw[ab0 ndP hp hu (by show scope.names.lookup y≠_;rw[k];decide)]at q
   exact q
 ·exact e0.hok.fresh (Nat.le_of_lt (x.above y c (PySem.mem_of_lookup h)))
 ·unfold start
  show _=N.length
  rw[List.length_append,List.length_map,List.length_replicate]
  lia
theorem arp{CX:CXT}{P:Program}{w:World}{K:PySem.W.Frag}{mg:Str->Option Value}{base:Heap}{k:Nat}{f:Addr}{name qual:Str}{params:Arguments}{body:List Stmt}{scope:Scope}{dV kV doc pm cdv ct oc:Value}{an od:Option Addr}
 {osl:Array (Option Value)} {N ps:List Str} {sp:Sp} (lk:K.lookup f=some ⟨oc,od,.func (PySem.W.fnOf name qual params body scope dV kV doc pm an cdv ct),osl⟩) (hcd:PySem.W.codeIn K cdv qual=true) (S:bC N ps scope)
 (len:∀vs H Q E,sp vs H Q E->vs.length=ps.length)
 (hbody:∀(A:Around) (outer:List Env) (s:Shared) (H:Hp) (vs:List V) (Q:VK) (E:XK),bQ k (A.deeper (envOfC qual scope s.heap.objs.size f cdv))->sp vs H Q E->
   ∃t,PSs (dD CX P w K mg base N qual scope f cdv A outer s H E) body t/\t {nx:=fun _ H'=>Q .non H',rt:=Q} (start N vs) H) :
 dj P w K mg base CX (k+1) f (PySem.W.fnOf name qual params body scope dV kV doc pm an cdv ct) ps sp:=by
 refine⟨len,fun A outer s H args us vs Q E hr e0 hb r hsp=>?_⟩
 have hl:=len _ _ _ _ hsp
 have KX:K.In s.heap:=e0.mod.kin.keeps fun b o e=>(e0.bs b o e).1
 have lim:s.heap.NoLimit:=e0.mod.nolimit.keeps fun b o e=>(e0.bs b o e).1
 have hkind:∀y∈ps.zip us,scope.names.lookup y.1=some .local\/(scope.names.lookup y.1=some .cell/\((cellsFrom (s.heap.objs.size+1) scope.names []).lookup y.1).isSome=true):=fun⟨n,v⟩ hy=>by
  rcases S.par n (List.of_mem_zip hy).1 with q | q
  ·exact .inl q
  ·exact .inr ⟨q,PySem.W.cellsFrom_some _ _ _ (.inl q)⟩
 refine codeAny_call_function hr.depth (KX _ _ lk) rfl S.co S.gen rfl (PySem.W.codeRec_of KX hcd) (hb _ _ _ _ ?_)
 refine wpAny_newFunctionEnv_cells S.kind hkind fun env he s1 x=>?_
 subst he
 refine⟨lim.keeps x.toInCall.keep,codeAny_func ?_⟩
 obtain⟨t,ht,hq⟩:=hbody A outer s H vs Q E (hr.deeper _) hsp
 have I:Inv (dD CX P w K mg base N qual scope f cdv A outer s H E) [] (start N vs) H s1:=akN S hr.hd e0 hl r x
 refine wpAny_mono (ht [] s1 (start N vs) H _ I hq) (fun fl s' hs=>?_) fun e s' hs=>hs
 have fin:∀{σ':St} {H':Hp} {v:V} {u:Value},Inv (dD CX P w K mg base N qual scope f cdv A outer s H E) [] σ' H' s'->RelV v u->Q v H'->CE outer P w H s Q u s' :=
  fun {σ' H' v u} J rv q=>⟨v,H',J.os,J.bare,J.base,J.hok,rv,q⟩
 cases fl with
 | ret u =>
   obtain⟨v,σ',H',J,rv,q⟩:=hs
   exact fin J rv q
 | next =>
   obtain⟨σ',H',J,q⟩:=hs
   exact fin (v:=V.non) (u:=Value.none) J rfl q
 | brk =>
   obtain⟨_,_,_,q⟩:=hs
   exact False.elim q
 | cont =>
   obtain⟨_,_,_,q⟩:=hs
   exact False.elim q
end L2
namespace L2
open PySem PySem.Spec PyProof.Rows
section
variable{X:Cx}{x:Str}{p pos:Pos}{e:Expr}{es:List Expr}{t:TA}{id T:String}{r:List V->Hp->VK->Prop}
def tCB(r:List V->Hp->VK->Prop)(t:TA):TE:=fun σ H Q=>t σ H fun vs H1=>r vs H1 Q
theorem cX(hc:RW X (.builtin id) r)(hg:Gl X x)(hm:X.mg x=none)(hv:bootBuiltins x=some (.builtin id))(ha:PA X (e::es) t)(hn:x≠"__name__":=by decide) (hdb:(x == ("__debug__":Str))=false:=by decide)
 (he:starEach (e::es) X.env=(false,eval e X.env)::starEach es X.env:=by rfl) (hpl:(backTo pos (starEach es X.env)).any (·.1)=false:=by rfl):PE X (.Call (.Name x p) (e::es) [] pos) (tCB r t):=by
 intro pins s σ H Q I h
 refine wpAny_Call_Name_kw (Wz I hg hm hv ?_ hn hdb)
 exact PyProof.Rows.callWith_builtin1 (gC (ha pos pins s σ H _ I h) fun us s1 hz=>kW hz fun vs H1 I1 r1 q1=>hc pins s1 σ H1 vs us Q I1 r1 q1) he hpl
theorem ig(hc:RW X (.type T) r)(hg:Gl X x)(hm:X.mg x=none)(hv:bootBuiltins x=some (.type T))(ha:PA X (e::es) t)(hn:x≠"__name__":=by decide) (hdb:(x == ("__debug__":Str))=false:=by decide)
 (he:starEach (e::es) X.env=(false,eval e X.env)::starEach es X.env:=by rfl) (hpl:(backTo pos (starEach es X.env)).any (·.1)=false:=by rfl):PE X (.Call (.Name x p) (e::es) [] pos) (tCB r t):=by
 intro pins s σ H Q I h
 refine wpAny_Call_Name_kw (Wz I hg hm hv ?_ hn hdb)
 exact PyProof.Rows.callWith_type1 (gC (ha pos pins s σ H _ I h) fun us s1 hz=>kW hz fun vs H1 I1 r1 q1=>hc pins s1 σ H1 vs us Q I1 r1 q1) he hpl
end
end L2
namespace HT
open PySem PyProof.Rows
section
open PySem.SeqAt
open PySem.AutoSeq1 (wpAny_loadPart')
open PySem.MeetsSeq PySem.MeetsSeq2 PySem.MeetsSeq3
end
section
variable{prog:Program}{w:World}{A:Around}{E:Value->Shared->Prop}{s:Shared}
theorem aoO{t b:Addr}{vs ws:List Value}{Q:Value->Shared->Prop}(ht:IsTup s.heap t vs.toArray)(hb:IsTup s.heap b ws.toArray)(hv:vs≠[])
 (h1:ws=[]->Q (.ref t) s) (h2:ws≠[]->Q (.ref s.heap.objs.size) {s with heap:=s.heap.push {cls:=.type "tuple",data:=.seq (vs++ws).toArray}})
 (hsz:vs.length+ws.length<=sizeLine):wpAny (model prog w) A (binaryOp .Add (.ref t) (.ref b)) Q E s:=by
 obtain⟨⟨cls,dd,data,sl⟩,ho,hc,n,hd⟩:=id ht
 obtain⟨⟨cls2,dd2,data2,sl2⟩,ho2,hc2,n2,hd2⟩:=id hb
 simp only at hc hd hc2 hd2
 subst hc hd hc2 hd2
 have e:vs.toArray++ws.toArray=(vs++ws).toArray:=by simp
 by_cases hw:ws=[]
 ·exact concat_meets ⟨_,ho,rfl⟩ ⟨_,ho2,rfl⟩ noFill_tuple_add seq_tuple_add PySem.F.slot_tuple_add PySem.F.entry_tuple_add (PySem.F.args_tuple_add_2 _ _)
   (tuple_addW1 t b vs.toArray ws.toArray n n2 dd dd2 sl sl2 (by simpa using hv) (by simp[hw])) ⟨ho,ho2,h1 hw⟩
 ·refine concat_meets ⟨_,ho,rfl⟩ ⟨_,ho2,rfl⟩ noFill_tuple_add seq_tuple_add PySem.F.slot_tuple_add PySem.F.entry_tuple_add (PySem.F.args_tuple_add_2 _ _)
   (tuple_addW2 t b vs.toArray ws.toArray n n2 dd dd2 sl sl2 (by simpa using hv) (by simpa using hw) (by rw[List.size_toArray,List.size_toArray];exact hsz)) ⟨ho,ho2,?_⟩
  rw[e]
  exact h2 hw
def mR(n d:Nat):Option Int->Nat
 | none=>d
 | some v=>if v<0 then(v+(n:Int)).toNat else min v.toNat n
theorem aso(n d:Nat)(hd:d<=n)(o:Option Int):mR n d o<=n:=by
 cases o with
 | none=>exact hd
 | some v =>
   show(if v<0 then(v+(n:Int)).toNat else min v.toNat n)<=n
   by_cases hv:v<0
   ·rw[if_pos hv];lia
   ·rw[if_neg hv];exact Nat.min_le_right _ _
theorem ajx(v:Int)(n d:Nat):(if v<0 then max (v+(n:Int)) 0 else min v (n:Int))=((mR n d (some v):Nat):Int):=by
 show(if v<0 then max (v+(n:Int)) 0 else min v (n:Int))=(((if v<0 then(v+(n:Int)).toNat else min v.toNat n):Nat):Int)
 by_cases hv:v<0
 ·simp only[if_pos hv];lia
 ·simp only[if_neg hv];lia
theorem aij(lo hi:Option Int)(n:Nat):Builtin.Slice.sliceAdjust lo hi 1 (n:Int)=(((mR n 0 lo:Nat):Int),((mR n n hi:Nat):Int)):=by
 have h1:¬((1:Int)<0):=by lia
 unfold Builtin.Slice.sliceAdjust
 simp only[h1,if_false]
 refine Prod.ext ?_ ?_
 ·cases lo with
  | none=>rfl
  | some v=>exact ajx v n 0
 ·cases hi with
  | none=>rfl
  | some v=>exact ajx v n n
theorem aik(i j:Nat):Builtin.Slice.slicePlaces (i:Int) (j:Int) 1=j - i:=by
 unfold Builtin.Slice.slicePlaces
 have h1:(1:Int) > 0:=by lia
 simp only[h1,if_true,Int.ediv_one]
 split<;>lia
theorem WW{v:Value}{o:Option Int}{Q:Option Int->Shared->Prop}(p:IsPart v o)(h:Q o s):wpAny (model prog w) A (Builtin.Slice.slicePartIndex v) Q E s:=by
 cases p with
 | none=>exact slicePart_none h
 | int i t=>exact slicePart_int h
theorem Qp{sl:Addr}{vl vu:Value}{lo hi:Option Int}{n:Nat}{Q:Int×Int×Nat->Shared->Prop}(hs:s.heap.IsSliceOf sl vl vu .none)(pl:IsPart vl lo)(pu:IsPart vu hi)
 (h:Q (((mR n 0 lo:Nat):Int),1,mR n n hi - mR n 0 lo) s):wpAny (model prog w) A (Builtin.Slice.sliceApplied (.ref sl) (pure (n:Int))) Q E s:=by
 obtain⟨os,hos,hcs,hds⟩:=id hs
 unfold Builtin.Slice.sliceApplied Builtin.Slice.sliceFields
 refine wpAny_bind (wpAny_bind (wpAny_field hos hds (x:=vl) rfl (wpAny_bind (wpAny_field hos hds (x:=vu) rfl (wpAny_bind (wpAny_field hos hds (x:=.none) rfl (wpAny_pure ?_)))))))
 refine wpAny_bind (slicePart_none ?_)
 show wpAny _ _ (if((1:Int) == 0)=true then _ else _) _ _ s
 rw[if_neg (by decide)]
 refine wpAny_bind (WW pl (wpAny_bind (WW pu (wpAny_bind (wpAny_pure ?_)))))
 show wpAny _ _ (match Builtin.Slice.sliceAdjust lo hi 1 (n:Int)with | (lo,hi)=>pure (lo,(1:Int),Builtin.Slice.slicePlaces lo hi 1)) _ _ s
 rw[aij lo hi n]
 show wpAny _ _ (pure (((mR n 0 lo:Nat):Int),(1:Int),Builtin.Slice.slicePlaces ((mR n 0 lo:Nat):Int) ((mR n n hi:Nat):Int) 1)) _ _ s
 rw[aik]
 exact wpAny_pure h
theorem ame(xs:Array Value)(i k:Nat):((List.range k).filterMap fun(m:Nat)=>xs[((i:Int)+(m:Int)*1).toNat]?).toArray=((xs.toList.drop i).take k).toArray:=by
 have e:(fun(m:Nat)=>xs[((i:Int)+(m:Int)*1).toNat]?)=fun m=>xs[i+m]? := by
  funext m
  have:((i:Int)+(m:Int)*1).toNat=i+m:=by lia
  rw[this]
 rw[e]
 have:=pick_run xs i k
 rw[List.filterMap_map]at this
 have e2:((fun x=>xs[x]?) ∘ fun x=>i+x)=fun m=>xs[i+m]? := rfl
 rw[e2]at this
 rw[this]
theorem Ly{t sl:Addr}{items:Array Value}{vl vu:Value}{lo hi:Option Int}{Q:Value->Shared->Prop}(ht:IsTup s.heap t items)(hs:s.heap.IsSliceOf sl vl vu .none)(pl:IsPart vl lo)(pu:IsPart vu hi)
 (hw:¬(mR items.size 0 lo=0/\mR items.size items.size hi=items.size))
 (h:Q (.ref s.heap.objs.size) {s with heap:=s.heap.push {cls:=.type "tuple",data:=.seq ((items.toList.drop (mR items.size 0 lo)).take (mR items.size items.size hi - mR items.size 0 lo)).toArray}})
 (hsz:items.size<=sizeLine):wpAny (model prog w) A (getItem (.ref t) (.ref sl)) Q E s:=by
 have ajy:sizeOk (.seq ((items.toList.drop (mR items.size 0 lo)).take (mR items.size items.size hi - mR items.size 0 lo)).toArray):=by
  show((items.toList.drop (mR items.size 0 lo)).take (mR items.size items.size hi - mR items.size 0 lo)).toArray.size<=sizeLine
  rw[List.size_toArray,List.length_take,List.length_drop,Array.length_toList]
  lia
 have hj:mR items.size items.size hi<=items.size:=aso _ _ (Nat.le_refl _) hi
 obtain⟨os,hos,hcs,hds⟩:=id hs
 have hTs:s.TypeIs (.ref sl) "slice":=⟨os,hos,hcs⟩
 unfold getItem
 try with_reducible refine wpAny_holding ?_
 first | refine wpAny_bind (wpAny_pure ?_) | skip
 refine wpAny_bind (wpAny_sequenceKey ht.typeIs (by decide) ?_)
 refine wpAny_bind (wpAny_callSpecial?_slot (name:=Str.ofString "__getitem__") ht.typeIs PyProof.Rows.slot_tuple_getitem
  (wpAny_call_entry PyProof.Rows.slot_tuple_getitem ht.typeIs entry_tuple_getitem ?_ (args_tuple_getitem _ _)))
 show wpAny _ _ (Builtin.Tuple.tupleItemsOf (.ref t) >>= _) _ _ s
 refine wpAny_bind (tupleItemsOf_ ht ?_)
 refine wpAny_bind (wpAny_typeOf hTs ?_)
 rw[if_pos (by decide)]
 refine wpAny_bind (Qp hs pl pu ?_)
 have hno:¬((((mR items.size 0 lo:Nat):Int) == 0 && (1:Int) == 1 && (mR items.size items.size hi - mR items.size 0 lo) == items.size)=true):=by
  intro q
  rw[Bool.and_eq_true,Bool.and_eq_true]at q
  have q1:((mR items.size 0 lo:Nat):Int)=0:=eq_of_beq q.1.1
  have q2:mR items.size items.size hi - mR items.size 0 lo=items.size:=eq_of_beq q.2
  exact hw ⟨by lia,by lia⟩
 show wpAny _ _ (if(((mR items.size 0 lo:Nat):Int) == 0 && (1:Int) == 1 && (mR items.size items.size hi - mR items.size 0 lo) == items.size)=true then _ else _) _ _ s
 rw[if_neg hno,ame]
 first
  | exact wpAny_bind (m:=Builtin.Tuple.tupleExact _) (wpAny_newObj_type (wpAny_pure ⟨_,rfl,wpAny_pure h⟩) ajy)
  | exact wpAny_bind (m:=Builtin.Tuple.tupleExact _) (wpAny_newObj_type (wpAny_bind (wpAny_pure (wpAny_pure ⟨_,rfl,wpAny_pure h⟩))) ajy)
  | exact wpAny_bind (wpAny_bind (m:=Builtin.Tuple.tupleExact _) (wpAny_newObj_type (wpAny_pure (wpAny_pure ⟨_,rfl,wpAny_pure h⟩)) ajy))
  | exact wpAny_bind (wpAny_bind (m:=Builtin.Tuple.tupleExact _) (wpAny_newObj_type (wpAny_pure ⟨_,rfl,wpAny_pure h⟩) ajy))
end
end HT
namespace L2
open PySem PySem.Spec PyProof.Rows
abbrev TO:=St->Hp->(Option Int->Hp->Prop)->Prop
def PO(X:Cx)(e:Option Expr)(t:TO):Prop :=
 ∀(pins:List (Addr×Obj)) (s:Shared) (σ:St) (H:Hp) (Q:Option Int->Hp->Prop),Inv X pins σ H s->t σ H Q->
  wpAny (model X.prog X.w) X.A (evalPart e X.env) (fun u s'=>∃o H',Inv X pins σ H' s'/\IsPart u o/\Q o H') X.xe s
def aoP:TO:=fun _ H Q=>Q none H
def av4(t:TE):TO:=fun σ H Q=>t σ H fun x H1=>∃i,x=.int i/\Q (some i) H1
section
variable{X:Cx}{e:Expr}{te:TE}{lo hi:Option Expr}{tl th:TO}{pos p2:Pos}
theorem acP:PO X none aoP:=by
 intro pins s σ H Q I h
 rw[evalPart_none]
 exact wpAny_pure ⟨none,H,I,.none,h⟩
theorem acQ(h:PE X e te):PO X (some e) (av4 te):=by
 intro pins s σ H Q I hw
 rw[evalPart_some]
 refine gC (h pins s σ H _ I hw) fun u s1 hz=>kW hz fun x H1 I1 r1 q1=>?_
 obtain⟨i,rfl,q⟩:=q1
 obtain⟨t,rfl⟩:=r1
 exact⟨some i,H1,I1,.int i t,q⟩
def SlR(X:Cx)(r:V->Option Int->Option Int->Hp->VK->Prop):Prop :=
 ∀(pins:List (Addr×Obj)) (s:Shared) (σ:St) (H:Hp) (x:V) (v vl vu:Value) (lo hi:Option Int) (sl:Addr) (Q:VK),Inv X pins σ H s->RelV x v->s.heap.IsSliceOf sl vl vu .none->IsPart vl lo->IsPart vu hi->r x lo hi H Q->
  ∃T id,typeLookup (.type T) "__getitem__"=pure (some (.builtin id))/\s.TypeIs v T/\wpAny (model X.prog X.w) X.A (getItem v (.ref sl)) (EP X pins σ Q) X.xe s
def tSl(r:V->Option Int->Option Int->Hp->VK->Prop)(te:TE)(tl th:TO):TE:=fun σ H Q=>te σ H fun x H1=>tl σ H1 fun l H2=>th σ H2 fun u H3=>r x l u H3 Q
theorem WX{r:V->Option Int->Option Int->Hp->VK->Prop}(hr:SlR X r)(he:PE X e te)(hl:PO X lo tl)(hu:PO X hi th):PE X (.Subscript e (.Slice lo hi none p2) pos) (tSl r te tl th):=by
 intro pins s σ H Q I h
 refine Subscript_ (gC (he pins s σ H _ I h) fun v s1 hz=>kW hz fun x H1 I1 r1 q1=>?_)
 refine wpAny_Slice (gC (hl pins s1 σ H1 _ I1 q1) fun vl s2 hz=>kW hz fun l H2 I2 pl q2=>gC (hu pins s2 σ H2 _ I2 q2) fun vu s3 hz=>kW hz fun u H3 I3 pu q3=>?_)
 rw[evalPart_none]
 refine wpAny_pure ?_
 have I4:Inv X pins σ H3 {s3 with heap:=s3.heap.push {cls:=.type "slice",data:=.fields #[vl,vu,.none]}}:=I3.kept (t':=s3.toks) fun b ob q=>Heap.get?_push_of_some _ q
 obtain⟨T,id,hT,ht,hg⟩:=hr pins {s3 with heap:=s3.heap.push {cls:=.type "slice",data:=.fields #[vl,vu,.none]}} σ H3 x v vl vu l u s3.heap.objs.size Q I4 r1 (Heap.IsSliceOf.new ..) pl pu q3
 show wpAny (model X.prog X.w) X.A (subscriptTail e (.Slice lo hi none p2) v (.ref s3.heap.objs.size)) (EP X pins σ Q) X.xe {s3 with heap:=s3.heap.push {cls:=.type "slice",data:=.fields #[vl,vu,.none]}}
 exact tail_any (ops:=[.ref s3.heap.objs.size,v]) ht hT hg (by with_unfolding_all rfl)
def Qq(xs:List V)(lo hi:Option Int):List V:=(xs.drop (HT.mR xs.length 0 lo)).take (HT.mR xs.length xs.length hi - HT.mR xs.length 0 lo)
theorem R1(xs:List V)(lo hi:Option Int):(Qq xs lo hi).length<=xs.length:=by
 unfold Qq
 rw[List.length_take,List.length_drop]
 lia
def azi(K:PySem.W.Frag):V->Option Int->Option Int->Hp->VK->Prop:=fun x lo hi H Q=>∃a xs,x=.ref a/\cW K H a xs/\
 ¬(HT.mR xs.length 0 lo=0/\HT.mR xs.length xs.length hi=xs.length)/\∀p,H p=none->Q (.ref p) (upd H p (.tup (Qq xs lo hi)))
theorem amf:SlR X (azi X.K):=by
 intro pins s σ H x v vl vu lo hi sl Q I rx hs pl pu h
 obtain⟨a,xs,rfl,hx,hw,q⟩:=h
 cases rx
 obtain⟨its,r,ht,hz⟩:=I.tuple hx
 have hlen:its.toArray.size=xs.length:=by rw[List.size_toArray];exact r.length.symm
 refine⟨"tuple",_,PyProof.Rows.slot_tuple_getitem.lookup,ht.typeIs,?_⟩
 refine HT.Ly ht hs pl pu (by rw[hlen];exact hw) ?_ (by rw[hlen];exact hz)
 rw[hlen]
 refine⟨.ref s.heap.objs.size,_,I.laid (t':=s.toks) (o:=.tup (Qq xs lo hi)) (fun b ob q=>Heap.get?_push_of_some _ q) (Nat.le_refl _) ?_,rfl,q _ (I.hok.fresh (Nat.le_refl _))⟩
 exact⟨Nat.le_trans (R1 xs lo hi) hz,_,(r.drop (HT.mR xs.length 0 lo)).take (HT.mR xs.length xs.length hi - HT.mR xs.length 0 lo),IsTup.new _ _⟩
def av5(K:PySem.W.Frag):R2:=fun x y H Q=>∃a b xs ys,x=.ref a/\y=.ref b/\cW K H a xs/\cW K H b ys/\xs≠[]/\xs.length+ys.length<=sizeLine/\
 (ys=[]->Q (.ref a) H)/\(ys≠[]->∀p,H p=none->Q (.ref p) (upd H p (.tup (xs++ys))))
theorem Vals.acR{xs:List V}{us:List Value}(r:Vals xs us):us=[]↔xs=[]:=by
 cases r with
 | nil=>simp
 | cons _ _=>simp
theorem aoQ:Ws X (binaryOp .Add) (av5 X.K):=by
 intro pins s σ H x y v u Q I rx ry h
 obtain⟨a,b,xs,ys,rfl,rfl,ha,hb,hx,hz,q1,q2⟩:=h
 cases rx
 cases ry
 obtain⟨its,r1,p1,_⟩:=I.tuple ha
 obtain⟨its2,r2,p2,_⟩:=I.tuple hb
 refine HT.aoO p1 p2 (fun z=>hx (r1.acR.mp z)) (fun z=>⟨.ref a,H,I,rfl,q1 (r2.acR.mp z)⟩) (fun z=>?_) (by rw[<-r1.length,<-r2.length];exact hz)
 refine⟨.ref s.heap.objs.size,_,I.laid (t':=s.toks) (o:=.tup (xs++ys)) (fun b ob q=>Heap.get?_push_of_some _ q) (Nat.le_refl _) ?_,rfl,q2 (fun w=>z (r2.acR.mpr w)) _ (I.hok.fresh (Nat.le_refl _))⟩
 exact⟨by rw[List.length_append];exact hz,_,r1.append r2,IsTup.new _ _⟩
end
end L2
namespace L2
open PySem PySem.Spec PyProof.Rows
def ixN(n:Nat)(i:Int):Option Nat:=if 0<=i then(if i<n then some i.toNat else none)else if -(n:Int)<=i then some (i+n).toNat else none
def Ql{α:Type}(xs:List α)(i:Int):Option α:=(ixN xs.length i).bind fun j=>xs[j]?
theorem ajz{n:Nat}{i:Int}{j:Nat}(h:ixN n i=some j):seqIndex? i n=some j/\j<n/\-(n:Int)<=i/\i<n:=by
 unfold ixN at h
 by_cases h0:0<=i
 ·rw[if_pos h0]at h
  by_cases h1:i<n
  ·rw[if_pos h1]at h
   have e:i.toNat=j:=Option.some.inj h
   exact⟨by rw[seqIndex_of h0 h1,e],by lia,by lia,h1⟩
  ·rw[if_neg h1]at h;cases h
 ·rw[if_neg h0]at h
  by_cases h1 : -(n:Int)<=i
  ·rw[if_pos h1]at h
   have e:(i+n).toNat=j:=Option.some.inj h
   exact⟨by rw[seqIndex_neg (by lia) h1,e],by lia,h1,by lia⟩
  ·rw[if_neg h1]at h;cases h
theorem ajA{α:Type}{xs:List α}{i:Int}{v:α}(h:Ql xs i=some v):∃j,seqIndex? i xs.length=some j/\xs[j]? = some v/\j<xs.length/\-(xs.length:Int)<=i/\i<xs.length:=by
 unfold Ql at h
 cases e:ixN xs.length i with
 | none=>rw[e]at h;cases h
 | some j =>
   rw[e]at h
   obtain⟨h1,h2,h3,h4⟩:=ajz e
   exact⟨j,h1,h,h2,h3,h4⟩
theorem zM{α:Type}{xs:List α}{j:Nat}{v:α}(h:xs[j]? = some v):Ql xs (j:Int)=some v:=by
 have hj:j<xs.length:=(List.getElem?_eq_some_iff.mp h).1
 have e:ixN xs.length (j:Int)=some j:=by
  unfold ixN
  rw[if_pos (by lia),if_pos (by lia)];simp
 unfold Ql;rw[e];exact h
def aoS(b:Expr):Prop:=∀o i,subscripted b false o i=operate [o,i] (getItem o i)
def IxR(X:Cx)(r:R2):Prop :=
 ∀(value slice:Expr) (pins:List (Addr×Obj)) (s:Shared) (σ:St) (H:Hp) (x y:V) (v u:Value) (Q:VK),Inv X pins σ H s->RelV x v->RelV y u->r x y H Q->
  subscripted slice false v u=operate [v,u] (getItem v u)->wpAny (model X.prog X.w) X.A (subscriptTail value slice v u) (EP X pins σ Q) X.xe s
def MtR(X:Cx)(id:String)(r:V->List V->Hp->VK->Prop):Prop :=
 ∀(pins:List (Addr×Obj)) (s:Shared) (σ:St) (H:Hp) (x:V) (xs:List V) (v:Value) (us:List Value) (Q:VK),Inv X pins σ H s->RelV x v->Vals xs us->r x xs H Q->
  wpAny (model X.prog X.w) X.A (call (.builtin id) (v::us)) (EP X pins σ Q) X.xe s
section
variable{X:Cx}{a b:Expr}{ta tb:TE}{pos:Pos}
theorem aO{r:R2}(hr:IxR X r)(ha:PE X a ta)(hb:PE X b tb)(hs:aoS b):PE X (.Subscript a b pos) (WL r ta tb):=by
 intro pins s σ H Q I h
 exact Subscript_ (ash ha hb I h fun v u s2 x y H2 I2 rx ry q=>hr a b pins s2 σ H2 x y v u Q I2 rx ry q (hs _ _))
def akO(K:PySem.W.Frag):R2:=fun x y H Q=>∃p xs i v,x=.ref p/\y=.int i/\cz K H p xs/\Ql xs i=some v/\Q v H
def ail(K:PySem.W.Frag):R2:=fun x y H Q=>∃p xs i v,x=.ref p/\y=.int i/\cW K H p xs/\Ql xs i=some v/\Q v H
theorem bD:IxR X (akO X.K):=by
 intro value slice pins s σ H x y v u Q I rx ry h hs
 obtain⟨p,xs,i,z,rfl,rfl,hq,he,q⟩:=h
 cases rx
 obtain⟨t,rfl⟩:=ry
 obtain⟨its,r,pl,hz⟩:=I.list hq
 obtain⟨j,h1,h2,h3,h4,h5⟩:=ajA he
 obtain⟨w,ew,rw'⟩:=r.get h2
 have hl:=r.length
 have hn:=WN
 have fin:EP X pins σ Q w s:=⟨z,H,I,rw',q⟩
 by_cases h0:0<=i
 ·have hj:i.toNat=j:=by
   rw[seqIndex_of h0 h5]at h1
   exact Option.some.inj h1
  exact item_listR pl.isList h0 (by lia) (by rw[hj];simpa using ew) fin hs
 ·have hj:(i+(its.toArray.size:Int)).toNat=j:=by
   rw[seqIndex_neg (by lia) h4]at h1
   rw[List.size_toArray,<-hl]
   exact Option.some.inj h1
  exact subscriptTail_builtinR (x:=w) pl.isList.typeIs slot_list_getitem.lookup
   (wpAny_getItem_list_neg (Q:=fun r s'=>r=w/\EP X pins σ Q r s') pl.isList (by lia) (by rw[List.size_toArray]<;>lia) (by lia) (by rw[hj];simpa using ew) ⟨rfl,fin⟩) hs
theorem bB:IxR X (ail X.K):=by
 intro value slice pins s σ H x y v u Q I rx ry h hs
 obtain⟨p,xs,i,z,rfl,rfl,hq,he,q⟩:=h
 cases rx
 obtain⟨t,rfl⟩:=ry
 obtain⟨its,r,pl,hz⟩:=I.tuple hq
 obtain⟨j,h1,h2,h3,h4,h5⟩:=ajA he
 obtain⟨w,ew,rw'⟩:=r.get h2
 have hl:=r.length
 have hn:=WN
 have fin:EP X pins σ Q w s:=⟨z,H,I,rw',q⟩
 exact subscriptTail_builtinR (x:=w) pl.typeIs slot_tuple_getitem.lookup
  (getItem_tuple (j:=j) (Q:=fun r s'=>r=w/\EP X pins σ Q r s') pl (by lia) (by lia) (by rw[List.size_toArray,<-hl];exact h1) (by simpa using ew) ⟨rfl,fin⟩) hs
theorem aim(its:List Value)(n j:Nat)(u:Value):Obj.mapSeq (·.setIfInBounds j u) {cls:=.type "list",data:=.seq its.toArray n}={cls:=.type "list",data:=.seq (its.set j u).toArray n}:=by
 simp[Obj.mapSeq]
theorem Inv.lst{pins:List (Addr×Obj)}{σ:St}{H:Hp}{s:Shared}{p:Addr}{xs:List V}(I:Inv X pins σ H s)(h:H p=some (.lst xs)) :
 ∃(its:List Value) (n:Nat),Vals xs its/\s.heap.get? p=some {cls:=.type "list",data:=.seq its.toArray n}/\xs.length<=sizeLine:=by
 obtain⟨z,its,n,r,e⟩:=I.hok p _ h
 exact⟨its,n,r,e,z⟩
theorem Inv.asp{pins:List (Addr×Obj)}{σ:St}{H:Hp}{s:Shared}{p:Addr}{xs ys:List V}{its its':List Value}{n n':Nat}{f:Obj->Obj}(I:Inv X pins σ H s)(h:H p=some (.lst xs))
 (ho:s.heap.get? p=some {cls:=.type "list",data:=.seq its.toArray n}) (hf:f {cls:=.type "list",data:=.seq its.toArray n}={cls:=.type "list",data:=.seq its'.toArray n'}) (r:Vals ys its') (hz:ys.length<=sizeLine) (t:Nat) :
 Inv X pins σ (upd H p (.lst ys)) {s with heap:=s.heap.update p f,toks:=t}:=by
 have e:(s.heap.update p f).get? p=some {cls:=.type "list",data:=.seq its'.toArray n'}:=by
  rw[Heap.get?_update_self f ho (by rw[hf]<;>rfl),hf]
 refine I.write (x:=p) (e:=p) (by rw[h];trivial) (.inl rfl) (fun b u hb q=>(Heap.get?_update_other _ _ (Ne.symm hb)).trans q) ⟨_,e⟩ ?_
 exact⟨hz,its',n',r,e⟩
def arq:V->V->V->Hp->(Hp->Prop)->Prop:=fun o i v H Q=>∃p xs k j,o=.ref p/\i=.int k/\H p=some (.lst xs)/\ixN xs.length k=some j/\Q (upd H p (.lst (xs.set j v)))
theorem set_list:avT X arq:=by
 intro pins s σ H o i v ov iv u Q I ro ri rv h
 obtain⟨p,xs,k,j,rfl,rfl,hp,hj,q⟩:=h
 cases ro
 obtain⟨t,rfl⟩:=ri
 obtain⟨its,n,r,ho,hz⟩:=I.lst hp
 obtain⟨h1,h2,h3,h4⟩:=ajz hj
 have hl:=r.length
 have hn:=WN
 have I':Inv X pins σ (upd H p (.lst (xs.set j v))) {s with heap:=s.heap.update p (Obj.mapSeq (·.setIfInBounds j u))} :=
  I.asp hp ho (aim its n j u) (r.set rv j) (by rw[List.length_set];exact hz) s.toks
 by_cases h0:0<=k
 ·have hk:k.toNat=j:=by
   rw[seqIndex_of h0 h4]at h1
   exact Option.some.inj h1
  exact PySem.W.ki_setAt ho h0 (by lia) (by rw[List.size_toArray,<-hl];exact h4) (by rw[hk];exact⟨_,I',q⟩)
 ·have hk:(k+(its.toArray.size:Int)).toNat=j:=by
   rw[seqIndex_neg (by lia) h3]at h1
   rw[List.size_toArray,<-hl]
   exact Option.some.inj h1
  exact PySem.W.ki_setBack ho (by lia) (by rw[List.size_toArray,<-hl];exact h3) (by lia) (by rw[hk];exact⟨_,I',q⟩)
theorem acS(lo hi:Option Int)(n:Nat):(sliceBounds lo hi none n).1=((HT.mR n 0 lo:Nat):Int)/\(sliceBounds lo hi none n).2.1=((HT.mR n n hi:Nat):Int)/\(sliceBounds lo hi none n).2.2=1:=by
 refine⟨?_,?_,rfl⟩
 ·cases lo with
  | none=>simp[sliceBounds,HT.mR]
  | some i =>
    simp only[sliceBounds,HT.mR,Option.getD_none,show(1:Int) > 0 by decide,if_true]
    by_cases h:i<0
    ·simp only[h,if_true]<;>lia
    ·simp only[h,if_false]<;>lia
 ·cases hi with
  | none=>simp[sliceBounds,HT.mR]
  | some i =>
    simp only[sliceBounds,HT.mR,Option.getD_none,show(1:Int) > 0 by decide,if_true]
    by_cases h:i<0
    ·simp only[h,if_true]<;>lia
    ·simp only[h,if_false]<;>lia
theorem aav(its:List Value)(lo hi:Option Int):slicePick its.toArray lo hi none=((its.drop (HT.mR its.length 0 lo)).take (HT.mR its.length its.length hi - HT.mR its.length 0 lo)).toArray:=by
 obtain⟨h1,h2,h3⟩:=acS lo hi its.toArray.size
 unfold slicePick
 rw[h1,h2,h3]
 simp only[sliceRange_one,pick_run,List.size_toArray]<;>rfl
def azj(K:PySem.W.Frag):V->Option Int->Option Int->Hp->VK->Prop:=fun x lo hi H Q=>∃a xs,x=.ref a/\cz K H a xs/\∀p,H p=none->Q (.ref p) (upd H p (.lst (Qq xs lo hi)))
theorem aoT:SlR X (azj X.K):=by
 intro pins s σ H x v vl vu lo hi sl Q I rx hs pl pu h
 obtain⟨a,xs,rfl,hx,q⟩:=h
 cases rx
 obtain⟨its,r,ht,hz⟩:=I.list hx
 have hlen:=r.length
 refine⟨"list",_,slot_list_getitem.lookup,ht.isList.typeIs,?_⟩
 refine wpAny_getItem_list_slice ht.isList hs pl pu .none (by simp) ?_ (by rw[List.size_toArray]<;>lia)
 rw[aav,<-hlen]
 refine⟨.ref s.heap.objs.size,_,I.laid (t':=s.toks) (o:=.lst (Qq xs lo hi)) (fun b ob q=>Heap.get?_push_of_some _ q) (Nat.le_refl _) ?_,rfl,q _ (I.hok.fresh (Nat.le_refl _))⟩
 exact⟨Nat.le_trans (R1 xs lo hi) hz,_,0,(r.drop (HT.mR xs.length 0 lo)).take (HT.mR xs.length xs.length hi - HT.mR xs.length 0 lo),Heap.get?_push_size _ rfl⟩
def Ij:V->Bool
 | .non=>true
 | .bl _=>true
 | .int _=>true
 | .str _=>true
 | _=>false
def eqV:V->V->Bool
 | .non,.non=>true
 | .bl a,.bl b=>a == b
 | .bl a,.int b=>(if a then 1 else 0) == b
 | .int a,.bl b=>a == (if b then 1 else 0)
 | .int a,.int b=>a == b
 | .str a,.str b=>a == b
 | _,_=>false
theorem asr{A:Around}{s:Shared}{y x:V}{u v:Value}(ry:RelV y u)(rx:RelV x v)(fy:Ij y=true)(fx:Ij x=true):SeqAt.EqAt A s u v (eqV y x):=by
 cases y with
 | non =>
   cases ry
   cases x with
   | non=>cases rx;exact SeqAt.EqAt.same _
   | bl b=>cases rx;exact SeqAt.EqAt.none_bool b
   | int b=>obtain⟨t,rfl⟩:=rx;exact SeqAt.EqAt.none_int b t
   | str b=>obtain⟨t,rfl⟩:=rx;exact SeqAt.EqAt.none_str b t
   | _=>exact absurd (show false=true from fx) Bool.false_ne_true
 | bl a =>
   cases ry
   cases x with
   | non=>cases rx;exact SeqAt.EqAt.bool_none a
   | bl b=>cases rx;exact SeqAt.EqAt.bool_bool a b
   | int b=>obtain⟨t,rfl⟩:=rx;exact SeqAt.EqAt.bool_int a b t
   | str b=>obtain⟨t,rfl⟩:=rx;exact SeqAt.EqAt.bool_str a b t
   | _=>exact absurd (show false=true from fx) Bool.false_ne_true
 | int a =>
   obtain⟨t',rfl⟩:=ry
   cases x with
   | non=>cases rx;exact SeqAt.EqAt.int_none a t'
   | bl b=>cases rx;exact SeqAt.EqAt.int_bool a t' b
   | int b=>obtain⟨t,rfl⟩:=rx;exact SeqAt.EqAt.int_int a t' b t
   | str b=>obtain⟨t,rfl⟩:=rx;exact SeqAt.EqAt.int_str a t' b t
   | _=>exact absurd (show false=true from fx) Bool.false_ne_true
 | str a =>
   obtain⟨t',rfl⟩:=ry
   cases x with
   | non=>cases rx;exact SeqAt.EqAt.str_none a t'
   | bl b=>cases rx;exact SeqAt.EqAt.str_bool a t' b
   | int b=>obtain⟨t,rfl⟩:=rx;exact SeqAt.EqAt.str_int a t' b t
   | str b=>obtain⟨t,rfl⟩:=rx;exact SeqAt.EqAt.str_str a t' b t
   | _=>exact absurd (show false=true from fx) Bool.false_ne_true
 | _=>exact absurd (show false=true from fy) Bool.false_ne_true
def eqU(x:V)(u:Value):Bool:=match u with
 | .none=>eqV .non x
 | .bool b=>eqV (.bl b) x
 | .int i _=>eqV (.int i) x
 | .str z _=>eqV (.str z) x
 | _=>false
theorem amg{x y:V}{u:Value}(r:RelV y u)(f:Ij y=true):eqU x u=eqV y x:=by
 cases y with
 | non=>cases r;rfl
 | bl b=>cases r;rfl
 | int i=>obtain⟨t,rfl⟩:=r;rfl
 | str z=>obtain⟨t,rfl⟩:=r;rfl
 | _=>exact absurd (show false=true from f) Bool.false_ne_true
theorem acT{x:V}:∀{xs:List V} {us:List Value},Vals xs us->xs.all Ij=true->us.any (eqU x)=xs.any fun y=>eqV y x
 | _,_,.nil,_=>rfl
 | y::xs,u::us,.cons r t,f=>by
   rw[List.all_cons,Bool.and_eq_true]at f
   rw[List.any_cons,List.any_cons,amg r f.1,acT t f.2]
theorem WY{A:Around}{s:Shared}{x:V}{v:Value}(rx:RelV x v)(fx:Ij x=true):∀{xs:List V} {us:List Value},Vals xs us->xs.all Ij=true->∀u∈us,SeqAt.EqAt A s u v (eqU x u)
 | _,_,.nil,_=>fun u hu=>by cases hu
 | y::xs,u::us,.cons r t,f=>fun u' hu=>by
   rw[List.all_cons,Bool.and_eq_true]at f
   rcases List.mem_cons.mp hu with rfl | hu
   ·rw[amg r f.1];exact asr r rx f.1 fx
   ·exact WY rx fx t f.2 u' hu
def inV(x:V)(xs:List V):Bool:=xs.any fun y=>eqV y x
def rIn(K:PySem.W.Frag)(neg:Bool):R2:=fun x y H Q=>∃p xs,y=.ref p/\(cz K H p xs\/cW K H p xs)/\Ij x=true/\xs.all Ij=true/\Q (.bl (if neg then !inV x xs else inV x xs)) H
theorem Lz:Ws X (compareOp .NotIn) (rIn X.K true):=by
 intro pins s σ H x y v u Q I rx ry h
 obtain⟨p,xs,rfl,hq,fx,fs,q⟩:=h
 cases ry
 rcases hq with hq | hq
 ·obtain⟨its,r,pl,hz⟩:=I.list hq
  refine SeqAt.notIn_listAt (eqU x) pl.isList (fun w hw=>WY rx fx r fs w (by simpa using hw)) ⟨.bl _,H,I,rfl,?_⟩
  rw[show its.toArray.any (eqU x)=its.any (eqU x)by simp,acT r fs]
  exact q
 ·obtain⟨its,r,pl,hz⟩:=I.tuple hq
  refine SeqAt.notIn_tupleAt (eqU x) pl (fun w hw=>WY rx fx r fs w (by simpa using hw)) ⟨.bl _,H,I,rfl,?_⟩
  rw[show its.toArray.any (eqU x)=its.any (eqU x)by simp,acT r fs]
  exact q
theorem dq:RW X (.builtin "len") (fun xs H Q=>∃p ys,xs=[.ref p]/\(cz X.K H p ys\/cW X.K H p ys)/\Q (.int ys.length) H):=by
 intro pins s σ H xs us Q I r h
 obtain⟨p,ys,rfl,hq,q⟩:=h
 obtain⟨u,rfl,rx⟩:=vals1 r
 cases rx
 have hn:=WN
 rcases hq with hq | hq
 ·obtain⟨its,r',pl,hz⟩:=I.list hq
  have hlen:=r'.length
  exact Calls.call_len_list pl.isList (by simp only[List.size_toArray]<;>lia) ⟨.int ys.length,H,I.tok _,⟨s.toks+1,by rw[List.size_toArray,hlen]⟩,q⟩
 ·obtain⟨its,r',pl,hz⟩:=I.tuple hq
  have hlen:=r'.length
  exact len_tuple pl (by simp only[List.size_toArray]<;>lia) ⟨.int ys.length,H,I.tok _,⟨s.toks+1,by rw[List.size_toArray,hlen]⟩,q⟩
theorem sH:RW X (.type "list") (fun xs H Q=>∃p ys,xs=[.ref p]/\(cz X.K H p ys\/cW X.K H p ys)/\∀l,H l=none->Q (.ref l) (upd H l (.lst ys))):=by
 intro pins s σ H xs us Q I r h
 obtain⟨p,ys,rfl,hq,q⟩:=h
 obtain⟨u,rfl,rx⟩:=vals1 r
 cases rx
 have fin:∀(its:List Value),Vals ys its->ys.length<=sizeLine->∀(h':Heap) (c':Nat),(∀b o',s.heap.get? b=some o'->h'.get? b=some o')->
  h'.get? s.heap.objs.size=some {cls:=.type "list",dict:=none,data:=.seq its.toArray c',slots := #[]}->EP X pins σ Q (.ref s.heap.objs.size) {s with heap:=h'}:=fun its r' hz h' c' kp e =>
  ⟨.ref s.heap.objs.size,_,I.laid (t':=s.toks) kp (Nat.le_refl _) (show fO X.prog X.w _ h' _ (.lst ys)from⟨hz,its,c',r',e⟩),rfl,q _ (I.hok.fresh (Nat.le_refl _))⟩
 rcases hq with hq | hq
 ·obtain⟨its,r',pl,hz⟩:=I.list hq
  have hlen:=r'.length
  obtain⟨o,ho,hc,n,hd⟩:=pl.isList
  exact call_list_seq p (.inl rfl) ho hc hd (fun h' c' kp e=>fin its r' hz h' c' kp e) (by simp only[List.size_toArray]<;>lia)
 ·obtain⟨its,r',pl,hz⟩:=I.tuple hq
  have hlen:=r'.length
  obtain⟨o,ho,hc,n,hd⟩:=pl
  exact call_list_seq p (.inr rfl) ho hc hd (fun h' c' kp e=>fin its r' hz h' c' kp e) (by simp only[List.size_toArray]<;>lia)
def tyV(K:PySem.W.Frag)(T:String)(x:V)(H:Hp):Prop:=match x with
 | .str _=>T="str"
 | .int _=>T="int"
 | .ref p=>(T="list"/\∃xs,cz K H p xs)\/(T="tuple"/\∃o,K.lookup p=some o/\o.cls=.type "tuple"/\o.dict=none)\/
    (T="dict"/\((∃kvs,H p=some (.dK kvs))\/∃kvs,H p=some (.dT kvs)))\/(T="set"/\∃S n,H p=some (.set S n))
 | _=>False
theorem amh{pins:List (Addr×Obj)}{σ:St}{H:Hp}{s:Shared}{T:String}{x:V}{v:Value}(I:Inv X pins σ H s)(r:RelV x v)(ty:tyV X.K T x H) :
 s.TypeIs v T/\∀a,v=.ref a->∃ob,s.heap.get? a=some ob/\ob.dict=none:=by
 cases x with
 | str z =>
   obtain⟨t,rfl⟩:=r
   cases (show T="str" from ty)
   exact⟨typeIs_str s z t,fun _ e=>nomatch e⟩
 | int i =>
   obtain⟨t,rfl⟩:=r
   cases (show T="int" from ty)
   exact⟨typeIs_int s i t,fun _ e=>nomatch e⟩
 | ref p =>
   cases r
   rcases ty with ⟨rfl,xs,hq⟩ | ⟨rfl,o,hk,hc,hd⟩ | ⟨rfl,hk⟩ | ⟨rfl,S,n,hk⟩
   ·obtain⟨its,_,pl,_⟩:=I.list hq
    refine⟨pl.isList.typeIs,fun a e=>?_⟩
    cases e
    obtain⟨o,n,e,c,hd,_⟩:=pl
    exact⟨o,e,hd⟩
   ·refine⟨⟨o,I.yg p o hk,hc⟩,fun a e=>?_⟩
    cases e
    exact⟨o,I.yg _ o hk,hd⟩
   ·have z:∃o,s.heap.get? p=some o/\o.ExactDict:=by
     rcases hk with ⟨kvs,hk⟩ | ⟨kvs,hk⟩
     ·obtain⟨_,_,_,_,o,_,_,e,ex,_⟩:=I.hok p _ hk
      exact⟨o,e,ex⟩
     ·obtain⟨_,_,_,_,o,_,_,e,ex,_⟩:=I.hok p _ hk
      exact⟨o,e,ex⟩
    obtain⟨o,e,ex⟩:=z
    refine⟨⟨o,e,ex.1⟩,fun a e2=>?_⟩
    cases e2
    exact⟨o,e,ex.2.1⟩
   ·obtain⟨o,_,_,_,e,ex,_⟩:=I.hok p _ hk
    refine⟨⟨o,e,ex.1⟩,fun a e2=>?_⟩
    cases e2
    exact⟨o,e,ex.2.1⟩
 | _=>exact False.elim ty
def azm(K:PySem.W.Frag)(T:String)(r:V->List V->Hp->VK->Prop)(to:TE):TE:=fun σ H Q=>to σ H fun x H1=>tyV K T x H1/\r x [] H1 Q
def tBM(K:PySem.W.Frag)(T:String)(r:V->List V->Hp->VK->Prop)(to:TE)(t:TA):TE:=fun σ H Q=>to σ H fun x H1=>tyV K T x H1/\t σ H1 fun xs H2=>r x xs H2 Q
variable{o e:Expr}{es:List Expr}{to:TE}{t:TA}{name:Str}{apos cpos:Pos}{T id:String}{r:V->List V->Hp->VK->Prop}
theorem ami(pa:PlainAttrs T)(slot:Slot T name id)(hty:typeOf (.builtin id)=pure (.type "method_descriptor")) (hm:MtR X id r) (ho:PE X o to)
 (hbase:attributeBase o name X.env (eval o X.env)=eval o X.env:=by rfl) (hline:(apos.endLine == cpos.line)=true:=by rfl):PE X (.Call (.Attribute o name apos) [] [] cpos) (azm X.K T r to):=by
 intro pins s σ H Q I h
 refine wpAny_Call_method0_late hbase hline (gC (ho pins s σ H _ I h) fun v s1 hz=>kW hz fun x H1 I1 r1 ⟨ty,q1⟩=>?_)
 obtain⟨h1,h2⟩:=amh I1 r1 ty
 exact⟨T,id,pa,slot,hty,h1,h2,Calls.callWith_builtin rfl (PySem.evalArgs_none (hm pins s1 σ H1 x [] v [] Q I1 r1 .nil q1))⟩
theorem fB(pa:PlainAttrs T)(slot:Slot T name id)(hty:typeOf (.builtin id)=pure (.type "method_descriptor")) (hm:MtR X id r) (ho:PE X o to) (ha:PA X (e::es) t)
 (hbase:attributeBase o name X.env (eval o X.env)=eval o X.env:=by rfl)
 (hfew:((backTo cpos (starEach (e::es) X.env)).all (fun x => !x.1) && (backToKw cpos (keywordEach [] X.env)).all (fun x=>x.1.isSome)
   && decide ((e::es).length+([]:List Keyword).length+(if([]:List Keyword).isEmpty then 0 else 1)<30))=true:=by rfl)
 (hline:(apos.endLine == cpos.line)=true:=by rfl) (hs:starEach (e::es) X.env=(false,eval e X.env)::starEach es X.env:=by rfl) (hplain:(backTo cpos (starEach es X.env)).any (·.1)=false:=by rfl) :
 PE X (.Call (.Attribute o name apos) (e::es) [] cpos) (tBM X.K T r to t):=by
 intro pins s σ H Q I h
 refine wpAny_Call_method_late hbase hfew hline rfl (gC (ho pins s σ H _ I h) fun v s1 hz=>kW hz fun x H1 I1 r1 ⟨ty,q1⟩=>?_)
 obtain⟨h1,h2⟩:=amh I1 r1 ty
 refine⟨T,id,pa,slot,hty,h1,h2,?_⟩
 have hA:=ha cpos pins s1 σ H1 _ I1 q1
 rw[hs]at hA ⊢
 refine Calls.callWith_builtin (by show(false || (backTo cpos (starEach es X.env)).any (·.1))=false;rw[hplain]<;>rfl) (Calls.evalArgs_plain ?_)
 exact gC hA fun us s2 hz=>kW hz fun vs H2 I2 r2 q2=>hm pins s2 σ H2 x vs v us Q I2 r1 r2 q2
end
end L2
namespace L2
open PySem PySem.Spec PyProof.Rows
def MtM(X:Cx)(id:String)(r:V->List V->Hp->VK->Prop):Prop :=
 ∀(pins:List (Addr×Obj)) (s:Shared) (σ:St) (H:Hp) (x:V) (xs:List V) (v:Value) (us:List Value) (Q:VK),Inv X pins σ H s->RelV x v->Vals xs us->r x xs H Q->
  wpAny (model X.prog X.w) X.A (call (.builtin id) (v::us)) (EP X pins σ Q) X.xe s
theorem Vals.one:∀{x:V} {us:List Value},Vals [x] us->∃u,us=[u]/\RelV x u:=by
 intro x us h
 cases h with
 | cons r t=>cases t;exact⟨_,rfl,r⟩
theorem Vals.two:∀{x y:V} {us:List Value},Vals [x,y] us->∃u v,us=[u,v]/\RelV x u/\RelV y v:=by
 intro x y us h
 cases h with
 | cons r t =>
   cases t with
   | cons q t=>cases t;exact⟨_,_,rfl,r,q⟩
theorem Vals.zero:∀{us:List Value},Vals [] us->us=[]
 | _,.nil=>rfl
theorem Vals.dropLast{xs:List V}{us:List Value}(h:Vals xs us):Vals xs.dropLast us.dropLast:=by
 induction h with
 | nil=>exact .nil
 | cons r t ih =>
   cases t with
   | nil=>exact .nil
   | cons q t'=>exact .cons r ih
theorem Vals.eraseIdx:∀{xs:List V} {us:List Value} (i:Nat),Vals xs us->Vals (xs.eraseIdx i) (us.eraseIdx i)
 | _,_,_,.nil=>.nil
 | _,_,0,.cons _ t=>t
 | _,_,i+1,.cons r t=>.cons r (Vals.eraseIdx i t)
theorem Vals.rep{xs:List V}{us:List Value}(h:Vals xs us):∀k:Nat,Vals (List.replicate k xs).flatten (List.replicate k us).flatten
 | 0=>.nil
 | k+1=>by
   rw[List.replicate_succ,List.replicate_succ,List.flatten_cons,List.flatten_cons]
   exact Vals.append h (Vals.rep h k)
theorem ain{α:Type}(l:List α):l.eraseIdx (l.length - 1)=l.dropLast:=by
 induction l with
 | nil=>rfl
 | cons a r ih =>
   cases r with
   | nil=>rfl
   | cons b r =>
     have e:(a::b::r).length - 1=((b::r).length - 1)+1:=by
      have h1:(a::b::r).length=r.length+2:=rfl
      have h2:(b::r).length=r.length+1:=rfl
      lia
     rw[e,List.eraseIdx_cons_succ,ih]
     all_goals rfl
theorem ab1{α:Type}:∀(l:List α) (i:Nat),(l.eraseIdx i).length<=l.length
 | [],_=>Nat.le_refl _
 | _::_,0=>Nat.le_succ _
 | _::r,i+1=>Nat.succ_le_succ (ab1 r i)
theorem foldl_rep(its:List Value):∀(k:Nat) (acc:List Value),
 List.foldl (fun x1 x2=>x1++x2) acc.toArray (List.replicate k its.toArray)=(acc++(List.replicate k its).flatten).toArray
 | 0,acc=>by simp
 | k+1,acc=>by
   have e:acc.toArray++its.toArray=(acc++its).toArray:=by simp
   have e2:(acc++its)++(List.replicate k its).flatten=acc++(List.replicate (k+1) its).flatten:=by
    rw[List.replicate_succ,List.flatten_cons,List.append_assoc]
   rw[<-e2,<-foldl_rep its k (acc++its),<-e,List.replicate_succ,List.foldl_cons]
section
variable{X:Cx}{pins:List (Addr×Obj)}{σ:St}{H:Hp}{s:Shared}{l b:Addr}{xs ys zs:List V}
theorem Inv.amj{its its':List Value}{n:Nat}{f:Array Value->Array Value}{t':Nat}(I:Inv X pins σ H s)(hH:H l=some (.lst xs))
 (e:s.heap.get? l=some {cls:=.type "list",data:=.seq its.toArray n}) (hf:f its.toArray=its'.toArray) (hv:Vals ys its') (hz:ys.length<=sizeLine) :
 Inv X pins σ (upd H l (.lst ys)) {s with heap:=s.heap.update l (Obj.mapSeq f),toks:=t'}:=by
 have q:=PySem.IsL.update e f
 rw[hf]at q
 refine I.write (x:=l) (e:=l) (by rw[hH];exact trivial) (.inl rfl) (fun b' u hb hu=>(Heap.get?_update_other s.heap (Obj.mapSeq f) (Ne.symm hb)).trans hu) ⟨_,q⟩ ?_
 exact⟨hz,its',_,hv,q⟩
theorem Inv.ass{its:List Value}{t':Nat}(I:Inv X pins σ H s)(hv:Vals ys its)(hz:ys.length<=sizeLine) :
 Inv X pins σ (upd H s.heap.objs.size (.lst ys)) {s with heap:=s.heap.push {cls:=.type "list",data:=.seq its.toArray},toks:=t'} :=
 I.laid (fun _ _ q=>Heap.get?_push_of_some _ q) (Nat.le_refl _) ⟨hz,its,0,hv,Heap.get?_push_size _ rfl⟩
theorem Inv.fresh(I:Inv X pins σ H s):H s.heap.objs.size=none:=I.hok.fresh (Nat.le_refl _)
theorem Inv.aio(I:Inv X pins σ H s)(hH:H l=some (.lst xs)):xs.length<=sizeLine/\∃(its:List Value) (n:Nat),Vals xs its/\xs.length=its.length/\s.heap.get? l=some {cls:=.type "list",data:=.seq its.toArray n}:=by
 obtain⟨z,its,n,r,e⟩:=I.hok l _ hH
 exact⟨z,its,n,r,r.length,e⟩
theorem afU{n:Nat}(h:n<=sizeLine):Builtin.List.listTooLong n=false:=by
 unfold Builtin.List.listTooLong
 exact decide_eq_false (by lia)
end
section
variable{X:Cx}
def LC:V->List V->Hp->VK->Prop:=fun x vs H Q=>∃l xs y,x=.ref l/\vs=[y]/\H l=some (.lst xs)/\xs.length<sizeLine/\Q .non (upd H l (.lst (xs++[y])))
theorem cG:MtM X "list.append" LC:=by
 intro pins s σ H x vs v us Q I rx rv h
 obtain⟨l,xs,y,rfl,rfl,hH,hz,q⟩:=h
 cases rx
 obtain⟨u,rfl,ru⟩:=rv.one
 obtain⟨z,its,n,r,hl,e⟩:=I.aio hH
 refine call_meets F.slot_list_append ⟨_,e,rfl⟩ F.entry_list_append (F.args_list_append_2 _ _) (PySem.list_append l its.toArray n u (by rw[List.size_toArray];lia)) ⟨e,?_⟩
 refine⟨.non,_,I.amj (its':=its++[u]) hH e (by simp) (r.append (.cons ru .nil)) ?_,rfl,q⟩
 rw[List.length_append,List.length_singleton]
 lia
def azn:V->List V->Hp->VK->Prop:=fun x vs H Q=>∃l xs y,x=.ref l/\vs=[]/\H l=some (.lst xs)/\xs[xs.length - 1]? = some y/\Q y (upd H l (.lst xs.dropLast))
theorem amk:MtM X "list.pop" azn:=by
 intro pins s σ H x vs v us Q I rx rv h
 obtain⟨l,xs,y,rfl,rfl,hH,hy,q⟩:=h
 cases rx
 have hus:=rv.zero
 subst hus
 obtain⟨z,its,n,r,hl,e⟩:=I.aio hH
 obtain⟨u,hu,ru⟩:=r.get hy
 have hy':its.toArray[its.toArray.size - 1]? = some u:=by
  show its.toArray[its.length - 1]? = some u
  rw[<-Array.getElem?_toList,<-hl]
  exact hu
 refine call_meets F.slot_list_pop ⟨_,e,rfl⟩ F.entry_list_pop (F.args_list_pop_1 _) (MeetsSeq.list_pop_last l its.toArray n u hy' (by rw[List.size_toArray];lia)) ⟨e,?_⟩
 refine⟨y,_,I.amj (its':=its.dropLast) hH e ?_ r.dropLast ?_,ru,q⟩
 ·show its.toArray.eraseIdxIfInBounds (its.toArray.size - 1)=its.dropLast.toArray
  rw[List.size_toArray,List.eraseIdxIfInBounds_toArray,ain]
 ·rw[List.length_dropLast]
  lia
def asu:V->List V->Hp->VK->Prop:=fun x vs H Q=>∃l xs i k y,x=.ref l/\vs=[.int i]/\H l=some (.lst xs)/\-(2 ^ 63)<=i/\i<2 ^ 63/\seqIndex? i xs.length=some k/\xs[k]? = some y/\Q y (upd H l (.lst (xs.eraseIdx k)))
theorem Et:MtM X "list.pop" asu:=by
 intro pins s σ H x vs v us Q I rx rv h
 obtain⟨l,xs,i,k,y,rfl,rfl,hH,h1,h2,hk,hy,q⟩:=h
 cases rx
 obtain⟨u,rfl,ru⟩:=rv.one
 obtain⟨t,rfl⟩:=ru
 obtain⟨z,its,n,r,hl,e⟩:=I.aio hH
 obtain⟨w,hw,rw'⟩:=r.get hy
 refine call_meets F.slot_list_pop ⟨_,e,rfl⟩ F.entry_list_pop (F.args_list_pop_2 _ _)
  (MeetsSeq.list_pop_at l its.toArray n i t k w (fitsIndex_both h1 h2) (by rw[List.size_toArray,<-hl];exact hk) (by rw[<-Array.getElem?_toList];exact hw) (by rw[List.size_toArray];lia)) ⟨e,?_⟩
 refine⟨y,_,I.amj (its':=its.eraseIdx k) hH e ?_ (r.eraseIdx k) ?_,rw',q⟩
 ·show its.toArray.eraseIdxIfInBounds k=(its.eraseIdx k).toArray
  rw[List.eraseIdxIfInBounds_toArray]
 ·have:=ab1 xs k
  lia
def asv:R2:=fun x y H Q=>∃l b xs zs,x=.ref l/\y=.ref b/\H l=some (.lst xs)/\H b=some (.lst zs)/\xs.length+zs.length<=sizeLine/\∀p,H p=none->Q (.ref p) (upd H p (.lst (xs++zs)))
theorem mW:Ws X (binaryOp .Add) asv:=by
 intro pins s σ H x y v u Q I rx ry h
 obtain⟨l,b,xs,zs,rfl,rfl,hH,hB,hz,q⟩:=h
 cases rx
 cases ry
 obtain⟨z,its,n,r,hl,e⟩:=I.aio hH
 obtain⟨z2,its2,n2,r2,hl2,e2⟩:=I.aio hB
 refine PySem.P.add_list e e2 ?_ (by rw[List.size_toArray,List.size_toArray];lia)
 have ea:its.toArray++its2.toArray=(its++its2).toArray:=by simp
 rw[ea]
 exact⟨.ref _,_,I.ass (t':=s.toks) (r.append r2) (by rw[List.length_append];lia),rfl,q _ I.fresh⟩
def azo:R2:=fun x y H Q=>∃l k xs,x=.ref l/\y=.int k/\H l=some (.lst xs)/\-(2 ^ 63)<=k/\k<2 ^ 63/\xs.length*k.toNat<=sizeLine/\
 ∀p,H p=none->Q (.ref p) (upd H p (.lst (List.replicate k.toNat xs).flatten))
theorem len_rep{α:Type}(xs:List α)(k:Nat):(List.replicate k xs).flatten.length=k*xs.length:=by
 induction k with
 | zero=>simp
 | succ k ih=>rw[List.replicate_succ,List.flatten_cons,List.length_append,ih,Nat.succ_mul,Nat.add_comm]
theorem aml:Ws X (binaryOp .Mult) azo:=by
 intro pins s σ H x y v u Q I rx ry h
 obtain⟨l,k,xs,rfl,rfl,hH,h1,h2,hz,q⟩:=h
 cases rx
 obtain⟨t,rfl⟩:=ry
 obtain⟨z,its,n,r,hl,e⟩:=I.aio hH
 have hlen:its.toArray.size*k.toNat<=sizeLine:=by rw[List.size_toArray,<-hl];exact hz
 have azp:¬its.toArray.size*k.toNat > (2 ^ 63 - 1) / 8:=by
  have:(sizeLine:Nat)<=(2 ^ 63 - 1) / 8:=by decide
  lia
 have hfit:¬(!Builtin.List.listFitsIndex k)=true:=by
  rw[fitsIndex_both h1 h2]
  exact Bool.false_ne_true
 have av8:¬Builtin.List.listTooLong (its.toArray.size*k.toNat)=true:=by
  rw[afU hlen]
  exact Bool.false_ne_true
 have hnew:List.foldl (fun x1 x2=>x1++x2) #[] (List.replicate (if its.toArray.isEmpty=true then 0 else k.toNat) its.toArray)=(List.replicate k.toNat its).flatten.toArray:=by
  have f0:∀m:Nat,List.foldl (fun x1 x2=>x1++x2) #[] (List.replicate m its.toArray)=(List.replicate m its).flatten.toArray:=fun m=>by
   have:=foldl_rep its m []
   rw[List.nil_append]at this
   exact this
  rw[f0]
  cases its with
  | nil=>simp
  | cons a r'=>rw[if_neg (by simp)]
 refine wpAny_binaryOp_repeat_ref (T:="list") (U:="int") (by decide) ⟨_,e,rfl⟩ (fun s'=>typeIs_int s' k t) noFill_list_mul F.fills_int_mul F.slot_int_rmul repeat_list F.slot_int_index.lookup
  (call_meets F.slot_int_rmul (typeIs_int s k t) F.entry_int_rmul (F.args_int_rmul_2 _ _) (int___rmul___int_list k t l its.toArray n)
    ⟨e,rfl,⟨_,e,rfl⟩,call_meets F.slot_list_mul ⟨_,e,rfl⟩ F.entry_list_mul (F.args_list_mul_2 _ _) (AutoListH.list___mul___list_int_3 l its.toArray n k t hfit azp av8) ⟨e,?_⟩⟩)
 rw[hnew]
 exact⟨.ref _,_,I.ass (t':=s.toks) (r.rep k.toNat) (by rw[len_rep,Nat.mul_comm];exact hz),rfl,q _ I.fresh⟩
end
section
variable{prog:Program}{w:World}{A:Around}{E:Value->Shared->Prop}{s:Shared}
end
section
variable{X:Cx}
end
end L2
namespace L2
open PySem PySem.Spec PyProof.Rows
section
variable{κ:Type}[DecidableEq κ]
def fQ(kvs:List (κ×V))(k:κ):Option V:=(kvs.find? fun kv=>decide (kv.1=k)).map (·.2)
def putK(kvs:List (κ×V))(k:κ)(v:V):List (κ×V) :=
 if(kvs.any fun kv=>decide (kv.1=k))=true then kvs.map (fun kv=>if kv.1=k then(kv.1,v)else kv)else kvs++[(k,v)]
def yj(kvs:List (κ×V))(k:κ):List (κ×V):=kvs.filter fun kv=>decide (kv.1≠k)
theorem jR{p:κ×V}{r:List (κ×V)}{k:κ}(e:p.1=k):fQ (p::r) k=some p.2:=by simp[fQ,List.find?_cons,e]
theorem jT{p:κ×V}{r:List (κ×V)}{k:κ}(e:¬p.1=k):fQ (p::r) k=fQ r k:=by simp[fQ,List.find?_cons,e]
theorem LK(k:κ):∀kvs:List (κ×V),(kvs.any fun kv=>decide (kv.1=k))=(fQ kvs k).isSome
 | []=>rfl
 | p::r=>by
   rw[List.any_cons]
   by_cases e:p.1=k
   ·simp only[jR e,decide_eq_true e,Bool.true_or,Option.isSome_some]
   ·rw[jT e,decide_eq_false e,Bool.false_or];exact LK k r
theorem afV(k j:κ)(y:V):∀kvs:List (κ×V),fQ (kvs.map fun kv=>if kv.1=k then(kv.1,y)else kv) j=(fQ kvs j).map fun x=>if j=k then y else x
 | []=>rfl
 | p::r=>by
   have ih:=afV k j y r
   rw[List.map_cons]
   by_cases h:p.1=k
   ·rw[if_pos h]
    by_cases e:p.1=j
    ·rw[jR (p:=(p.1,y)) e,jR e,Option.map_some,if_pos (e.symm.trans h)]
    ·rw[jT (p:=(p.1,y)) e,jT e,ih]
   ·rw[if_neg h]
    by_cases e:p.1=j
    ·rw[jR (p:=p) e,jR e,Option.map_some,if_neg (fun z=>h (e.trans z))]
    ·rw[jT (p:=p) e,jT e,ih]
theorem ab2(k j:κ)(y:V):∀kvs:List (κ×V),fQ kvs k=none->fQ (kvs++[(k,y)]) j=if j=k then some y else fQ kvs j
 | [],_=>by
   by_cases e:k=j
   ·rw[if_pos e.symm];exact jR (p:=(k,y)) e
   ·rw[if_neg (fun z=>e z.symm)];exact jT (p:=(k,y)) e
 | p::r,hn=>by
   rw[List.cons_append]
   have hk:¬p.1=k:=fun z=>by rw[jR z]at hn;cases hn
   rw[jT hk]at hn
   have ih:=ab2 k j y r hn
   by_cases e:p.1=j
   ·rw[jR e,jR e,if_neg (fun z=>hk (e.trans z))]
   ·rw[jT e,jT e,ih]
theorem amm(kvs:List (κ×V))(k j:κ)(y:V):fQ (putK kvs k y) j=if j=k then some y else fQ kvs j:=by
 unfold putK
 by_cases a:(kvs.any fun kv=>decide (kv.1=k))=true
 ·rw[if_pos a,afV]
  rw[LK]at a
  by_cases e:j=k
  ·obtain⟨x,hx⟩:=Option.isSome_iff_exists.mp a
   rw[if_pos e,e,hx,Option.map_some,if_pos rfl]
  ·rw[if_neg e]
   cases fQ kvs j with
   | none=>rfl
   | some x=>rw[Option.map_some,if_neg e]
 ·rw[if_neg a]
  refine ab2 k j y kvs ?_
  rw[LK]at a
  cases q:fQ kvs k with
  | none=>rfl
  | some x=>rw[q]at a;exact(a rfl).elim
theorem vG(kvs:List (κ×V))(k:κ)(v:V):(putK kvs k v).length<=kvs.length+1:=by
 unfold putK
 split
 ·rw[List.length_map];lia
 ·rw[List.length_append,List.length_cons,List.length_nil];lia
theorem Dc.Qs{o:Option V}{u:Option Value}(r:Dc o u):o.isSome=u.isSome:=by
 cases o with
 | none=>cases u with
   | none=>rfl
   | some _=>exact(show False from r).elim
 | some _=>cases u with
   | none=>exact(show False from r).elim
   | some _=>rfl
theorem KV.val{kvs:List (κ×V)}{vs:List (κ×Value)}(r:KV kvs vs)(k:κ):Dc (fQ kvs k) (valueAt vs k):=by
 unfold KV at r
 induction r with
 | nil=>exact True.intro
 | @cons p q ps qs h t ih =>
   obtain⟨h1,h2⟩:=h
   by_cases e:p.1=k
   ·have e':q.1=k:=h1.symm.trans e
    have b:valueAt (q::qs) k=some q.2:=by simp[valueAt,List.find?_cons,e']
    rw[jR e,b];exact h2
   ·have e':¬q.1=k:=fun z=>e (h1.trans z)
    have b:valueAt (q::qs) k=valueAt qs k:=by simp[valueAt,List.find?_cons,e']
    rw[jT e,b];exact ih
theorem KV.any{kvs:List (κ×V)}{vs:List (κ×Value)}(r:KV kvs vs)(k:κ):(kvs.any fun kv=>decide (kv.1=k))=vs.any fun kv=>decide (kv.1=k):=by
 unfold KV at r
 induction r with
 | nil=>rfl
 | cons h t ih=>rw[List.any_cons,List.any_cons,ih,h.1]
theorem KV.repl{kvs:List (κ×V)}{vs:List (κ×Value)}(r:KV kvs vs)(k:κ){y:V}{u:Value}(ry:RelV y u) :
 KV (kvs.map fun kv=>if kv.1=k then(kv.1,y)else kv) (vs.map fun kv=>if kv.1=k then(kv.1,u)else kv):=by
 unfold KV at r ⊢
 induction r with
 | nil=>exact .nil
 | @cons p q ps qs h t ih =>
   rw[List.map_cons,List.map_cons]
   refine .cons ?_ ih
   obtain⟨h1,h2⟩:=h
   by_cases e:p.1=k
   ·rw[if_pos e,if_pos (h1.symm.trans e)];exact⟨h1,ry⟩
   ·rw[if_neg e,if_neg (fun z=>e (h1.trans z))];exact⟨h1,h2⟩
theorem KV.put{kvs:List (κ×V)}{vs:List (κ×Value)}(r:KV kvs vs)(k:κ){y:V}{u:Value}(ry:RelV y u):KV (putK kvs k y) (stored vs k u):=by
 unfold putK stored
 rw[r.any k]
 by_cases e:(vs.any fun kv=>decide (kv.1=k))=true
 ·rw[if_pos e,if_pos e];exact r.repl k ry
 ·rw[if_neg e,if_neg e];exact Paired.snoc r ⟨rfl,ry⟩
theorem KV.drop{kvs:List (κ×V)}{vs:List (κ×Value)}(r:KV kvs vs)(k:κ):KV (yj kvs k) (without vs k):=by
 unfold KV at r ⊢
 unfold yj without
 induction r with
 | nil=>exact .nil
 | @cons p q ps qs h t ih =>
   obtain⟨h1,h2⟩:=h
   rw[List.filter_cons,List.filter_cons]
   by_cases e:p.1=k
   ·have a:¬decide (p.1≠k)=true:=by simp[e]
    have b:¬decide (q.1≠k)=true:=by simp[h1.symm.trans e]
    rw[if_neg a,if_neg b];exact ih
   ·have e':¬q.1=k:=fun z=>e (h1.trans z)
    have a:decide (p.1≠k)=true:=by simp[e]
    have b:decide (q.1≠k)=true:=by simp[e']
    rw[if_pos a,if_pos b];exact .cons ⟨h1,h2⟩ ih
theorem KV.length{kvs:List (κ×V)}{vs:List (κ×Value)}(r:KV kvs vs):kvs.length=vs.length:=Paired.length r
theorem afW(kvs:List (κ×V))(k:κ):(yj kvs k).length<=kvs.length:=List.length_filter_le _ _
end
theorem W0{P:Program}{w:World}{k:Key}{u:Value}(r:RelV (kV k) u):(gY P w).is k u=true:=by
 cases k with
 | inl i=>obtain⟨t,e⟩:=(show ∃t,u=Value.int i t from r);subst e;exact afI P w i t
 | inr x=>obtain⟨t,e⟩:=(show ∃t,u=Value.str x t from r);subst e;exact afJ P w x t
theorem ab3{P:Program}{w:World}:∀{ks:List Key} {us:List Value},Vals (ks.map kV) us->ItemsAre (gY P w) ks us
 | [],_,r=>by rw[List.map_nil]at r;cases r;exact .nil
 | k::ks,_,r=>by
   rw[List.map_cons]at r
   cases r with
   | cons h t=>exact .cons (W0 h) (ab3 t)
abbrev KT(H:Hp):List (List Key×V)->List (List Key×Addr×Value)->Prop:=Paired fun p q=>p.1=q.1/\H q.2.1=some (.tup (p.1.map kV))/\RelV p.2 q.2.2
theorem KT.val{H:Hp}{kvs:List (List Key×V)}{xs:List (List Key×Addr×Value)}(r:KT H kvs xs)(k:List Key):Dc (fQ kvs k) ((atKey xs k).map (·.2)):=by
 induction r with
 | nil=>exact True.intro
 | @cons p q ps qs h t ih =>
   obtain⟨h1,_,h2⟩:=h
   by_cases e:p.1=k
   ·have e':q.1=k:=h1.symm.trans e
    have b:atKey (q::qs) k=some q.2:=by simp[atKey,List.find?_cons,e']
    rw[jR e,b];exact h2
   ·have e':¬q.1=k:=fun z=>e (h1.trans z)
    have b:atKey (q::qs) k=atKey qs k:=by simp[atKey,List.find?_cons,e']
    rw[jT e,b];exact ih
theorem KT.repl{H:Hp}{kvs:List (List Key×V)}{xs:List (List Key×Addr×Value)}(r:KT H kvs xs)(k:List Key){y:V}{u:Value}(ry:RelV y u) :
 KT H (kvs.map fun kv=>if kv.1=k then(kv.1,y)else kv) (xs.map (putAt k u)):=by
 induction r with
 | nil=>exact .nil
 | @cons p q ps qs h t ih =>
   rw[List.map_cons,List.map_cons]
   refine .cons ?_ ih
   obtain⟨h1,h2,h3⟩:=h
   unfold putAt
   by_cases e:p.1=k
   ·rw[if_pos e,if_pos (h1.symm.trans e)];exact⟨h1,h2,ry⟩
   ·rw[if_neg e,if_neg (fun z=>e (h1.trans z))];exact⟨h1,h2,h3⟩
theorem KT.put{H:Hp}{kvs:List (List Key×V)}{xs:List (List Key×Addr×Value)}(r:KT H kvs xs)(k:List Key){b:Addr}{y:V}{u:Value}(hb:H b=some (.tup (k.map kV)))(ry:RelV y u) :
 KT H (putK kvs k y) (storedH xs k b u):=by
 have e:(kvs.any fun kv=>decide (kv.1=k))=(atKey xs k).isSome:=by
  rw[LK,(r.val k).Qs,Option.isSome_map]
 unfold putK storedH
 rw[e]
 by_cases q:(atKey xs k).isSome=true
 ·rw[if_pos q,if_pos q];exact r.repl k ry
 ·rw[if_neg q,if_neg q];exact Paired.snoc r ⟨rfl,hb,ry⟩
theorem KT.keeps{H H':Hp}{kvs:List (List Key×V)}{xs:List (List Key×Addr×Value)}(r:KT H kvs xs)(ht:∀b ys,H b=some (.tup ys)->H' b=some (.tup ys)):KT H' kvs xs :=
 Paired.ar5 r fun _ _ z=>⟨z.1,ht _ _ z.2.1,z.2.2⟩
section
variable{P:Program}{w:World}{H:Hp}{h:Heap}{a:Addr}
theorem art{u:HO}(ok:HY P w H h)(e:Rd H a u):fO P w H h a u:=e.ok ok
theorem afX{kvs:List (Key×V)}(ok:HY P w H h)(e:Rd H a (.dK kvs)):kvs.length<=sizeLine/\(a == sysModules)=false/\∃vs,KV kvs vs/\h.DictOf (gY P w) a vs :=
 show fO P w H h a (.dK kvs)from art ok e
theorem ajB{kvs:List (Key×V)}(ok:HY P w H h)(e:H a=some (.dK kvs)):kvs.length<=sizeLine/\(a == sysModules)=false/\∃vs,KV kvs vs/\h.DictOf (gY P w) a vs:=afX ok (.inl e)
theorem acU{ks:List Key}(ok:HY P w H h)(e:H a=some (.tup (ks.map kV))):(tupleKind (gY P w)).is h ks a:=by
 obtain⟨_,its,r,o,h1,h2,n,h3⟩:=(show fO P w H h a (.tup (ks.map kV))from ok a _ e)
 exact⟨o,its.toArray,n,h1,h2,h3,by simpa using ab3 r⟩
theorem afY{kvs:List (List Key×V)}(ok:HY P w H h)(e:Rd H a (.dT kvs)):kvs.length<=sizeLine/\(a == sysModules)=false/\
 ∃xs,KT H kvs xs/\h.DictOfH (tupleKind (gY P w)) a xs:=by
 obtain⟨z,y,xs,r,o,es,ep,h1,h2,h3,h4,h5⟩:=(show fO P w H h a (.dT kvs)from art ok e)
 refine⟨z,y,xs,r,o,es,ep,h1,h2,h3,h4,fun x hx=>?_,h5⟩
 have all:∀{l:List (List Key×V)} {m:List (List Key×Addr×Value)},KT H l m->∀x∈m,(tupleKind (gY P w)).is h x.1 x.2.1:=by
  intro l m q
  induction q with
  | nil=>intro x hx;exact nomatch hx
  | @cons p q ps qs hq t ih =>
    intro x hx
    rcases List.mem_cons.mp hx with e | hx
    ·subst e
     exact acU ok (by rw[<-hq.1];exact hq.2.1)
    ·exact ih x hx
 exact all r x hx
theorem av9{kvs:List (List Key×V)}(ok:HY P w H h)(e:H a=some (.dT kvs)):kvs.length<=sizeLine/\(a == sysModules)=false/\
 ∃xs,KT H kvs xs/\h.DictOfH (tupleKind (gY P w)) a xs:=afY ok (.inl e)
end
def Ib(H:Hp)(a:Addr)(y:V)(r:Option V):Prop :=
 (∃kvs k,Rd H a (.dK kvs)/\y=kV k/\r=fQ kvs k)\/∃kvs k b,Rd H a (.dT kvs)/\y=.ref b/\H b=some (.tup (k.map kV))/\r=fQ kvs k
def aip(H:Hp)(a:Addr)(y v:V)(H':Hp):Prop :=
 (∃kvs k,H a=some (.dK kvs)/\y=kV k/\kvs.length<sizeLine/\H'=upd H a (.dK (putK kvs k v)))\/
 ∃kvs k b,H a=some (.dT kvs)/\y=.ref b/\H b=some (.tup (k.map kV))/\kvs.length<sizeLine/\H'=upd H a (.dT (putK kvs k v))
theorem Ib.k{H:Hp}{a:Addr}{kvs:List (Key×V)}{k:Key}(e:H a=some (.dK kvs)):Ib H a (kV k) (fQ kvs k):=.inl ⟨kvs,k,.inl e,rfl,rfl⟩
theorem aip.k{H:Hp}{a:Addr}{kvs:List (Key×V)}{k:Key}{v:V}(e:H a=some (.dK kvs))(hl:kvs.length<sizeLine):aip H a (kV k) v (upd H a (.dK (putK kvs k v))):=.inl ⟨kvs,k,e,rfl,hl,rfl⟩
section
variable{X:Cx}{pins:List (Addr×Obj)}{σ:St}{H:Hp}{s:Shared}{a:Addr}{y v:V}{u r:Value}{o:Option V}{A:Around}{E:Value->Shared->Prop}
theorem Inv.big(I:Inv X pins σ H s):sysModules<s.heap.objs.size:=by
 have h:mainGlobals<s.heap.objs.size:=(I.mod.glob.keeps I.bk).lt
 exact Nat.lt_trans (by decide) h
theorem akP{Q:Value->Shared->Prop}(hu:A.units+1<cLine)(I:Inv X pins σ H s)(g:Ib H a y (some v))(ry:RelV y u)(h:∀w' s',Inv X pins σ H s'->RelV v w'->Q w' s') :
 wpAny (model X.prog X.w) A (getItem (.ref a) u) Q E s:=by
 rcases g with ⟨kvs,k,e,ey,l⟩ | ⟨kvs,k,b,e,ey,eb,l⟩
 ·subst ey
  obtain⟨z,hd,vs,rel,dd⟩:=afX I.hok e
  obtain⟨w',hw,rw'⟩:=Dc.some_of (v:=v) (o:=valueAt vs k) (by rw[l];exact rel.val k)
  exact wpAny_getItem_of (W0 ry) dd.mapOf hw (h w' _ (I.tok _) rw')
 ·subst ey
  cases (show u=Value.ref b from ry)
  obtain⟨z,hd,xs,rel,dd⟩:=afY I.hok e
  obtain⟨w',hw,rw'⟩:=Dc.some_of (v:=v) (o:=(atKey xs k).map (·.2)) (by rw[l];exact rel.val k)
  obtain⟨p,hp,hp2⟩:=Option.map_eq_some_iff.mp hw
  refine wpAny_getItem_heap (tupleKind_room_in1 hu) (acU I.hok eb) dd hp ?_
  rw[hp2]
  exact h w' _ (I.tok _) rw'
theorem azq{Q:Value->Shared->Prop}(hu:A.units+1<cLine)(I:Inv X pins σ H s)(g:Ib H a y o)(ry:RelV y u)(h:∀s',Inv X pins σ H s'->Q (.bool o.isSome) s') :
 wpAny (model X.prog X.w) A (compareOp .In u (.ref a)) Q E s:=by
 rcases g with ⟨kvs,k,e,ey,l⟩ | ⟨kvs,k,b,e,ey,eb,l⟩
 ·subst ey
  obtain⟨z,hd,vs,rel,dd⟩:=afX I.hok e
  refine wpAny_in_of (W0 ry) hd dd.mapOf ?_
  rw[<-(rel.val k).Qs,<-l]
  exact h _ (I.tok _)
 ·subst ey
  cases (show u=Value.ref b from ry)
  obtain⟨z,hd,xs,rel,dd⟩:=afY I.hok e
  refine wpAny_in_heap (tupleKind_room_in1 hu) (acU I.hok eb) hd dd ?_
  have q:=(rel.val k).Qs
  rw[Option.isSome_map]at q
  rw[<-q,<-l]
  exact h _ (I.tok _)
theorem Wt{h':Heap}{t':Nat}{ob:HO}(I:Inv X pins σ H s)(mu:Mut (H a))(hs:Heap.SameBut a s.heap h')(he:∃q,h'.get? a=some q)(new:fO X.prog X.w (upd H a ob) h' a ob) :
 Inv X pins σ (upd H a ob) {s with heap:=h',toks:=t'} :=
 I.write (x:=a) (e:=a) mu (.inl rfl) (fun b q hb z=>(hs.2 b hb).trans z) he new
theorem aiq{P:Program}{w:World}{H':Hp}{h':Heap}{kvs:List (Key×V)}{vs:List (Key×Value)}(z:kvs.length<=sizeLine)(hd:(a == sysModules)=false)(rel:KV kvs vs)(dd:h'.DictOf (gY P w) a vs) :
 fO P w H' h' a (.dK kvs):=⟨z,hd,vs,rel,dd⟩
theorem akQ{H':Hp}{Q:Unit->Shared->Prop}(hu:A.units+1<cLine)(I:Inv X pins σ H s)(g:aip H a y v H')(ry:RelV y u)(rv:RelV v r)(h:∀s',Inv X pins σ H' s'->Q () s') :
 wpAny (model X.prog X.w) A (setItem (.ref a) u r) Q E s:=by
 rcases g with ⟨kvs,k,e,ey,l,eH⟩ | ⟨kvs,k,b,e,ey,eb,l,eH⟩
 ·subst ey eH
  obtain⟨z,hd,vs,rel,dd⟩:=ajB I.hok e
  have hz:vs.length<=sizeLine:=by rw[<-rel.length];exact z
  have hl:(putK kvs k v).length<=sizeLine:=by have:=vG kvs k v;lia
  refine wpAny_setItem_pairs (hsz:=hz) (W0 ry) dd fun h' dd' hs=>h _ ?_
  have he:∃q,h'.get? a=some q:=let ⟨q,_,_,hq,_⟩:=dd';⟨q,hq⟩
  exact Wt I (by rw[e];exact True.intro) hs he (aiq hl hd (rel.put k rv) dd')
 ·subst ey eH
  cases (show u=Value.ref b from ry)
  obtain⟨z,hd,xs,rel,dd⟩:=av9 I.hok e
  have hz:xs.length<=sizeLine:=by rw[<-Paired.length rel];exact z
  have hl:(putK kvs k v).length<=sizeLine:=by have:=vG kvs k v;lia
  refine wpAny_setItem_heap (hsz:=hz) (tupleKind_room_in1 hu) (acU I.hok eb) dd fun h' dd' hs=>h _ ?_
  obtain⟨q,es,ep,hq,h2,h3,h4,_,h5⟩:=dd'
  refine Wt I (by rw[e];exact True.intro) hs ⟨q,hq⟩ ⟨hl,hd,_,(rel.put k eb rv).keeps fun c ys ec=>?_,q,es,ep,hq,h2,h3,h4,h5⟩
  rw[aq (jr ec e (fun z=>nomatch z))]
  exact ec
end
section
variable{X:Cx}{pins:List (Addr×Obj)}{σ:St}{H:Hp}{s:Shared}{a:Addr}{kvs:List (Key×V)}{k:Key}{u:Value}{A:Around}{E:Value->Shared->Prop}
theorem awa{v:V}{more:List Value}{Q:Value->Shared->Prop}(I:Inv X pins σ H s)(e:H a=some (.dK kvs))(ry:RelV (kV k) u)(l:fQ kvs k=some v)(hm:more=[]\/∃x,more=[x])
 (h:∀w' s',Inv X pins σ (upd H a (.dK (yj kvs k))) s'->RelV v w'->Q w' s'):wpAny (model X.prog X.w) A (call (.builtin "dict.pop") (.ref a::u::more)) Q E s:=by
 obtain⟨z,hd,vs,rel,dd⟩:=ajB I.hok e
 obtain⟨w',hw,rw'⟩:=Dc.some_of (v:=v) (o:=valueAt vs k) (by rw[<-l];exact rel.val k)
 have hp:(keyPart u).isSome=true:=by
  cases k with
  | inl i=>obtain⟨t,q⟩:=(show ∃t,u=Value.int i t from ry);subst q;rfl
  | inr x=>obtain⟨t,q⟩:=(show ∃t,u=Value.str x t from ry);subst q;rfl
 have ha:argsOk "dict.pop" ⟨.ref a::u::more,[]⟩:=by
  rcases hm with q | ⟨x,q⟩
  ·subst q;exact PySem.F.args_dict_pop_2 _ _
  ·subst q;exact PySem.F.args_dict_pop_3 _ _ _
 refine call_meetsIn PySem.F.slot_dict_pop dd.typeIs PySem.F.entry_dict_pop ha (meets_dict_pop_there (gY X.prog X.w) a (W0 ry) more hm hp)
  ⟨vs,w',dd,by rw[<-rel.length];exact z,hw,fun h' dd' hs=>h w' _ ?_ rw'⟩
 have he:∃q,h'.get? a=some q:=let ⟨q,_,_,hq,_⟩:=dd';⟨q,hq⟩
 exact Wt I (by rw[e];exact True.intro) hs he (aiq (Nat.le_trans (afW kvs k) z) hd (rel.drop k) dd')
theorem asw{r:Value}{Q:Value->Shared->Prop}(I:Inv X pins σ H s)(e:H a=some (.dK kvs))(ry:RelV (kV k) u)(l:fQ kvs k=none)(h:∀s',Inv X pins σ H s'->Q r s') :
 wpAny (model X.prog X.w) A (call (.builtin "dict.pop") [.ref a,u,r]) Q E s:=by
 obtain⟨z,hd,vs,rel,dd⟩:=ajB I.hok e
 have hn:valueAt vs k=none:=Dc.none_of (by rw[<-l];exact rel.val k)
 have hp:(keyPart u).isSome=true:=by
  cases k with
  | inl i=>obtain⟨t,q⟩:=(show ∃t,u=Value.int i t from ry);subst q;rfl
  | inr x=>obtain⟨t,q⟩:=(show ∃t,u=Value.str x t from ry);subst q;rfl
 exact call_meetsIn PySem.F.slot_dict_pop dd.typeIs PySem.F.entry_dict_pop (PySem.F.args_dict_pop_3 _ _ _) (meets_dict_pop_default (gY X.prog X.w) a (W0 ry) hd hp r) ⟨vs,dd,hn,h _ (I.tok _)⟩
end
def asx(i:Expr):Prop:=∀ov iv,subscripted i false ov iv=operate [ov,iv] (getItem ov iv)
theorem ajC{prog:Program}{w:World}{A:Around}{E:Value->Shared->Prop}{s:Shared}{env:Env}{value slice:Expr}{pos:Pos}{T id:String}{Q:Value->Shared->Prop}
 (hl:typeLookup (.type T) "__getitem__"=pure (some (.builtin id))) (hs:asx slice)
 (h:wpAny (model prog w) A (eval value env) (fun o s₁=>wpAny (model prog w) A (eval slice env) (fun i s₂=>s₂.TypeIs o T/\wpAny (model prog w) A (getItem o i) Q E s₂) E s₁) E s) :
 wpAny (model prog w) A (eval (.Subscript value slice pos) env) Q E s:=by
 refine Subscript_ (wpAny_mono h (fun o s₁ h₁=>wpAny_mono h₁ (fun i s₂ h₂=>?_) fun _ _ x=>x) fun _ _ x=>x)
 obtain⟨hT,h₂⟩:=h₂
 unfold subscriptTail
 refine wpAny_bind ?_
 rw[getitemInPython_of_ne hT.not_modules]
 refine wpAny_bind (wpAny_specialOf hT hl ?_)
 have fin:wpAny (model prog w) A (subscripted slice false o i) (fun r s₃=>wpAny (model prog w) A (letTemporaryGo value o r >>= fun _=>pure r) Q E s₃) E s₂:=by
  rw[hs o i]
  exact wpAny_operating (wpAny_mono h₂ (fun r s₃ h₃=>wpAny_bind (wpAny_letTemporaryGo (wpAny_pure h₃))) fun _ _ x=>x)
 first
  | exact wpAny_pure (wpAny_bind fin)
  | exact wpAny_bind (wpAny_pure (wpAny_bind fin))
  | exact wpAny_bind fin
theorem afZ{X:Cx}{pins:List (Addr×Obj)}{σ:St}{H:Hp}{s:Shared}{a:Addr}{y:V}{o:Option V}(I:Inv X pins σ H s)(g:Ib H a y o):s.TypeIs (.ref a) "dict":=by
 rcases g with ⟨kvs,k,e,_,_⟩ | ⟨kvs,k,b,e,_,_,_⟩
 ·obtain⟨_,_,vs,_,dd⟩:=afX I.hok e
  exact dd.typeIs
 ·obtain⟨_,_,xs,_,dd⟩:=afY I.hok e
  exact dd.typeIs
def W2(td ty:TE):TE:=fun σ H Q=>td σ H fun x H1=>ty σ H1 fun y H2=>∃a v,x=.ref a/\Ib H2 a y (some v)/\Q v H2
def azr(ty td:TE):TE:=fun σ H Q=>ty σ H fun y H1=>td σ H1 fun x H2=>∃a o,x=.ref a/\Ib H2 a y o/\Q (.bl o.isSome) H2
def awb(td ty tv:TE):TS:=fun D σ H=>tv σ H fun v H1=>td σ H1 fun x H2=>ty σ H2 fun y H3=>∃a H4,x=.ref a/\aip H3 a y v H4/\D.nx σ H4
section
variable{X:Cx}{o i e value:Expr}{pos pos' tpos:Pos}{td ty tv:TE}
theorem bH(hu:X.A.units+1<cLine)(ho:PE X o td)(hi:PE X i ty)(hs:asx i):PE X (.Subscript o i pos) (W2 td ty):=by
 intro pins s σ H Q I h
 refine ajC PySem.F.slot_dict_getitem.lookup hs (gC (ho pins s σ H _ I h) fun u s1 hz=>kW hz fun x H1 I1 rx q1=>gC (hi pins s1 σ H1 _ I1 q1) fun iv s2 hz=>kW hz fun y H2 I2 ry ⟨a,v,ex,g,q2⟩=>?_)
 subst ex
 obtain rfl:u=Value.ref a:=rx
 exact⟨afZ I2 g,akP hu I2 g ry fun w' s3 I3 rw'=>⟨v,H2,I3,rw',q2⟩⟩
theorem asy(hu:X.A.units+1<cLine)(hi:PE X i ty)(ho:PE X o td):PC X .In i o (azr ty td):=by
 intro pins s σ H Q I h
 refine gC (hi pins s σ H _ I h) fun iv s1 hz=>kW hz fun y H1 I1 ry q1=>gC (ho pins s1 σ H1 _ I1 q1) fun u s2 hz=>kW hz fun x H2 I2 rx ⟨a,ov,ex,g,q2⟩=>?_
 subst ex
 obtain rfl:u=Value.ref a:=rx
 exact azq hu I2 g ry fun s3 I3=>⟨.bl ov.isSome,H2,I3,rfl,q2⟩
theorem lG(hu:X.A.units+1<cLine)(ho:PE X o td)(hi:PE X i ty)(hv:PE X value tv)(hs:swapsWith value (some (.Subscript o i pos')) pos.line X.env=pure false) :
 PS X (.Assign [.Subscript o i pos'] value pos) (awb td ty tv):=by
 intro pins s σ H D I h
 refine wpAny_Assign_Subscript (gC (hv pins s σ H _ I h) fun r s1 hz=>kW hz fun v H1 I1 rv q1=>gC (ho pins s1 σ H1 _ I1 q1) fun u s2 hz=>kW hz fun x H2 I2 rx q2=>gC (hi pins s2 σ H2 _ I2 q2) fun iv s3 hz=>kW hz fun y H3 I3 ry ⟨a,H4,ex,g,q3⟩=>?_) hs
 subst ex
 obtain rfl:u=Value.ref a:=rx
 exact akQ hu I3 g ry rv fun s4 I4=>⟨σ,H4,I4,q3⟩
end
theorem af0{P:Program}{w:World}{H:Hp}(h:Heap)(hb:sysModules<h.objs.size):fO P w H (h.push {cls:=.type "dict",data:=.dict #[]}) h.objs.size (.dK []) :=
 ⟨Nat.zero_le _,beq_eq_false_iff_ne.mpr (Ne.symm (Nat.ne_of_lt hb)),[],.nil,Heap.DictOf.new h⟩
def asz:TE:=fun _ H Q=>∀p,H p=none->Q (.ref p) (upd H p (.dK []))
section
variable{X:Cx}{pos:Pos}
theorem amo:PE X (.Dict [] [] pos) asz:=fun pins s σ H Q I h =>
 wpAny_Dict_empty ⟨.ref s.heap.objs.size,_,I.laid (a:=s.heap.objs.size) (o:=.dK []) (t':=s.toks) (fun _ _ q=>Heap.get?_push_of_some _ q) (Nat.le_refl _) (af0 s.heap I.big),rfl,h _ (I.hok.fresh (Nat.le_refl _))⟩
end
def air:List (TE×TE)->St->Hp->(List (V×V)->Hp->Prop)->Prop
 | [],_,H,Q=>Q [] H
 | (tk,tv)::r,σ,H,Q=>tk σ H fun x H1=>tv σ H1 fun y H2=>air r σ H2 fun ps H3=>Q ((x,y)::ps) H3
abbrev VV:List (V×V)->List (Value×Value)->Prop:=Paired fun p q=>RelV p.1 q.1/\RelV p.2 q.2
def PPs(X:Cx)(pos:Pos)(keys:List (Option Expr))(values:List Expr)(trs:List (TE×TE)):Prop :=
 ∀(pins:List (Addr×Obj)) (s:Shared) (σ:St) (H:Hp) (Q:List (V×V)->Hp->Prop),Inv X pins σ H s->air trs σ H Q->
  wpAny (model X.prog X.w) X.A (evalPairs (pairTrees keys values X.env pos)) (fun vs s'=>∃ps H',Inv X pins σ H' s'/\VV ps vs/\Q ps H') X.xe s
theorem ajD{X:Cx}{pos:Pos}:PPs X pos [] [] []:=fun pins s σ H Q I h=>pairTrees_nil_walk ⟨[],H,I,.nil,h⟩
theorem mX{X:Cx}{pos:Pos}{k v:Expr}{ks:List (Option Expr)}{vs:List Expr}{tk tv:TE}{trs:List (TE×TE)}(hk:PE X k tk)(hv:PE X v tv)(hr:PPs X pos ks vs trs) :
 PPs X pos (some k::ks) (v::vs) ((tk,tv)::trs):=fun pins s σ H Q I h =>
 pairTrees_cons_walk (gC (hk pins s σ H _ I h) fun u s1 hz=>kW hz fun x H1 I1 rx q1=>gC (hv pins s1 σ H1 _ I1 q1) fun w2 s2 hz=>kW hz fun y H2 I2 ry q2 =>
  gC (hr pins s2 σ H2 _ I2 q2) fun ws s3 hz=>kW hz fun ps H3 I3 rel q3=>⟨(x,y)::ps,H3,I3,.cons ⟨rx,ry⟩ rel,q3⟩)
def JK(kvs more:List (Key×V)):List (Key×V):=more.foldl (fun acc kv=>putK acc kv.1 kv.2) kvs
theorem KV.merge:∀{more:List (Key×V)} {rs:List (Key×Value)} {kvs:List (Key×V)} {vs:List (Key×Value)},KV more rs->KV kvs vs->KV (JK kvs more) (merged vs rs):=by
 intro more rs kvs vs r
 unfold KV at r
 induction r generalizing kvs vs with
 | nil=>intro q;exact q
 | @cons p q ps qs h t ih =>
   intro r0
   have e:KV (putK kvs p.1 p.2) (stored vs q.1 q.2):=by
    have:=r0.put p.1 h.2
    rw[<-h.1];exact this
   exact ih e
theorem Ik:∀(more kvs:List (Key×V)),(JK kvs more).length<=kvs.length+more.length
 | [],kvs=>by show kvs.length<=kvs.length+0;lia
 | p::r,kvs=>by
   have h1:=Ik r (putK kvs p.1 p.2)
   have h2:=vG kvs p.1 p.2
   show(JK (putK kvs p.1 p.2) r).length<=_
   rw[List.length_cons];lia
theorem W3{P:Program}{w:World}:∀{kvs:List (Key×V)} {ws:List (Value×Value)},VV (kvs.map fun kv=>(kV kv.1,kv.2)) ws->∃rs,Carries (gY P w) ws rs/\KV kvs rs
 | [],_,r=>by rw[List.map_nil]at r;cases r;exact⟨[],True.intro,.nil⟩
 | p::kvs,_,r=>by
   rw[List.map_cons]at r
   cases r with
   | @cons a b as bs h t =>
     obtain⟨rs,c,q⟩:=W3 (P:=P) (w:=w) t
     obtain⟨b1,b2⟩:=b
     exact⟨(p.1,b2)::rs,⟨W0 h.1,rfl,c⟩,.cons ⟨rfl,h.2⟩ q⟩
def awc(trs:List (TE×TE)):TE:=fun σ H Q=>∀p,H p=none->air trs σ (upd H p (.dK [])) fun ps H2=>H2 p=some (.dK [])/\∃kvs:List (Key×V),ps=kvs.map (fun kv=>(kV kv.1,kv.2))/\kvs.length<=15/\Q (.ref p) (upd H2 p (.dK (JK [] kvs)))
theorem ajE{X:Cx}{pos:Pos}{keys:List (Option Expr)}{values:List Expr}{trs:List (TE×TE)}(h:PPs X pos keys values trs)(hall:keys.all (·.isSome)=true)(hl:keys.length=values.length)(h0:keys≠[])
 (h15:keys.length<=15):PE X (.Dict keys values pos) (awc trs):=by
 intro pins s σ H Q I q
 have hn:=I.hok.fresh (Nat.le_refl s.heap.objs.size)
 have I1:=I.laid (a:=s.heap.objs.size) (o:=.dK []) (h':=s.heap.push {cls:=.type "dict",data:=.dict #[]}) (t':=s.toks) (fun _ _ q=>Heap.get?_push_of_some _ q) (Nat.le_refl _) (af0 s.heap I.big)
 refine wpAny_Dict_walk (knd:=gY X.prog X.w) hall hl h0 h15 (gC (h pins _ σ _ _ I1 (q _ hn)) fun ws s2 hz=>kW hz fun ps H2 I2 rel ⟨e,kvs,ep,lk,q2⟩=>?_)
 subst ep
 obtain⟨rs,c,rk⟩:=W3 (P:=X.prog) (w:=X.w) rel
 obtain⟨z,hd,vs0,r0,dd⟩:=ajB I2.hok e
 cases r0
 refine⟨rs,c,dd,fun h' dd' hs=>⟨.ref s.heap.objs.size,_,?_,rfl,q2⟩⟩
 have hz:(JK [] kvs).length<=sizeLine:=by
  have h1:=Ik kvs []
  rw[List.length_nil]at h1
  rw[sizeLine_eq];lia
 have he:∃q,h'.get? s.heap.objs.size=some q:=let ⟨q,_,_,hq,_⟩:=dd';⟨q,hq⟩
 exact Wt I2 (by rw[e];exact True.intro) hs he (aiq hz hd (rk.merge .nil) dd')
structure M2(X:Cx)(o:Expr)(m:Str)(apos:Pos)(e f:Expr)(cpos:Pos):Prop where
 base:attributeBase o m X.env (eval o X.env)=eval o X.env
 few:((backTo cpos (starEach [e,f] X.env)).all (fun x => !x.1) && (backToKw cpos (keywordEach [] X.env)).all (fun x=>x.1.isSome)
  && decide (([e,f]:List Expr).length+([]:List Keyword).length+(if([]:List Keyword).isEmpty then 0 else 1)<30))=true
 line:(apos.endLine == cpos.line)=true
 trees:backTo cpos (starEach [e,f] X.env)=[(false,eval e X.env),(false,eval f X.env)]
def IsD(H:Hp)(a:Addr):Prop:=(∃kvs,Rd H a (.dK kvs))\/∃kvs,Rd H a (.dT kvs)
theorem asA{X:Cx}{pins:List (Addr×Obj)}{σ:St}{H:Hp}{s:Shared}{a:Addr}(I:Inv X pins σ H s)(d:IsD H a) :
 s.TypeIs (.ref a) "dict"/\(∀b,Value.ref a=.ref b->∃ob,s.heap.get? b=some ob/\ob.dict=none)/\(a == sysModules)=false:=by
 rcases d with ⟨kvs,e⟩ | ⟨kvs,e⟩
 ·obtain⟨_,hd,vs,_,dd⟩:=afX I.hok e
  refine⟨dd.typeIs,fun b q=>?_,hd⟩
  cases q
  obtain⟨ob,_,_,h1,h2,_⟩:=dd
  exact⟨ob,h1,h2.2.1⟩
 ·obtain⟨_,hd,xs,_,dd⟩:=afY I.hok e
  refine⟨dd.typeIs,fun b q=>?_,hd⟩
  cases q
  obtain⟨ob,_,_,h1,h2,_⟩:=dd
  exact⟨ob,h1,h2.2.1⟩
section
variable{X:Cx}{pins:List (Addr×Obj)}{σ:St}{H:Hp}{s:Shared}{a:Addr}{y d:V}{u r:Value}{o:Option V}{A:Around}{E:Value->Shared->Prop}
end
def asB(td ty tx:TE):TE:=fun σ H Q=>td σ H fun x H1=>∃a,x=.ref a/\IsD H1 a/\ty σ H1 fun y H2=>tx σ H2 fun z H3=>∃kvs k,H3 a=some (.dK kvs)/\y=kV k/\
 (∀v,fQ kvs k=some v->Q v (upd H3 a (.dK (yj kvs k))))/\(fQ kvs k=none->Q z H3)
section
variable{X:Cx}{o e f:Expr}{apos cpos:Pos}{td ty tx:TE}
theorem amq(ho:PE X o td)(he:PE X e ty)(hf:PE X f tx)(m:M2 X o "pop" apos e f cpos):PE X (.Call (.Attribute o "pop" apos) [e,f] [] cpos) (asB td ty tx):=by
 intro pins s σ H Q I h
 refine wpAny_Call_method m.base m.few m.line PySem.F.plainAttrs_dict PySem.F.slot_dict_pop PySem.F.type_dict_pop (gC (ho pins s σ H _ I h) fun u s1 hz=>kW hz fun x H1 I1 rx ⟨a,ex,d,q1⟩=>?_)
 subst ex
 obtain rfl:u=Value.ref a:=rx
 obtain⟨t1,t2,_⟩:=asA I1 d
 refine⟨t1,t2,?_⟩
 rw[m.trees]
 refine Calls.callWith_builtin rfl (Calls.evalArgs_plain (Calls.spliced_cons (gC (he pins s1 σ H1 _ I1 q1) fun iv s2 hz=>kW hz fun y H2 I2 ry q2 =>
  Calls.spliced_cons (gC (hf pins s2 σ H2 _ I2 q2) fun fv s3 hz=>kW hz fun z H3 I3 rz ⟨kvs,k,ea,ey,q3,q4⟩=>Calls.spliced_nil ?_))))
 subst ey
 cases l:fQ kvs k with
 | some v=>exact awa I3 ea ry l (.inr ⟨fv,rfl⟩) fun w' s4 I4 rw'=>⟨v,_,I4,rw',q3 v l⟩
 | none=>exact asw I3 ea ry l fun s4 I4=>⟨z,H3,I4,rz,q4 l⟩
end
section
variable{X:Cx}{pins:List (Addr×Obj)}{σ:St}{H:Hp}{s:Shared}{a:Addr}{kvs:List (Key×V)}{A:Around}{E:Value->Shared->Prop}
end
section
variable{X:Cx}{pins:List (Addr×Obj)}{σ:St}{H:Hp}{s:Shared}{a:Addr}{y:V}{u:Value}{A:Around}{E:Value->Shared->Prop}
end
end L2
namespace Att
open PySem PySem.W PySem.Calls PyProof.Rows
theorem TV{P:Params}{h:Heap}:∀(ns:List Int) (vs:List Value),WellAll P h vs (ns.map WData.int)->IntsAre vs ns:=by
 intro ns
 induction ns with
 | nil =>
   intro vs w
   rw[List.map_nil]at w
   cases w
   exact .nil
 | cons n ns ih =>
   intro vs w
   rw[List.map_cons]at w
   cases w with
   | cons a b =>
     cases a
     exact .cons _ _ (ih _ b)
theorem akR{l:OpenLaw}{n:Nat}(hn:l.most=some n){P:Params}{h:Heap}{args:List WData}{vals:List Value}
 (hpre:l.row.toRowW.claim.pre args=true) (hwl:WellAll P h vals args) :
 ∃a vs ns,vals=[Value.ref a]/\args=[WData.list (ns.map WData.int)]/\h.get? a=some {cls:=.type "list",data:=.seq vs.toArray}/\IntsAre vs ns/\ns.length<=n:=by
 have hsh:WShape.hasAll [] args [.list .int]=true:=(pre_splitW hpre).1
 have hc:l.pre.holds [] {args:=args}=true:=(pre_splitW hpre).2
 obtain⟨d,r,rfl,h1,h2⟩:=hasAllW_cons hsh
 obtain rfl:=hasAllW_nil h2
 obtain⟨xs,rfl,h3⟩:=hasW_list h1
 obtain⟨ns,rfl⟩:=items_int h3
 have hlen:ns.length<=n:=by
  unfold OpenLaw.pre at hc
  have h4:(WTm.not (.lt (.lit (.int (n:Int))) (.len (.arg 0)))).holds [] {args:=[.list (ns.map .int)]}=true:=by
   have h4:=(holds_andW hc).1
   rw[hn]at h4
   exact h4
  have h5:=condW_of h4 (w_not (w_lt w_lit (w_len_list (w_arg rfl))))
  rw[List.length_map]at h5
  refine Nat.le_of_not_lt fun q=>?_
  have q':(n:Int)<((ns.length:Nat):Int):=by lia
  first
   | (rw[decide_eq_true q']at h5;exact absurd h5 (by decide))
   | (simp at h5;lia)
 cases hwl with
 | cons w1 w2 =>
   cases w2
   cases w1 with
   | list ho hall=>exact⟨_,_,ns,rfl,rfl,ho,TV ns _ hall,hlen⟩
theorem akS(l:OpenLaw)(args:List WData):l.row.toRowW.claim.post args (.bool true) args=true :=
 postW_of (r:=l.row.toRowW) (X:=(true == true))
  (show WShape.has [] (.bool true) .bool=true by first | rfl | decide | simp[WShape.has,WShape.arms,WShape.armsAll])
  (show(WTm.eq .res (.lit (.bool true))).value [] {args:=args,res:=some (.bool true),after:=args}=some (.bool (true == true))from w_eq_bool (w_res rfl) w_lit) rfl
theorem af1{l:OpenLaw}{n:Nat}{q:Program}{loose:List Str}{XP:(Str->Option Value)->Heap->Prop}{YP:World->Heap->Prop}{d:DefRec}
 (hn:l.most=some n) (hdf:d.params.defaults=[])
 (call:∀(w:World) (s₀ s₁:Shared) (mg mb:Str->Option Value) (fa:Addr) (o:Obj) (pm cd doc:Value) (a:Addr) (vs:List Value) (ns:List Int),
   Ground q loose [] XP w s₀ mg mb s₁.heap->YP w s₁.heap->
   s₁.heap.get? fa=some o->o.data=.func (docDef d.name d.params d.body d.scope pm cd doc)->s₁.heap.CodeRec cd d.name->mg d.name=some (.ref fa)->
   s₁.heap.get? a=some {cls:=.type "list",data:=.seq vs.toArray}->IntsAre vs ns->ns.length<=n->s₁.gens = #[]->
   codeAny (model l.prog w) callerA (.call (.ref fa) ⟨[.ref a],[]⟩) (fun r s'=>r=.ok (.ret (.bool true))/\OldK s₁.heap s'.heap/\s'.os=s₁.os/\AllBare s'.gens) s₁) :
 WalkO q loose XP YP l.row.toRowW d [] (fun f vs=>PySem.call f vs):=by
 intro w s₀ s₁ mg mb G Y fa o pm cd doc dV kV ho hd hcd hD hmg hg args vals as hpre hlay hrd hwl hlo
 obtain rfl:dV=.none:=Dflts.none hD hdf
 obtain rfl:kV=.none:=Dflts.noKw hD
 obtain⟨a,vs,ns,rfl,rfl,hobj,hints,hlen⟩:=akR hn hpre hwl
 refine enter_call (codeAny_mono (call w s₀ s₁ mg mb fa o pm cd doc a vs ns G Y ho (fd_plain hd) hcd hmg hobj hints hlen hg) fun r s' hq=>?_)
 obtain⟨rfl,h2,h3,h4⟩:=hq
 exact⟨.inl ⟨.bool true,.bool true,[],rfl,fun _=>rfl,.bool true,akS l _,fun _=>⟨List.Pairwise.nil,fun _ hm=>(nomatch hm)⟩⟩,h2,h3,h4⟩
section
variable{prog:Program}{w:World}{A:Around}{E:Value->Shared->Prop}{s:Shared}{K:Frag}
end
end Att
namespace L2
open PySem PySem.Spec PyProof.Rows
theorem ab5:∀{vs:List Value} {ns:List Int},IntsAre vs ns->Vals (ns.map V.int) vs
 | _,_,.nil=>.nil
 | _,_,.cons n t h=>.cons ⟨t,rfl⟩ (ab5 h)
def Only(H:Hp):Prop:=∀b,H b=none\/∃o xs,H b=some (.frz o (.lst xs))
theorem amr{P:Program}{w:World}{K:PySem.W.Frag}{mg mb:Str->Option Value}{CX:CXT}{k:Nat}{fa a:Addr}{fd:FuncData}{x:Str}{sp:Sp}{s₁:Shared}{vs:List Value}{ns:List Int}
 (KX:K.In s₁.heap) (hns:s₁.heap.Ns mainGlobals mg) (hb:s₁.heap.Ns builtinsNs mb) (hbb:∀x:Str,x≠"__name__"->mb x=bootBuiltins x) (hlim:s₁.heap.NoLimit) (hg:s₁.gens = #[])
 (ha:s₁.heap.get? a=some {cls:=.type "list",data:=.seq vs.toArray}) (hi:IntsAre vs ns) (hl:ns.length<=sizeLine) (hr:bQ k callerA)
 (F:∀base:Heap,K.In base->base.Ns mainGlobals mg->dj P w K mg base CX k fa fd [x] sp) (hbind:∀(s:Shared) (u:Value),BindsTo s fd ⟨[u],[]⟩ [(x,u)])
 (hsp:∀H:Hp,Only H->cz K H a (ns.map V.int)->sp [.ref a] H (fun v _=>v=.bl true) fun _ _ _=>False)
 (hCX:∀H e s',CX [] H s₁ (fun _ _ _=>False) e s'->False) :
 codeAny (model P w) callerA (.call (.ref fa) ⟨[.ref a],[]⟩) (fun r s'=>r=.ok (.ret (.bool true))/\OldK s₁.heap s'.heap/\s'.os=s₁.os/\AllBare s'.gens) s₁:=by
 have rv:=ab5 hi
 have lenV:=hi.length
 have core:∀H:Hp,Only H->cz K H a (ns.map V.int)->HY P w H s₁.heap->(∀b,H b≠none->b=a)->(H a≠none->K.lookup a=none)->
  codeAny (model P w) callerA (.call (.ref fa) ⟨[.ref a],[]⟩) (fun r s'=>r=.ok (.ret (.bool true))/\OldK s₁.heap s'.heap/\s'.os=s₁.os/\AllBare s'.gens) s₁:=by
  intro H hO hS hok hA hK
  have ajF:∀{b:Addr} {o:Obj},s₁.heap.get? b=some o->H b=none->(acJ s₁.heap H).get? b=some o:=fun e n=>alX e n
  have noA:∀{b:Addr} {o:Obj} {es:Array DictEntry} {ep:Nat},s₁.heap.get? b=some o->o.data=.dict es ep->H b=none:=fun {b o es ep} e d=>by
   cases q:H b with
   | none=>rfl
   | some u =>
     have e':b=a:=hA b (by rw[q];simp)
     subst e'
     rw[ha]at e;cases e
     have d':Data.seq vs.toArray _=Data.dict es ep:=d
     cases d'
  have nsK:∀{b:Addr} {m:Str->Option Value},s₁.heap.Ns b m->(acJ s₁.heap H).Ns b m:=fun {b m} ⟨o,es,ep,e,d,r⟩=>⟨o,es,ep,ajF e (noA e d),d,r⟩
  have hKb:K.In (acJ s₁.heap H):=fun b o e=>ajF (KX b o e) (by
   cases q:H b with
   | none=>rfl
   | some u =>
     have e':b=a:=hA b (by rw[q];simp)
     subst e'
     rw[hK (by rw[q];simp)]at e;cases e)
  have hM:Mod K mg (acJ s₁.heap H):=⟨hKb,nsK hns,⟨mb,nsK hb,hbb⟩,let ⟨mc,h1,h2⟩:=hlim;⟨mc,nsK h1,h2⟩⟩
  have e0:aih P w K mg (acJ s₁.heap H) callerA [] s₁ H:=⟨rfl,hM,fun b o e=>aoG e,Nat.le_of_eq (akD _ _),trivial,fun b hb=>absurd (show b∈([]:List Addr)from hb) (by simp),hok,.of_eq hg⟩
  refine codeAny_mono ((F _ hKb (nsK hns)).run callerA [] s₁ H ⟨[.ref a],[]⟩ [.ref a] [.ref a] _ _ hr e0 (hbind s₁ (.ref a)) (.cons rfl .nil) (hsp H hO hS)) fun r s' h=>?_
  cases r with
  | error e=>exact(hCX H e s' h).elim
  | ok fl =>
    cases fl with
    | next=>exact False.elim h
    | brk=>exact False.elim h
    | cont=>exact False.elim h
    | ret u =>
      obtain⟨v,H',os,bare,un,hok',r',q⟩:=h
      have q':v=.bl true:=q
      subst q'
      obtain rfl:u=Value.bool true:=r'
      refine⟨rfl,OldK.of_keep fun b o e=>?_,os,bare⟩
      cases q:H b with
      | none=>exact un.keep b o e q (by intro z;exact absurd (show b∈([]:List Addr)from z) (by simp)) (by simp)
      | some u =>
        rcases hO b with z | ⟨ob,xs,z⟩
        ·rw[q]at z;cases z
        ·have z2:=un.JC b ob _ z
         obtain⟨e1,_⟩:=hok b _ z
         obtain⟨e2,_⟩:=hok' b _ z2
         rw[e]at e1;cases e1
         exact e2
 cases hk:K.lookup a with
 | some o =>
   have e:=KX a o hk
   rw[ha]at e
   cases e
   refine core (fun _=>none) (fun _=>.inl rfl) (.inr ⟨_,vs.toArray,_,hk,rfl,rfl,rfl,by rw[List.size_toArray,lenV];exact hl,by simpa using rv⟩) (fun b u z=>by have z':(none:Option HO)=some u:=z;cases z') (fun b z=>absurd rfl z) fun z=>absurd rfl z
 | none =>
   refine core (fun b=>if b=a then some (.frz {cls:=.type "list",data:=.seq vs.toArray} (.lst (ns.map V.int)))else none) (fun b=>?_) (.inl (.inr ⟨{cls:=.type "list",data:=.seq vs.toArray},if_pos rfl⟩)) (fun b u z=>?_) (fun b z=>?_) fun _=>hk
   ·by_cases hb:b=a
    ·exact .inr ⟨_,_,if_pos hb⟩
    ·exact .inl (if_neg hb)
   ·by_cases hb:b=a
    ·have z':=(if_pos hb).symm.trans z
     cases z'
     subst hb
     exact⟨ha,by rw[List.length_map];exact hl,vs,_,rv,ha⟩
    ·have z':=(if_neg hb).symm.trans z
     cases z'
   ·by_cases hb:b=a
    ·exact hb
    ·exact absurd (if_neg hb) z
end L2
namespace L2
open PySem PySem.Spec PyProof.Rows
theorem aoV{l:PySem.W.OpenLaw}{n k:Nat}{q:Program}{loose:List Str}{XP:(Str->Option Value)->Heap->Prop}{YP:World->Heap->Prop}{d:DefRec}{K:Params->PySem.W.Frag}{CX:World->CXT}{sp:World->Sp}{x:Str}
 (hn:l.most=some n) (hn2:n<=sizeLine) (hdf:d.params.defaults=[]) (hr:bQ k callerA)
 (hY:∀(w:World) (h:Heap),YP w h->(K w.params).In h)
 (F:∀(w:World) (mg:Str->Option Value) (fa:Addr) (h:Heap),(K w.params).In h->h.Ns mainGlobals mg->mg d.name=some (.ref fa)->
   ∃fd:FuncData,(∀(s:Shared) (u:Value),BindsTo s fd ⟨[u],[]⟩ [(x,u)])/\
    ∀base:Heap,(K w.params).In base->base.Ns mainGlobals mg->dj l.prog w (K w.params) mg base (CX w) k fa fd [x] (sp w))
 (hsp:∀(w:World) (H:Hp) (a:Addr) (ns:List Int),ns.length<=n->Only H->cz (K w.params) H a (ns.map V.int)->sp w [.ref a] H (fun v _=>v=.bl true) fun _ _ _=>False)
 (hCX:∀(w:World) (H:Hp) (s:Shared) (e:Value) (s':Shared),CX w [] H s (fun _ _ _=>False) e s'->False) :
 PySem.W.WalkO q loose XP YP l.row.toRowW d [] (fun f vs=>PySem.call f vs):=by
 refine Att.af1 hn hdf fun w s₀ s₁ mg mb fa o pm cd doc a vs ns G Y ho hd hcd hmg hobj hints hlen hg=>?_
 have KX:=hY w _ Y
 obtain⟨fd,hb,hF⟩:=F w mg fa _ KX G.T.g hmg
 exact amr KX G.T.g G.T.b G.T.builtins G.T.nolimit hg hobj hints (Nat.le_trans hlen hn2) hr hF hb (fun H hO hS=>hsp w H a ns hlen hO hS) fun H e s'=>hCX w H s₁ e s'
end L2
namespace L2
open PySem PySem.Spec PyProof.Rows
def inClass(s:Stmt)(j:Nat):Stmt:=match s with
 | .ClassDef _ _ _ body _ _ _ _ _ _ _=>body.getD j (.Pass ⟨0,0,0,0⟩)
 | _=>.Pass ⟨0,0,0,0⟩
def LQ(s:Stmt):Arguments:=match s with
 | .FunctionDef _ a _ _ _ _ _ _ _ _=>a
 | _=>{posonlyargs:=[],args:=[],vararg:=none,kwonlyargs:=[],kw_defaults:=[],kwarg:=none,defaults:=[]}
def zN(s:Stmt):List Stmt:=match s with
 | .FunctionDef _ _ b _ _ _ _ _ _ _=>b
 | _=>[]
def aP(s:Stmt):Scope:=match s with
 | .FunctionDef _ _ _ _ _ _ sc _ _ _=>sc
 | _=>{kind:=.function,names:=[],isGenerator:=false,isCoroutine:=false}
abbrev oM:CXT:=fun _ _ _ _ _ _=>False
abbrev E0:XK:=fun _ _ _=>False
theorem bW{X:Cx}:Passes oM X E0:=fun _ _ _ _ _ _ _ h=>h.elim
structure jM(K:PySem.W.Frag)(x qual:Str)(st:Stmt)(f:Addr)(fd:FuncData):Prop where
 ex:∃(oc:Value) (od:Option Addr) (kV doc pm:Value) (an:Option Addr) (cdv ct:Value) (osl:Array (Option Value)),
  fd=PySem.W.fnOf x qual (LQ st) (zN st) (aP st) .none kV doc pm an cdv ct/\K.lookup f=some ⟨oc,od,.func fd,osl⟩/\PySem.W.codeIn K cdv qual=true
 kp:PySem.W.keepIn K (.ref f)=true
section
variable{P:Program}{w:World}{K:PySem.W.Frag}{mg:Str->Option Value}{base:Heap}
theorem jM.ok{x qual:Str}{st:Stmt}{f:Addr}{fd:FuncData}{N ps:List Str}{k:Nat}{sp:Sp}(F:jM K x qual st f fd)(S:bC N ps (aP st))(len:∀vs H Q E,sp vs H Q E->vs.length=ps.length)
 (hbody:∀(cdv:Value) (A:Around) (outer:List Env) (s:Shared) (H:Hp) (vs:List V) (Q:VK) (E:XK),bQ k (A.deeper (envOfC qual (aP st) s.heap.objs.size f cdv))->sp vs H Q E->
   ∃t,PSs (dD oM P w K mg base N qual (aP st) f cdv A outer s H E).kZ (zN st) t/\t {nx:=fun _ H'=>Q .non H',rt:=Q} (start N vs) H):dj P w K mg base oM (k+1) f fd ps sp:=by
 obtain⟨oc,od,kV,doc,pm,an,cdv,ct,osl,rfl,lk,hcd⟩:=F.ex
 refine arp lk hcd S len fun A outer s H vs Q E hr hsp=>?_
 obtain⟨t,h,q⟩:=hbody cdv A outer s H vs Q E hr hsp
 exact⟨t,h.kZ,q⟩
theorem jM.binds{x qual:Str}{st:Stmt}{f:Addr}{fd:FuncData}{ps:List Str}(F:jM K x qual st f fd)
 (h:∀(kV doc pm:Value) (an:Option Addr) (cdv ct:Value) (us:List Value),us.length=ps.length->bindArgs (PySem.W.fnOf x qual (LQ st) (zN st) (aP st) .none kV doc pm an cdv ct) ⟨us,[]⟩=pure (ps.zip us)):Binds K fd ps []:=by
 obtain⟨oc,od,kV,doc,pm,an,cdv,ct,osl,rfl,lk,hcd⟩:=F.ex
 exact .all (h kV doc pm an cdv ct)
theorem aK{x qual:Str}{st:Stmt}{f:Addr}{oc:Value}{od an:Option Addr}{osl:Array (Option Value)}{kV doc pm cdv ct:Value}(l:K.lookup f=some ⟨oc,od,.func (PySem.W.fnOf x qual (LQ st) (zN st) (aP st) .none kV doc pm an cdv ct),osl⟩)
 (c:PySem.W.codeIn K cdv qual=true) (k:PySem.W.keepIn K (.ref f)=true):jM K x qual st f (PySem.W.fnOf x qual (LQ st) (zN st) (aP st) .none kV doc pm an cdv ct):=⟨⟨oc,od,kV,doc,pm,an,cdv,ct,osl,rfl,l,c⟩,k⟩
end
theorem lA{A:Around}{k:Nat}(hr:bQ k A):A.units+1<cLine:=Nat.lt_of_le_of_lt (Nat.add_le_add_left (by decide:1<=64) _) hr.units
section
variable{X:Cx}
theorem pv(i:Nat){x:Str}{pos:Pos}(hN:X.N[i]? = some x:=by rfl)(hv:Vis X.env.scope x:=by first | exact Or.inl rfl | exact Or.inr (Or.inl rfl) | exact Or.inr (Or.inr rfl))(hd:(x == ("__debug__":Str))=false:=by decide)
 (hcd:(x == ("__classdict__":Str))=false:=by decide):PE X (.Name x pos) (jj i):=ar8 hN hv hd hcd
end
theorem wY{A B:Prop}(h:B):if false=true then A else B:=by
 rw[if_neg Bool.false_ne_true]
 exact h
theorem qt{A B:Prop}(h:A):if true=true then A else B:=by
 rw[if_pos rfl]
 exact h
def bZ(H H':Hp):Prop:=∀b o,H b=some o->H' b=some o
theorem bZ.refl(H:Hp):bZ H H:=fun _ _ h=>h
theorem bZ.trans{H H1 H2:Hp}(a:bZ H H1)(b:bZ H1 H2):bZ H H2:=fun c o h=>b c o (a c o h)
theorem bZ.free{H H':Hp}(e:bZ H H'){l:Addr}(h:H' l=Option.none):H l=Option.none:=by
 cases q:H l with
 | none=>rfl
 | some o =>
   rw[e l o q]at h
   cases h
section
variable{X:Cx}
end
section
variable{κ:Type}[DecidableEq κ]
theorem akT{p:κ×V}{r:List (κ×V)}{k:κ}(e:p.1=k):yj (p::r) k=yj r k:=by
 unfold yj
 rw[List.filter_cons,if_neg (by simp[e])]
theorem akU{p:κ×V}{r:List (κ×V)}{k:κ}(e:¬p.1=k):yj (p::r) k=p::yj r k:=by
 unfold yj
 rw[List.filter_cons,if_pos (by simp[e])]
end
end L2
namespace L2
open PySem PySem.Spec PyProof.Rows
inductive D where
 | n | i (k:Int) | s (x:Str) | t (ds:List D) | l (ds:List D)
mutual
def Rep(H:Hp):V->D->Prop
 | v,.n=>v=.non
 | v,.i k=>v=.int k
 | v,.s x=>v=.str x
 | v,.t ds=>∃a xs,v=.ref a/\H a=some (.tup xs)/\aH H xs ds
 | v,.l ds=>∃a xs,v=.ref a/\H a=some (.lst xs)/\aH H xs ds
def aH(H:Hp):List V->List D->Prop
 | xs,[]=>xs=[]
 | xs,d::ds=>∃v r,xs=v::r/\Rep H v d/\aH H r ds
end
mutual
def D.size:D->Nat
 | .n=>1
 | .i _=>1
 | .s _=>1
 | .t ds=>1+D.sizes ds
 | .l ds=>1+D.sizes ds
def D.sizes:List D->Nat
 | []=>0
 | d::ds=>D.size d+D.sizes ds
end
mutual
def D.flat:D->Prop
 | .n=>True
 | .i _=>True
 | .s _=>True
 | .t ds=>D.flats ds
 | .l _=>False
def D.flats:List D->Prop
 | []=>True
 | d::ds=>D.flat d/\D.flats ds
end
def b7(H H':Hp):Prop:=∀b xs,H b=some (.tup xs)->H' b=some (.tup xs)
def zO(H H':Hp):Prop:=(∀b xs,H b=some (.tup xs)->H' b=some (.tup xs))/\∀b xs,H b=some (.lst xs)->H' b=some (.lst xs)
theorem b7.trans{H H1 H2:Hp}(a:b7 H H1)(b:b7 H1 H2):b7 H H2:=fun c xs e=>b c xs (a c xs e)
mutual
theorem Rep.mono{H H':Hp}(h:zO H H'):∀{d:D} {v:V},Rep H v d->Rep H' v d
 | .n,_,r=>by simpa only[Rep] using r
 | .i _,_,r=>by simpa only[Rep] using r
 | .s _,_,r=>by simpa only[Rep] using r
 | .t ds,_,r=>by
   simp only[Rep]at r ⊢
   obtain⟨a,xs,e,ha,rl⟩:=r
   exact⟨a,xs,e,h.1 a xs ha,aH.mono h rl⟩
 | .l ds,_,r=>by
   simp only[Rep]at r ⊢
   obtain⟨a,xs,e,ha,rl⟩:=r
   exact⟨a,xs,e,h.2 a xs ha,aH.mono h rl⟩
theorem aH.mono{H H':Hp}(h:zO H H'):∀{ds:List D} {xs:List V},aH H xs ds->aH H' xs ds
 | [],_,r=>by simpa only[aH] using r
 | d::ds,_,r=>by
   simp only[aH]at r ⊢
   obtain⟨v,q,e,rv,rl⟩:=r
   exact⟨v,q,e,Rep.mono h rv,aH.mono h rl⟩
end
mutual
theorem Rep.aX{H H':Hp}(h:b7 H H'):∀{d:D} {v:V},d.flat->Rep H v d->Rep H' v d
 | .n,_,_,r=>by simpa only[Rep] using r
 | .i _,_,_,r=>by simpa only[Rep] using r
 | .s _,_,_,r=>by simpa only[Rep] using r
 | .t ds,_,f,r=>by
   simp only[Rep]at r ⊢
   simp only[D.flat]at f
   obtain⟨a,xs,e,ha,rl⟩:=r
   exact⟨a,xs,e,h a xs ha,aH.aX h f rl⟩
 | .l ds,_,f,r=>by simp only[D.flat]at f
theorem aH.aX{H H':Hp}(h:b7 H H'):∀{ds:List D} {xs:List V},D.flats ds->aH H xs ds->aH H' xs ds
 | [],_,_,r=>by simpa only[aH] using r
 | d::ds,_,f,r=>by
   simp only[aH]at r ⊢
   simp only[D.flats]at f
   obtain⟨v,q,e,rv,rl⟩:=r
   exact⟨v,q,e,Rep.aX h f.1 rv,aH.aX h f.2 rl⟩
end
theorem aH.length{H:Hp}:∀{ds:List D} {xs:List V},aH H xs ds->xs.length=ds.length
 | [],_,r=>by simp only[aH]at r;subst r;rfl
 | d::ds,_,r=>by
   simp only[aH]at r
   obtain⟨v,q,rfl,_,rl⟩:=r
   rw[List.length_cons,List.length_cons,aH.length rl]
theorem aH.append{H:Hp}:∀{ds es:List D} {xs ys:List V},aH H xs ds->aH H ys es->aH H (xs++ys) (ds++es)
 | [],_,_,_,r,q=>by simp only[aH]at r;subst r;exact q
 | d::ds,es,_,ys,r,q=>by
   simp only[aH]at r
   obtain⟨v,x,rfl,rv,rl⟩:=r
   show aH H (v::(x++ys)) (d::(ds++es))
   simp only[aH]
   exact⟨v,_,rfl,rv,aH.append rl q⟩
theorem aH.snoc{H:Hp}{ds:List D}{xs:List V}{v:V}{d:D}(r:aH H xs ds)(q:Rep H v d):aH H (xs++[v]) (ds++[d]) :=
 r.append (by simp only[aH];exact⟨v,[],rfl,q,rfl⟩)
theorem aH.last{H:Hp}:∀{ds:List D} {xs:List V} {d:D},aH H xs (ds++[d])->∃ys v,xs=ys++[v]/\aH H ys ds/\Rep H v d
 | [],_,d,r=>by
   simp only[List.nil_append,aH]at r
   obtain⟨v,q,rfl,rv,rfl⟩:=r
   exact⟨[],v,rfl,by simp only[aH],rv⟩
 | e::ds,_,d,r=>by
   rw[List.cons_append,aH]at r
   obtain⟨v,q,rfl,rv,rl⟩:=r
   obtain⟨ys,w,rfl,r1,r2⟩:=aH.last rl
   exact⟨v::ys,w,rfl,by rw[aH];exact⟨v,ys,rfl,rv,r1⟩,r2⟩
theorem D.sI:∀(a b:List D),D.sizes (a++b)=D.sizes a+D.sizes b
 | [],b=>by simp[D.sizes]
 | d::a,b=>by rw[List.cons_append,D.sizes,D.sizes,D.sI a b];lia
theorem D.size_pos:∀d:D,0<d.size
 | .n=>by simp[D.size]
 | .i _=>by simp[D.size]
 | .s _=>by simp[D.size]
 | .t _=>by rw[D.size];lia
 | .l _=>by rw[D.size];lia
theorem D.dW:∀ds:List D,ds.length<=D.sizes ds
 | []=>Nat.zero_le _
 | d::ds=>by
   rw[D.sizes,List.length_cons]
   have:=D.size_pos d
   have:=D.dW ds
   lia
end L2
namespace L2
open PySem PySem.Spec PyProof.Rows
theorem fO.here{P:Program}{w:World}{H:Hp}{h:Heap}{a:Addr}{o:HO}(x:fO P w H h a o):∃ob,h.get? a=some ob:=by
 cases o with
 | lst xs=>obtain⟨_,_,_,_,e⟩:=x;exact⟨_,e⟩
 | tup xs=>obtain⟨_,_,_,ob,e,_⟩:=x;exact⟨_,e⟩
 | dK kvs=>obtain⟨_,_,_,_,o,_,_,e,_⟩:=x;exact⟨_,e⟩
 | dT kvs=>obtain⟨_,_,_,_,o,_,_,e,_⟩:=x;exact⟨_,e⟩
 | set S n=>obtain⟨o,_,_,_,e,_⟩:=x;exact⟨_,e⟩
 | ins C dx fs=>obtain⟨_,_,_,e,_⟩:=x;exact⟨_,e⟩
 | own y=>exact x
 | xd fs=>obtain⟨_,⟨_,_,_,e,_⟩,_⟩:=x;exact⟨_,e⟩
 | rng lo hi=>obtain⟨_,_,_,e⟩:=x;exact⟨_,e⟩
 | frz ob u=>obtain⟨e,_⟩:=x;exact⟨_,e⟩
 | tbl ps=>exact⟨_,(show h.get? a=some _ from x)⟩
 | met f y=>exact⟨_,(show h.get? a=some _ from x)⟩
 | ext φ=>obtain⟨_,e,_⟩:=x;exact e
structure Fly(P:Program)(w:World)(B:Heap)(a0:Value)(l:List Env)(H:Hp)(s:Shared)(C:Value)(e:Addr)(H':Hp)(s':Shared):Prop where
 os:s'.os=s.os
 bare:AllBare s'.gens
 fresh:H' e=none
 fly:Heap.FlyingW B l e C a0 s'.heap
 slots:∀b∈frs l,∀o,s.heap.get? b=some o->∃sl,s'.heap.get? b=some {o with slots:=sl}
 kin:∀b o,s.heap.get? b=some o->H b=none->b∉frs l->B.get? b=some o
 trk:∀b u,H' b=some u->∃o,s'.heap.get? b=some o/\B.get? b=some o
 all:∀b o,s.heap.get? b=some o->b∉frs l->∃o',B.get? b=some o'
 free:∀b o,s.heap.get? b=some o->H b=none->H' b=none
 tups:∀b xs,H b=some (.tup xs)->H' b=some (.tup xs)
 JC:∀b o u,H b=some (.frz o u)->H' b=some (.frz o u)
 Ln:∀b ps,H b=some (.tbl ps)->∃more,H' b=some (.tbl (ps++more))
 hok:HY P w H' s'.heap
section
variable{P:Program}{w:World}{B:Heap}{a0:Value}{l:List Env}{H H':Hp}{s s':Shared}{C:Value}{e:Addr}{h':Heap}
theorem Fly.un(F:Fly P w B a0 l H s C e H' s'):Un (frs l) [] H H' s.heap s'.heap :=
 ⟨fun b o q n hb _=>F.fly.1 b o (F.kin b o q n hb),fun b o q _ hb _=>F.slots b hb o q,fun b o q n _=>F.free b o q n,
  fun b o q _=>by
   by_cases hb:b∈frs l
   ·obtain⟨sl,z⟩:=F.slots b hb o q
    exact⟨_,z⟩
   ·obtain⟨o',z⟩:=F.all b o q hb
    exact⟨o',F.fly.1 b o' z⟩,F.tups,F.JC,F.Ln⟩
theorem af2(hok:HY P w H' s'.heap)(k:∀b u,H' b=some u->∀o,s'.heap.get? b=some o->h'.get? b=some o):HY P w H' h':=fun a u q =>
 (hok a u q).stay (fun b v hb z=>by
   rcases hb with rfl | hb
   ·exact k b u q v z
   ·exact k b _ hb v z) (fun _ z=>z) fun _ _ z=>z
theorem Fly.move(F:Fly P w B a0 l H s C e H' s')(fl:Heap.FlyingW B l e C a0 h')(up:s'.heap.UpToSlots h'):Fly P w B a0 l H s C e H' {s' with heap:=h'}:=by
 refine⟨F.os,F.bare,F.fresh,fl,fun b hb o q=>?_,F.kin,fun b u q=>?_,F.all,F.free,F.tups,F.JC,F.Ln,af2 F.hok fun b u q o z=>?_⟩
 ·obtain⟨sl,z⟩:=F.slots b hb o q
  obtain⟨_,o2,z2,nf⟩:=F.fly.2.2.1.mem hb
  rw[z]at z2
  cases z2
  obtain⟨sl2,z3⟩:=up b _ z nf
  exact⟨sl2,z3⟩
 ·obtain⟨o,z1,z2⟩:=F.trk b u q
  exact⟨o,fl.1 b o z2,z2⟩
 ·obtain⟨o',z1,z2⟩:=F.trk b u q
  rw[z]at z1
  cases z1
  exact fl.1 b o z2
end
section
variable{X:Cx}{pins:List (Addr×Obj)}{σ:St}{H H':Hp}{s s':Shared}{B:Heap}{a0 C:Value}{e:Addr}{h' h1:Heap}
theorem Inv.fly(I:Inv X pins σ H s)(F:Fly X.prog X.w B a0 X.stack H s C e H' s'):Inv X pins σ H' s' :=
 I.call' (ch:=[]) F.os F.un F.hok F.bare (fun b z=>absurd z (by simp))
structure BL(X:Cx):Prop where
 st:X.stack=X.env::X.outer
 fr:X.env.frame=some X.env.locals
 ex:X.ex=[]
theorem BL.frs(O:BL X):L2.frs X.stack=X.env.locals::X.fs:=by
 rw[O.st]
 show List.filterMap _ (_::_)=_
 rw[List.filterMap_cons,O.fr]
 rfl
theorem BL.out(O:BL X)(I:Inv X pins σ H s){b:Addr}{o:Obj}(q:X.s₀.heap.get? b=some o)(hb:b∉L2.frs X.outer):b∉L2.frs X.stack:=fun z=>by
 rw[O.frs]at z
 rcases List.mem_cons.mp z with z | z
 ·exact absurd (Nat.lt_of_lt_of_le (Heap.lt_size q) I.ok.above) (by rw[z];exact Nat.lt_irrefl _)
 ·exact hb z
theorem BL.nex(O:BL X)(b:Addr):b∉X.ex:=by rw[O.ex];simp
theorem Fly.out(O:BL X)(I:Inv X pins σ H s)(F:Fly X.prog X.w B a0 X.stack H s C e H' s')(fl:Heap.FlyingW B X.outer e C a0 h')(up:s'.heap.UpToSlots h') :
 Fly X.prog X.w B a0 X.outer X.H₀ X.s₀ C e H' {s' with heap:=h'}:=by
 have sub:∀b∈L2.frs X.outer,b∈L2.frs X.stack:=fun b hb=>by rw[O.frs];exact List.mem_cons_of_mem _ hb
 refine⟨F.os.trans I.os,F.bare,F.fresh,fl,fun b hb o q=>?_,fun b o q n hb=>?_,fun b u q=>?_,fun b o q hb=>?_,fun b o q n=>?_,fun b xs q=>F.tups b xs (I.base.tups b xs q),fun b o u q=>F.JC b o u (I.base.JC b o u q),fun b ps q=>?_,
  af2 F.hok fun b u q o z=>?_⟩
 ·obtain⟨sl,z⟩:=I.base.slot b o q (I.ok.frf b hb) hb (O.nex b)
  obtain⟨sl1,z1⟩:=F.slots b (sub b hb) _ z
  obtain⟨_,o2,z2,nf⟩:=F.fly.2.2.1.mem (sub b hb)
  rw[z1]at z2
  cases z2
  obtain⟨sl2,z3⟩:=up b _ z1 nf
  exact⟨sl2,z3⟩
 ·exact F.kin b o (I.base.keep b o q n hb (O.nex b)) (I.base.free b o q n (O.nex b)) (O.out I q hb)
 ·obtain⟨o,z1,z2⟩:=F.trk b u q
  exact⟨o,fl.1 b o z2,z2⟩
 ·obtain⟨o',z⟩:=I.base.there b o q (O.nex b)
  exact F.all b o' z (O.out I q hb)
 ·obtain⟨o',z⟩:=I.base.there b o q (O.nex b)
  exact F.free b o' z (I.base.free b o q n (O.nex b))
 ·obtain⟨m1,z1⟩:=I.base.Ln b ps q
  obtain⟨m2,z2⟩:=F.Ln b _ z1
  exact⟨m1++m2,by rw[z2,Array.append_assoc]⟩
 ·obtain⟨o',z1,z2⟩:=F.trk b u q
  rw[z]at z1
  cases z1
  exact fl.1 b o z2
theorem Inv.raised{vs:List Value}{A:Around}{E':Value->Shared->Prop}{M:Model}(I:Inv X pins σ H s)(O:BL X)(hx:Heap.MadeExcOf s.heap h1 e C vs)(hfr:A.frames=some (X.env::X.outer)) :
 wpAny M A (leaving X.env (.ref e)) (fun _ s''=>∃B a0,Fly X.prog X.w B a0 X.outer X.H₀ X.s₀ C e H s'') E' {s with heap:=h1}:=by
 have frs':s.heap.FunFrames (PySem.W.hideAll s.heap (L2.frs X.stack)) (X.env::X.outer):=by
  have q:=PySem.W.funFrames_hide (as:=L2.frs X.stack) I.stack fun env he b hb=>List.mem_filterMap.mpr ⟨env,he,hb⟩
  rw[O.st]at q ⊢
  exact q
 have sub:∀b∈L2.frs X.outer,b∈L2.frs X.stack:=fun b hb=>by rw[O.frs];exact List.mem_cons_of_mem _ hb
 refine wpAny_leaves_madeW (s:={s with heap:=h1}) (base:=PySem.W.hideAll s.heap (L2.frs X.stack)) (h:=s.heap) hfr O.fr (fun b o q=>PySem.W.of_hideAll _ q) frs' hx fun h' t fl _ _ up=>⟨PySem.W.hideAll s.heap (L2.frs X.stack),.ref t,?_⟩
 have inB:∀b u,H b=some u->∃o,s.heap.get? b=some o/\(PySem.W.hideAll s.heap (L2.frs X.stack)).get? b=some o:=fun b u q=>by
  obtain⟨o,z⟩:=(I.hok b u q).here
  exact⟨o,z,PySem.W.hideAll_get _ z fun hb=>by rw[I.acK b hb]at q;cases q⟩
 refine⟨I.os,I.bare,?_,fl,fun b hb o q=>?_,fun b o q n hb=>?_,fun b u q=>?_,fun b o q hb=>?_,fun b o q n=>?_,fun b xs q=>I.base.tups b xs q,fun b o u q=>I.base.JC b o u q,fun b ps q=>I.base.Ln b ps q,?_⟩
 ·cases q:H e with
  | none=>rfl
  | some u =>
    obtain⟨o,z⟩:=(I.hok e u q).here
    rw[hx.new]at z
    cases z
 ·obtain⟨sl,z⟩:=I.base.slot b o q (I.ok.frf b hb) hb (O.nex b)
  obtain⟨_,o2,z2,nf⟩:=I.stack.mem (sub b hb)
  rw[z]at z2
  cases z2
  obtain⟨sl2,z3⟩:=up b _ (hx.keeps b _ z) nf
  exact⟨sl2,z3⟩
 ·exact PySem.W.hideAll_get _ (I.base.keep b o q n hb (O.nex b)) (O.out I q hb)
 ·obtain⟨o,z1,z2⟩:=inB b u q
  exact⟨o,fl.1 b o z2,z2⟩
 ·obtain⟨o',z⟩:=I.base.there b o q (O.nex b)
  exact⟨o',PySem.W.hideAll_get _ z (O.out I q hb)⟩
 ·obtain⟨o',z⟩:=I.base.there b o q (O.nex b)
  exact I.base.free b o q n (O.nex b)
 ·exact fun a u q=>(I.hok a u q).stay (fun b v hb z=>by
   have k:∀u',H b=some u'->h'.get? b=some v:=fun u' q'=>by
    obtain⟨o,z1,z2⟩:=inB b u' q'
    rw[z]at z1
    cases z1
    exact fl.1 b v z2
   rcases hb with rfl | hb
   ·exact k u q
   ·exact k _ hb) (fun _ z=>z) fun _ _ z=>z
end
def CX1(P:Program)(w:World):CXT:=fun l H s E e s'=>∃B a0 C ea H',e=Value.ref ea/\Fly P w B a0 l H s C ea H' s'/\E C none H'
section
variable{P:Program}{w:World}{K:PySem.W.Frag}{mg:Str->Option Value}{base:Heap}{N:List Str}{qual:Str}{scope:Scope}{f:Addr}{cd:Value}{A:Around}{outer:List Env}{s:Shared}{H:Hp}{E:XK}
theorem aru:BL (dD (CX1 P w) P w K mg base N qual scope f cd A outer s H E):=⟨rfl,rfl,rfl⟩
theorem BP:Passes (CX1 P w) (dD (CX1 P w) P w K mg base N qual scope f cd A outer s H E) E:=by
 intro pins σ H1 s1 e s' I h
 obtain⟨B,a0,C,ea,H',rfl,F,hE⟩:=h
 have fl:Heap.FlyingW B (envOfC qual scope s.heap.objs.size f cd::outer) ea C a0 s'.heap:=F.fly
 refine wpAny_leaves_onW (L:=s.heap.objs.size) I.ok.frames rfl fl fun h' fl' up=>?_
 exact⟨B,a0,C,ea,H',rfl,Fly.out aru I F fl' up,hE⟩
def Raises(X:Cx)(E:XK):Prop:=∀(pins:List (Addr×Obj)) (σ:St) (H:Hp) (s:Shared) (h':Heap) (e C:Addr) (vs:List Value),Inv X pins σ H s->Heap.MadeExcOf s.heap h' e (.ref C) vs->E (.ref C) none H->X.xe (.ref e) {s with heap:=h'}
theorem LR:Raises (dD (CX1 P w) P w K mg base N qual scope f cd A outer s H E) E:=by
 intro pins σ H1 s1 h' e C vs I hx hE
 refine gC (I.raised aru hx I.ok.frames) fun _ s2 h2=>?_
 obtain⟨B,a0,F⟩:=h2
 exact⟨B,a0,_,e,_,rfl,F,hE⟩
end
structure Exc(K:PySem.W.Frag)(C:Addr)(bm:List Value):Prop where
 obj:∀h:Heap,K.In h->∃N nm q bs hdct sn sub ab col dd k0 k1 k2 k3 k5 mN,h.get? C=some (excClassObj nm q C N bs bm hdct sn sub ab col dd k0 k1 k2 k3 k5 "ValueError.__new__")/\h.Ns N mN/\mN "__init__"=none/\
  OwnTail h [.type "ValueError",.type "Exception",.type "BaseException",.type "object"] bm
def mroIn(K:PySem.W.Frag)(C:Addr):Option (List Value):=match K.lookup C with
 | some ⟨_,_,.cls cd,_⟩=>some cd.mro
 | _=>none
theorem Qt{K:PySem.W.Frag}{C:Addr}{bm:List Value}(q:PySem.W.excIn K C [.type "ValueError",.type "Exception",.type "BaseException",.type "object"] "ValueError.__new__"=true) (m:mroIn K C=some (.ref C::bm)):Exc K C bm:=by
 refine⟨fun h X=>?_⟩
 unfold PySem.W.excIn at q
 unfold mroIn at m
 split at q
 ·rename_i dd cd sl ho
  rw[ho]at m
  split at q
  ·rename_i C' bm' k0 k1 k2 k3 n k5 hm hs
   simp only[Bool.and_eq_true,beq_iff_eq,Bool.not_eq_true']at q
   obtain⟨⟨⟨⟨⟨rfl,rfl⟩,hdel⟩,ht⟩,hok⟩,hni⟩:=q
   obtain⟨nm,bs,mro,ns,qn,hd,sn,sub,ab,col,del⟩:=cd
   dsimp only at hm hdel hok hni m
   subst hm hdel
   have e:bm'=bm:=by
    injection m with m
    injection m with m1 m2
   subst e
   have hsl:sl = #[k0,k1,k2,k3,some (.builtin "ValueError.__new__"),k5]:=by
    obtain⟨l⟩:=sl
    simp only at hs
    rw[hs]
   subst hsl
   exact⟨ns,nm,qn,bs,hd,sn,sub,ab,col,dd,k0,k1,k2,k3,k5,_,X _ _ ho,.of_isNs (PySem.W.isNs_of_in X hok),PySem.W.nsMap_none_of_in X hok hni,PySem.W.tail_of_in X ht⟩
  ·cases q
 ·cases q
theorem Exc.base{K:PySem.W.Frag}{C:Addr}{bm:List Value}(O:Exc K C bm){h:Heap}(X:K.In h):bm.contains (.type "BaseException")=true:=by
 obtain⟨_,_,_,_,_,_,_,_,_,_,_,_,_,_,_,_,_,_,_,T⟩:=O.obj h X
 exact T.hasType (by decide +kernel)
def asC(C:Value)(E:XK)(t:TA):TS:=fun _ σ H=>t σ H fun vs H1=>vs.length<=sizeLine/\E C none H1
section
variable{X:Cx}{C:Addr}{bm:List Value}{x:Str}{np cpos pos:Pos}{e₀:Expr}{rest:List Expr}{t:TA}{E:XK}
theorem Eu(O:Exc X.K C bm)(hg:Gl X x)(hm:X.mg x=some (.ref C))(hc:X.calm=true)(hr:Raises X E)(ha:PA X (e₀::rest) t)
 (he:starEach (e₀::rest) X.env=(false,eval e₀ X.env)::starEach rest X.env:=by rfl) (hpl:(backTo cpos (starEach rest X.env)).any (·.1)=false:=by rfl) (hdb:(x == ("__debug__":Str))=false:=by decide) :
 PS X (.Raise (some (.Call (.Name x np) (e₀::rest) [] cpos)) none pos) (asC (.ref C) E t):=by
 intro pins s σ H D I h
 obtain⟨N,nm,q,bs,hdct,sn,sub,ab,col,dd,k0,k1,k2,k3,k5,mN,hC,hN,hni,T⟩:=O.obj _ I.ok.mod.kin
 have FB:=PySem.F.excBase_ValueError
 refine wpAny_Raise_call_subU (C:=C) (nm:=nm) (q:=q) (N:=N) (bs:=bs) (bm:=bm) (hdct:=hdct) (sn:=sn) (sub:=sub) (ab:=ab) (col:=col) (dd:=dd) (k0:=k0) (k1:=k1) (k2:=k2) (k3:=k3) (k5:=k5)
  FB (by decide +kernel) FB (mN:=mN) (T.hasType FB.hasBase) (I.ok.hd hc) (by rw[he];show(false || (backTo cpos (starEach rest X.env)).any (·.1))=false;rw[hpl];rfl) hni (zH I hg hm ⟨rfl,?_⟩ hdb)
 have q1:=ha cpos pins s σ H _ I h
 rw[he]at q1 ⊢
 refine Calls.evalArgs_plain (gC q1 fun us s2 h2=>?_)
 obtain⟨vs,H2,I2,rv,hz,hE⟩:=h2
 exact⟨rfl,by rw[<-rv.length];exact hz,I2.bk _ _ hC,hN.keeps I2.bk,T.keeps I2.bk,fun h' e hx=>hr pins σ H2 s2 h' e C us I2 hx hE⟩
end
end L2
namespace L2
open PySem PySem.Spec PyProof.Rows
section
variable{M:Model}{A:Around}{E:Value->Shared->Prop}
theorem W4{s:Shared}{C C':Addr}{bm bm':List Value}{K:PySem.W.Frag}(X:K.In s.heap)(O:Exc K C bm)(O':Exc K C' bm'){e:Addr}{oe:Obj}{Q:Bool->Shared->Prop}(he:s.heap.get? e=some oe)(hcls:oe.cls=.ref C)
 (hq:Q ((Value.ref C::bm).contains (.ref C')) s):wpAny M A (excMatches (.ref e) (.ref C')) Q E s:=by
 have hb:=O'.base X
 obtain⟨N,nm,q,bs,hdct,sn,sub,ab,col,dd,k0,k1,k2,k3,k5,mN,hC,_⟩:=O.obj _ X
 obtain⟨N',nm',q',bs',aA9,sn',aCu,ab',aCv,dd',k0',k1',k2',k3',k5',mN',hC',_⟩:=O'.obj _ X
 obtain⟨h,g,d,t,os⟩:=s
 dsimp only at he hC hC'
 have hcB:(Value.ref C'::bm').contains (.type "BaseException")=true:=by rw[List.contains_cons,hb,Bool.or_true]
 have f:=tc_notTuple
 generalize hcc:(Value.ref C::bm).contains (.ref C')=b at hq
 unfold excMatches
 repeat (first | (with_reducible refine wpAny_loadPart_at he ?_;rw[hcls]) | with_reducible refine wpAny_loadPart_at hC' ?_ | (with_reducible refine wpAny_isSubtype_exc hC' ?_;rw[hcB]) | (with_reducible refine wpAny_isSubtype_exc hC ?_;rw[hcc]) | wp_step)
 cases b<;>(wp_walk;exact hq)
end
def aaw(X:Cx)(pl:List (Addr×Obj))(R:St->Value->Hp->Prop):Cx :=
 ({X with pn:=X.pn++pl}:Cx).wish fun e s'=>∃pins σ H s,Inv ({X with pn:=X.pn++pl}:Cx) pins σ H s/\CX1 X.prog X.w X.stack H s (fun C _ H'=>R σ C H') e s'
def af3(X:Cx)(e:Addr):Cx:={X with A:=X.A.mark (some (.ref e)),calm:=false,xe:=fun _ _=>False}
section
variable{X:Cx}{pins pl:List (Addr×Obj)}{σ:St}{H H':Hp}{s s':Shared}{R:St->Value->Hp->Prop}{e:Addr}{D:Ends}{f:Flow}
theorem Inv.azt(I:Inv X pl σ H s):Inv ({X with pn:=X.pn++pl}:Cx) [] σ H s :=
 ⟨⟨I.ok.mod,I.ok.kind,I.ok.glob,I.ok.blt,I.ok.above,I.ok.inj,I.ok.has,I.ok.cab,I.ok.hd,I.ok.frames,I.ok.stk,I.ok.exf,I.ok.bs,I.ok.bsz,I.ok.afK,I.ok.ah5,I.ok.JD,I.ok.frf⟩,I.os,I.bare,I.base,I.loc,I.cell,I.free,I.vB,
  fun p hp=>I.pin p (by rw[List.append_nil]at hp;exact hp),I.hok,I.len⟩
theorem Inv.awd(I:Inv ({X with pn:=X.pn++pl}:Cx) pins σ H s):Inv X pl σ H s :=
 ⟨⟨I.ok.mod,I.ok.kind,I.ok.glob,I.ok.blt,I.ok.above,I.ok.inj,I.ok.has,I.ok.cab,I.ok.hd,I.ok.frames,I.ok.stk,I.ok.exf,I.ok.bs,I.ok.bsz,I.ok.afK,I.ok.ah5,I.ok.JD,I.ok.frf⟩,I.os,I.bare,I.base,I.loc,I.cell,I.free,I.vB,
  fun p hp=>I.pin p (List.mem_append_left _ hp),I.hok,I.len⟩
theorem Inv.awe(I:Inv X pl σ H s):Inv (aaw X pl R) [] σ H s:=I.azt.wish _
theorem Inv.Ma(I:Inv (aaw X pl R) pins σ H s):Inv X pl σ H s:=(Inv.wX I).awd
theorem SP.Ma(h:SP (aaw X pl R) pins D f s'):SP X pl D f s':=by
 cases f with
 | next=>obtain⟨σ',H',I,q⟩:=h;exact⟨σ',H',I.Ma,q⟩
 | brk=>obtain⟨σ',H',I,q⟩:=h;exact⟨σ',H',I.Ma,q⟩
 | cont=>obtain⟨σ',H',I,q⟩:=h;exact⟨σ',H',I.Ma,q⟩
 | ret u=>obtain⟨v,σ',H',I,r,q⟩:=h;exact⟨v,σ',H',I.Ma,r,q⟩
theorem Inv.af3(I:Inv X pins σ H s)(e:Addr):Inv (L2.af3 X e) pins σ H s :=
 ⟨⟨I.ok.mod,I.ok.kind,I.ok.glob,I.ok.blt,I.ok.above,I.ok.inj,I.ok.has,I.ok.cab,fun z=>(nomatch (show false=true from z)),I.ok.frames,I.ok.stk,I.ok.exf,I.ok.bs,I.ok.bsz,I.ok.afK,I.ok.ah5,I.ok.JD,I.ok.frf⟩,I.os,I.bare,I.base,I.loc,I.cell,I.free,I.vB,
  I.pin,I.hok,I.len⟩
theorem Inv.Qu{X:Cx}(ok:X.Ok)(I:Inv (L2.af3 X e) pins σ H s):Inv X pins σ H s :=
 ⟨ok,I.os,I.bare,I.base,I.loc,I.cell,I.free,I.vB,I.pin,I.hok,I.len⟩
theorem SP.Qu(ok:X.Ok)(h:SP (af3 X e) pins D f s'):SP X pins D f s':=by
 cases f with
 | next=>obtain⟨σ',H',I,q⟩:=h;exact⟨σ',H',I.Qu ok,q⟩
 | brk=>obtain⟨σ',H',I,q⟩:=h;exact⟨σ',H',I.Qu ok,q⟩
 | cont=>obtain⟨σ',H',I,q⟩:=h;exact⟨σ',H',I.Qu ok,q⟩
 | ret u=>obtain⟨v,σ',H',I,r,q⟩:=h;exact⟨v,σ',H',I.Qu ok,r,q⟩
end
def PH(X:Cx)(hs:List ExceptHandler)(th:Value->TS):Prop :=
 ∀(pins:List (Addr×Obj)) (σ:St) (H:Hp) (s:Shared) (B:Heap) (a0 C:Value) (e:Addr) (H':Hp) (s':Shared) (D:Ends),Inv X pins σ H s->Fly X.prog X.w B a0 X.stack H s C e H' s'->th C D σ H'->
  wpAny (model X.prog X.w) X.A (handleBy (.ref e) X.env hs) (SP X pins D) X.xe s'
def azu(tb:(St->Value->Hp->Prop)->TS)(th:Value->TS):TS:=fun D σ H=>tb (fun σ' C H'=>th C D σ' H') D σ H
def awf(K:PySem.W.Frag)(C':Addr)(ts:TS)(tr:Value->TS):Value->TS:=fun C D σ H=>∃c bm,C=Value.ref c/\Exc K c bm/\if(Value.ref c::bm).contains (.ref C')=true then ts D σ H else tr C D σ H
section
variable{X:Cx}{body suite:List Stmt}{b₀:Stmt}{h₀:ExceptHandler}{hs rest:List ExceptHandler}{tb:(St->Value->Hp->Prop)->TS}{th tr:Value->TS}{ts:TS}{pos np:Pos}{x n:Str}{C':Addr}{bm':List Value}
theorem asD:PH X [] (fun _=>asb):=fun _ _ _ _ _ _ _ _ _ _ _ _ _ h=>h.elim
theorem asF(O:BL X)(hb:∀pl R,PSs (aaw X pl R) body (tb R))(hh:PH X (h₀::hs) th):PS X (.Try body (h₀::hs) [] [] pos) (azu tb th):=by
 intro pins s σ H D I h
 refine wpAny_Try_except (wpAny_mono (hb pins _ [] s σ H D I.awe h) (fun f s1 h1=>?_) fun e s1 h1=>?_)
 ·cases f with
  | next=>exact wpAny_execs_nil (SP.Ma h1)
  | brk=>exact SP.Ma h1
  | cont=>exact SP.Ma h1
  | ret u=>exact SP.Ma h1
 ·obtain⟨al0,σ',H1,s2,I2,B,a0,C,ea,H',rfl,F,q⟩:=h1
  have I2':Inv X pins σ' H1 s2:=I2.awd
  have fr:X.A.frames=some (X.env::X.outer):=by rw[<-O.st];exact I2'.ok.frames
  have fl:Heap.FlyingW B (X.env::X.outer) ea C a0 s1.heap:=by rw[<-O.st];exact F.fly
  refine wpAny_looks_onW (L:=X.env.locals) fr O.fr fl fun h2 held up2=>?_
  refine wpAny_landsW held fun h3 fl3 up3=>?_
  have F3:Fly X.prog X.w B a0 X.stack H1 s2 C ea H' {s1 with heap:=h3}:=F.move (by rw[O.st];exact fl3) (up2.trans up3)
  exact hh pins σ' H1 s2 B a0 C ea H' _ D I2' F3 q
theorem W5(O:BL X)(hg:Gl X x)(hm:X.mg x=some (.ref C'))(O':Exc X.K C' bm')(hsu:∀e,PSs (af3 X e) (b₀::suite) ts)(hr:PH X rest tr)(hdb:(x == ("__debug__":Str))=false:=by decide) :
 PH X (.ExceptHandler (some (.Name x np)) none (b₀::suite) pos::rest) (awf X.K C' ts tr):=by
 intro pins σ H s B a0 C e H' s' D I F h
 obtain⟨c,bm,rfl,Oc,q⟩:=h
 have I':=I.fly F
 obtain⟨ob,hob,hcls⟩:=F.fly.there
 refine wpAny_handleBy_cons (codeAny_handlers_test (zH (X:=af3 X e) (I'.af3 e) hg hm ?_ hdb)) (by intro z;cases z)
 refine W4 I'.yg Oc O' hob hcls ?_
 cases hb:(Value.ref c::bm).contains (.ref C')with
 | false =>
   rw[hb,if_neg Bool.false_ne_true]at q
   exact hr pins σ H s B a0 _ e H' s' D I F q
 | true =>
   rw[hb,if_pos rfl]at q
   refine codeAny_handlers_suite ?_
   refine lands_againW F.fly fun h3 fl3 up3=>?_
   have I3:=I.fly (F.move fl3 up3)
   refine wpAny_mono (hsu e pins _ σ H' D (I3.af3 e) q) (fun f s4 h4=>?_) fun _ _ z=>z.elim
   exact SP.Qu I.ok h4
end
def asG(C:Addr)(m:Str)(sp:Sp)(R:St->Value->Hp->Prop)(ta:TE)(t:TA):TE:=fun σ H Q=>ta σ H fun x H1=>∃a dx fs,x=.ref a/\H1 a=some (.ins C dx fs)/\fs.lookup m=none/\
 t σ H1 fun vs H2=>sp (x::vs) H2 Q fun C _ H'=>R σ C H'
section
variable{X:Cx}{pl:List (Addr×Obj)}{R:St->Value->Hp->Prop}{k:Nat}{f C:Addr}{fd:FuncData}{ps:List Str}{sp:Sp}{x m:Str}{p pos apos:Pos}{e o:Expr}{es:List Expr}{ta:TE}{t:TA}
theorem aoW{pins:List (Addr×Obj)}{σ:St}{H:Hp}{s:Shared}{Q:VK}{us:List Value}{vs:List V}(F:dj X.prog X.w X.K X.mg X.base (CX1 X.prog X.w) k f fd ps sp)(hr:bQ k X.A)(hb:Binds X.K fd ps [])
 (I:Inv (aaw X pl R) pins σ H s) (r:Vals vs us) (h:sp vs H Q fun C _ H'=>R σ C H'):wpAny (model X.prog X.w) X.A (call (.ref f) us) (EP (aaw X pl R) pins σ Q) (aaw X pl R).xe s:=by
 have hl:us.length=ps.length:=by rw[<-r.length];exact F.len _ _ _ _ h
 have hb':=hb s us I.yg (by rw[List.append_nil];exact hl)
 rw[List.append_nil]at hb'
 refine wpAny_call (codeAny_mono (F.run X.A X.stack s H ⟨us,[]⟩ us vs Q _ hr I.env0 hb' r h) fun r s' hq=>?_)
 cases r with
 | error e=>exact⟨pins,σ,H,s,I.wX,hq⟩
 | ok fl =>
   cases fl with
   | ret u=>exact I.after hq
   | next=>exact False.elim hq
   | brk=>exact False.elim hq
   | cont=>exact False.elim hq
theorem amu{pl':Sem Bool}(he:PE (aaw X pl R) o ta)(c:Cls X.K C)(hm:Meth X.K C m f)(F:dj X.prog X.w X.K X.mg X.base (CX1 X.prog X.w) k f fd ps sp)(hr:bQ k X.A)(hb:Binds X.K fd ps [])(ha:PA (aaw X pl R) (e::es) t)
 (hst:starEach (e::es) X.env=(false,eval e X.env)::starEach es X.env:=by rfl) (hpl:(backTo pos (starEach es X.env)).any (·.1)=false:=by rfl)
 (ht:eval (.Call (.Attribute o m apos) (e::es) [] pos) X.env=(do
   let ov <-eval o X.env
   standAt apos.atName
   let (f,first) <-holding [ov] (getMethod ov m pl')
   callWith pos f first (backTo pos (starEach (e::es) X.env)) (backToKw pos (keywordEach [] X.env))):=by rfl) :
 PE (aaw X pl R) (.Call (.Attribute o m apos) (e::es) [] pos) (asG C m sp R ta t):=by
 intro pins s σ H Q I h
 refine PySem.W.methodCall_KW (pl:=pl') (gC (he pins s σ H _ I h) fun u s1 hz=>kW hz fun x H1 I1 rx ⟨a,dx,fs,ex,ea,l,q⟩=>?_) ht
 subst ex
 obtain rfl:u=Value.ref a:=rx
 refine JH I1 ea c hm l ?_
 refine PySem.W.callWith_K (first:=[.ref a]) (h₀:=X.base) I.ok.mod.kin hm.kp (gC (ha pos pins s1 σ H1 _ I1 q) fun us s2 hz=>kW hz fun vs H2 I2 r q2=>⟨I2.yg,?_⟩) hst hpl
 exact aoW (us:=.ref a::us) (vs:=.ref a::vs) F hr hb I2 (.cons rfl r) q2
end
section
variable{P:Program}{w:World}{K:PySem.W.Frag}{mg:Str->Option Value}{base:Heap}
theorem jM.okX{x qual:Str}{st:Stmt}{f:Addr}{fd:FuncData}{N ps:List Str}{k:Nat}{sp:Sp}(F:jM K x qual st f fd)(S:bC N ps (aP st))(len:∀vs H Q E,sp vs H Q E->vs.length=ps.length)
 (hbody:∀(cdv:Value) (A:Around) (outer:List Env) (s:Shared) (H:Hp) (vs:List V) (Q:VK) (E:XK),bQ k (A.deeper (envOfC qual (aP st) s.heap.objs.size f cdv))->sp vs H Q E->
   ∃t,PSs (dD (CX1 P w) P w K mg base N qual (aP st) f cdv A outer s H E) (zN st) t/\t {nx:=fun _ H'=>Q .non H',rt:=Q} (start N vs) H):dj P w K mg base (CX1 P w) (k+1) f fd ps sp:=by
 obtain⟨oc,od,kV,doc,pm,an,cdv,ct,osl,rfl,lk,hcd⟩:=F.ex
 exact arp lk hcd S len fun A outer s H vs Q E hr hsp=>hbody cdv A outer s H vs Q E hr hsp
theorem Qv{CX:CXT}{N:List Str}{qual:Str}{scope:Scope}{f:Addr}{cd:Value}{A:Around}{outer:List Env}{s:Shared}{H:Hp}{E:XK}:BL (dD CX P w K mg base N qual scope f cd A outer s H E).kZ:=⟨rfl,rfl,rfl⟩
end
end L2
namespace L2
open PySem PySem.Spec PyProof.Rows
theorem af4{prog:Program}{w:World}{A:Around}{R:Result->Shared->Prop}{s:Shared}{elt target iter:Expr}{ifs:List Expr}{scope:Scope}{pos:Pos}{it acc:Value}{env:Env}(I:Nat->Shared->Prop)
 (turn:∀n s,I n s->wpAny (model prog w) A (pyNext it) (fun r s₁=>match r with
   | none=>R (.ok .next) s₁
   | some v=>wpAny (model prog w) A (letOwnedTupleGo target it v) (fun _ s₁'=>wpAny (model prog w) A (assign target env v) (fun _ s₂ =>
      wpAny (model prog w) A (forIn ifs true fun c r=>if r=true then do let ok <-isTrue c env (eval c env);pure (ForInStep.yield ok)else pure (ForInStep.yield r)) (fun ok s₃ =>
       if ok=true then wpAny (model prog w) A (eval elt env) (fun x s₄ =>
        wpAny (model prog w) A (call (.builtin "list.append") [acc,x]) (fun _ s₅=>∃m,m<n/\I m s₅) (fun _ _=>False) s₄) (fun _ _=>False) s₃
       else ∃m,m<n/\I m s₃) (fun _ _=>False) s₂) (fun _ _=>False) s₁') (fun _ _=>False) s₁) (fun _ _=>False) s)
 (n:Nat) (h:I n s):codeAny (model prog w) A (.compLoop (.ListComp elt [⟨target,iter,ifs,0⟩] scope pos) 0 it acc env) R s:=by
 refine codeAny_loop rfl I (fun n s hI=>?_) n h
 show wpAny _ A ((compTurn (.ListComp elt [⟨target,iter,ifs,0⟩] scope pos) 0 it acc env).onRaise (fun x=>do noteFrame x env;theTreesLotGoes x)) _ _ s
 refine wpAny_noted ?_
 rw[compTurn_list]
 refine wpAny_bind (wpAny_standAt (wpAny_bind (wpAny_mono (turn n s hI) (fun r s₁ h₁=>?_) fun _ _ h'=>h'.elim)))
 cases r with
 | none=>exact wpAny_pure h₁
 | some v =>
   refine wpAny_bind (wpAny_mono h₁ (fun _ s₁' h₁'=>?_) fun _ _ h'=>h'.elim)
   refine wpAny_bind (wpAny_mono h₁' (fun _ s₂ h₂=>wpAny_bind (wpAny_mono h₂ (fun ok s₃ h₃=>?_) fun _ _ h'=>h'.elim)) fun _ _ h'=>h'.elim)
   cases ok with
   | false=>exact wpAny_pure ⟨rfl,h₃⟩
   | true =>
     exact wpAny_bind (wpAny_bind (wpAny_mono h₃ (fun x s₄ h₄=>wpAny_bind (wpAny_mono h₄ (fun _ s₅ h₅=>wpAny_pure (wpAny_pure ⟨rfl,h₅⟩)) fun _ _ h'=>h'.elim)) fun _ _ h'=>h'.elim))
def TX(env:Env)(ys:List Str):List (Str×Addr):=ys.filterMap fun y=>(env.cells.lookup y).map fun c=>(y,c)
theorem il{env:Env}:∀{ys:List Str} {x:Str} {c:Addr},(TX env ys).lookup x=some c->x∈ys/\env.cells.lookup x=some c
 | [],_,_,h=>by simp[TX]at h
 | y::ys,x,c,h=>by
   unfold TX at h
   rw[List.filterMap_cons]at h
   cases e:env.cells.lookup y with
   | none =>
     rw[e]at h
     obtain⟨h1,h2⟩:=il (ys:=ys) (x:=x) (c:=c) h
     exact⟨List.mem_cons_of_mem _ h1,h2⟩
   | some d =>
     rw[e]at h
     change List.lookup x ((y,d)::TX env ys)=some c at h
     rw[List.lookup_cons]at h
     cases hx:x == y with
     | true =>
       rw[hx]at h
       cases h
       have q:x=y:=by simpa using hx
       subst q
       exact⟨List.mem_cons_self,e⟩
     | false =>
       rw[hx]at h
       obtain⟨h1,h2⟩:=il (ys:=ys) (x:=x) (c:=c) h
       exact⟨List.mem_cons_of_mem _ h1,h2⟩
theorem W6{env:Env}:∀{ys:List Str} {x:Str} {c:Addr},x∈ys->env.cells.lookup x=some c->(TX env ys).lookup x=some c
 | [],_,_,h,_=>by simp at h
 | y::ys,x,c,h,e=>by
   unfold TX
   rw[List.filterMap_cons]
   by_cases q:x=y
   ·subst q
    rw[e]
    show List.lookup x ((x,c)::_)=some c
    rw[List.lookup_cons]
    simp
   ·have h':x∈ys:=(List.mem_cons.mp h).resolve_left q
    have ih:=W6 (env:=env) h' e
    cases e':env.cells.lookup y with
    | none=>exact ih
    | some d =>
      show List.lookup x ((y,d)::TX env ys)=some c
      rw[List.lookup_cons]
      have:(x == y)=false:=by simpa using q
      rw[this]
      exact ih
def zP(X:Cx):List Str->List Nat->Prop
 | [],[]=>True
 | y::ys,j::js=>(X.N[j]? = some y/\(X.env.kindOf y=some .cell\/X.env.kindOf y=some .free))/\zP X ys js
 | _,_=>False
def pick(σ:St)(js:List Nat):St:=js.map fun j=>(σ[j]?).getD none
structure HN(X:Cx)(scope:Scope)(xs ys:List Str)(js:List Nat):Prop where
 kind:scope.kind=.function
 names:∀p∈scope.names,(p.2=.local/\scope.names.lookup p.1=some .local)\/(p.2=.free/\p.1∈ys/\scope.names.lookup p.1=some .free)\/(p.2=.globalImplicit/\scope.names.lookup p.1=some .globalImplicit)
 own:∀x∈xs,scope.names.lookup x=some .local
 frees:∀y∈ys,scope.names.lookup y=some .free
 clos:closureFor scope X.env=pure (TX X.env ys)
 fr:zP X ys js
def blk(X:Cx)(scope:Scope)(xs ys:List Str)(C:Addr)(s₀:Shared)(H₀:Hp)(fp:List Addr)(pl:List (Addr×Obj)):Cx :=
 {X with N:=xs++ys,s₀:=s₀,H₀:=H₀,env:=compEnvC scope (TX X.env ys) C X.env,outer:=X.stack,ex:=fp,fn:=fun y=>xs.contains y,pn:=X.pn++pl,xe:=fun _ _=>False}
def awg(X:Cx)(pins:List (Addr×Obj))(H:Hp)(C:Addr):Prop :=
 H C=none/\C≠X.env.locals/\X.s₀.heap.objs.size<=C/\(∀x c,X.env.cells.lookup x=some c->c≠C)/\∀p∈X.pn++pins,p.1≠C
theorem Inv.let_go{X:Cx}{pins:List (Addr×Obj)}{σ:St}{H:Hp}{s:Shared}{C:Addr}{h':Heap}(I:Inv X pins σ H s)(j:awg X pins H C)(hs:Heap.SameBut C s.heap h'):Inv X pins σ H {s with heap:=h'} :=
 I.turned (t':=s.toks) (fun b _ hb e=>(hs.2 b hb).trans e) j.1 j.2.1 (.inr j.2.2.1) j.2.2.2.1 j.2.2.2.2
def Ew(J:It)(g:TG)(tc:TT)(te:TE)(σ:St)(acc:Addr)(H1:Hp)(Q:VK):Prop :=
 ∃W:Nat->Nat->List V->St->Hp->Prop,(∃m,W 0 m [] σ (upd H1 acc (.lst [])))/\∀i m zs σ H2,W i m zs σ H2->H2 acc=some (.lst zs)/\
  ((J.stop i H2/\Q (.ref acc) H2)\/(J.go i H2/\∀y H3,J.yld i H2 y H3->g y σ H3 fun σ4 H4=>tc σ4 H4 fun b H5=>if b=true then te σ4 H5 fun z H6=>H6 acc=some (.lst zs)/\zs.length<sizeLine/\∃m',m'<m/\W (i+1) m' (zs++[z]) σ4 (upd H6 acc (.lst (zs++[z])))
    else ∃m',m'<m/\W (i+1) m' zs σ4 H5))
def awh(wi:TI)(n:Nat)(js:List Nat)(g:TG)(tc:TT)(te:TE):TE:=fun σ H Q=>wi σ H fun J H1=>∀acc,H1 acc=none->Ew J g tc te (List.replicate n none++pick σ js) acc H1 Q
def aoX(X:Cx)(ifs:List Expr)(tc:TT):Prop :=
 ∀(pins:List (Addr×Obj)) (s:Shared) (σ:St) (H:Hp) (Q:Bool->Hp->Prop),Inv X pins σ H s->tc σ H Q->
  wpAny (model X.prog X.w) X.A (forIn ifs true fun c r=>if r=true then do let ok <-isTrue c X.env (eval c X.env);pure (ForInStep.yield ok)else pure (ForInStep.yield r)) (TP X pins σ Q) X.xe s
def akV:TT:=fun _ H Q=>Q true H
theorem sJ{X:Cx}:aoX X [] akV:=fun _ _ _ H _ I h=>wpAny_tests_nil ⟨H,I,h⟩
theorem ajH{X:Cx}{c:Expr}{tc:TT}(h:PT X c tc):aoX X [c] tc:=fun pins s σ H Q I q=>wpAny_tests_one (h pins s σ H Q I q)
section
variable{X:Cx}{scope:Scope}{xs ys:List Str}{js:List Nat}{elt target iter:Expr}{ifs:List Expr}{pos px:Pos}{wi:TI}{g:TG}{tc:TT}{te:TE}
theorem zP.get:∀{ys:List Str} {js:List Nat} {i:Nat} {y:Str},zP X ys js->ys[i]? = some y->∃j,js[i]? = some j/\X.N[j]? = some y/\(X.env.kindOf y=some .cell\/X.env.kindOf y=some .free)
 | [],_,_,_,_,h=>by simp at h
 | _::_,[],_,_,f,_=>f.elim
 | y'::ys,j::js,0,y,f,h=>by
   have e:y'=y:=by simpa using h
   subst e
   exact⟨j,rfl,f.1⟩
 | y'::ys,j::js,i+1,y,f,h=>by
   obtain⟨j',h1,h2⟩:=zP.get (i:=i) (y:=y) f.2 (by simpa using h)
   exact⟨j',by simpa using h1,h2⟩
theorem zP.len:∀{ys:List Str} {js:List Nat},zP X ys js->ys.length=js.length
 | [],[],_=>rfl
 | [],_::_,f=>f.elim
 | _::_,[],f=>f.elim
 | _::ys,_::js,f=>by simp[zP.len f.2]
theorem rO{env:Env}:∀{names:List (Str×NameKind)} {x:Str},names.lookup x=some .free->
 (names.map fun(n,k)=>if(k == NameKind.free && env.scope.kind == .function && env.kindOf n == some .cell)then(n,NameKind.cell)else(n,k)).lookup x=some .cell\/
 (names.map fun(n,k)=>if(k == NameKind.free && env.scope.kind == .function && env.kindOf n == some .cell)then(n,NameKind.cell)else(n,k)).lookup x=some .free
 | [],_,h=>by simp at h
 | (n,k)::r,x,h=>by
   have ih := @rO env r x
   show List.lookup x ((if(k == NameKind.free && env.scope.kind == .function && env.kindOf n == some .cell)=true then(n,NameKind.cell)else(n,k))::_)=_\/List.lookup x ((if(k == NameKind.free && env.scope.kind == .function && env.kindOf n == some .cell)=true then(n,NameKind.cell)else(n,k))::_)=_
   cases hx:x == n with
   | true =>
     simp only[List.lookup_cons,hx]at h
     cases h
     by_cases hc:(NameKind.free == NameKind.free && env.scope.kind == .function && env.kindOf n == some .cell)=true
     ·rw[if_pos hc];left;simp[List.lookup_cons,hx]
     ·rw[if_neg hc];right;simp[List.lookup_cons,hx]
   | false =>
     simp only[List.lookup_cons,hx]at h
     by_cases hc:(k == NameKind.free && env.scope.kind == .function && env.kindOf n == some .cell)=true
     ·rw[if_pos hc];simp only[List.lookup_cons,hx];exact ih h
     ·rw[if_neg hc];simp only[List.lookup_cons,hx];exact ih h
theorem Ex{env:Env}:∀{names:List (Str×NameKind)} {x:Str} {k:NameKind},(names.map fun(n,k)=>if(k == NameKind.free && env.scope.kind == .function && env.kindOf n == some .cell)then(n,NameKind.cell)else(n,k)).lookup x=some k->
 ∃p∈names,p.1=x/\(p.2=k\/(p.2=.free/\k=.cell))
 | [],_,_,h=>by simp at h
 | (n,k')::r,x,k,h=>by
   have h:List.lookup x ((if(k' == NameKind.free && env.scope.kind == .function && env.kindOf n == some .cell)=true then(n,NameKind.cell)else(n,k'))::_)=some k:=h
   have ih := @Ex env r x k
   by_cases hc:(k' == NameKind.free && env.scope.kind == .function && env.kindOf n == some .cell)=true
   ·rw[if_pos hc,List.lookup_cons]at h
    cases hx:x == n with
    | true =>
      rw[hx]at h
      cases h
      refine⟨(n,k'),List.mem_cons_self,(by simpa using hx:x=n).symm,Or.inr ⟨?_,rfl⟩⟩
      rw[Bool.and_eq_true,Bool.and_eq_true]at hc
      simpa using hc.1.1
    | false =>
      rw[hx]at h
      obtain⟨p,h1,h2⟩:=ih h
      exact⟨p,List.mem_cons_of_mem _ h1,h2⟩
   ·rw[if_neg hc,List.lookup_cons]at h
    cases hx:x == n with
    | true =>
      rw[hx]at h
      cases h
      exact⟨(n,k'),List.mem_cons_self,(by simpa using hx:x=n).symm,Or.inl rfl⟩
    | false =>
      rw[hx]at h
      obtain⟨p,h1,h2⟩:=ih h
      exact⟨p,List.mem_cons_of_mem _ h1,h2⟩
theorem akW{pins:List (Addr×Obj)}{σ:St}{H:Hp}{s:Shared}{h':Heap}{fp:List Addr}{tk:Nat}(S:HN X scope xs ys js)(I:Inv X pins σ H s)(hf:∀b∈fp,Lq X pins H b)(hfl:∀b∈fp,b<s.heap.objs.size)
 (hn:h'.Ns s.heap.objs.size fun _=>none) (k:∀b o,s.heap.get? b=some o->h'.get? b=some o) :
 Inv (blk X scope xs ys s.heap.objs.size s H fp pins) [] (List.replicate xs.length none++pick σ js) H {s with heap:=h',toks:=tk}:=by
 have hfr:∀a,s.heap.objs.size<=a->H a=none:=fun a ha=>I.hok.fresh ha
 have fpS:∀b∈fp,b∉L2.frs X.stack:=fun b hb z=>by
  rcases List.mem_cons.mp (I.Wy b z)with e | e
  ·exact(hf b hb).2.1 e
  ·exact(hf b hb).2.2.1 e
 have azx:∀x,((relabel scope X.env).names.lookup x=some .cell\/(relabel scope X.env).names.lookup x=some .free)->x∈ys:=fun x hx=>by
  rcases hx with z | z
  ·obtain⟨p,hp,e,z⟩:=Ex z
   rcases S.names p hp with ⟨h1,_⟩ | ⟨_,h2,_⟩ | ⟨h1,_⟩
   ·rcases z with z | z
    ·rw[h1]at z;cases z
    ·rw[h1]at z;cases z.1
   ·rw[<-e];exact h2
   ·rcases z with z | z
    ·rw[h1]at z;cases z
    ·rw[h1]at z;cases z.1
  ·obtain⟨p,hp,e,z⟩:=Ex z
   rcases S.names p hp with ⟨h1,_⟩ | ⟨_,h2,_⟩ | ⟨h1,_⟩
   ·rcases z with z | z
    ·rw[h1]at z;cases z
    ·cases z.2
   ·rw[<-e];exact h2
   ·rcases z with z | z
    ·rw[h1]at z;cases z
    ·cases z.2
 refine⟨⟨I.ok.mod,S.kind,I.ok.glob,I.ok.blt,Nat.le_refl _,fun x y c h1 h2=>I.ok.inj x y c (il h1).2 (il h2).2,fun x hx=>?_,fun x c h1 h2=>?_,I.ok.hd,I.ok.frames,.inl rfl,fun b hb=>⟨?_,fun x c e=>(hf b hb).2.2.2.2.1 x c (il e).2⟩,
  I.bs,Nat.le_trans I.ok.bsz I.sz,fun b o e z=>?_,fpS,I.stack,I.acK⟩,rfl,I.bare,Un.kept k,⟨_,hn,fun i y v e1 e2 e3=>?_⟩,fun x c e=>?_,hfr _ (Nat.le_refl _),fun x c e=>?_,fun p hp=>?_,I.hok.kept k,?_⟩
 ·have q:x∈ys:=azx x hx
  obtain⟨i,hi⟩:=List.getElem?_of_mem q
  obtain⟨j,_,_,hk⟩:=S.fr.get hi
  obtain⟨c,hc⟩:=I.ok.has x hk
  exact⟨c,W6 q hc⟩
 ·have q:=(il h2).1
  have h1':x∈xs:=by
   have:xs.contains x=true:=h1
   simpa using this
  have a:=S.own x h1'
  have b:=S.frees x q
  rw[a]at b
  cases b
 ·intro z
  have z':b=s.heap.objs.size:=z
  have:=hfl b hb
  rw[z']at this
  exact Nat.lt_irrefl _ this
 ·rcases (hf b z).2.2.2.1 with q | q
  ·exact I.ok.afK b o e q
  ·exact absurd (Nat.lt_of_lt_of_le (Heap.lt_size (I.ok.bs b o e).1) q) (Nat.lt_irrefl _)
 ·have e1':(xs++ys)[i]? = some y:=e1
  by_cases hi:i<xs.length
  ·rw[List.getElem?_append_left (by rw[List.length_replicate];exact hi),List.getElem?_replicate]at e2
   split at e2<;>cases e2
  ·rw[List.getElem?_append_right (by lia)]at e1'
   rw[List.getElem?_append_right (by rw[List.length_replicate];lia),List.length_replicate]at e2
   obtain⟨j,hj,hN,hk⟩:=S.fr.get e1'
   unfold pick at e2
   rw[List.getElem?_map,hj]at e2
   have e4:σ[j]? = some (some v):=by
    have e5:(σ[j]?).getD none=some v:=by simpa using e2
    cases q:σ[j]? with
    | none=>rw[q]at e5;cases e5
    | some o=>rw[q]at e5;simpa using e5
   have azy:Vis X.env.scope y:=by
    rcases hk with z | z
    ·exact .inr (.inl z)
    ·exact .inr (.inr z)
   obtain⟨m0,_,hl⟩:=I.loc
   obtain⟨u,ru,lk⟩:=hl j y v hN e4 azy
   refine⟨u,ru,.inr ⟨?_,?_⟩⟩
   ·exact rO (S.frees y (List.mem_of_getElem? e1'))
   ·rcases lk with ⟨z,_⟩ | ⟨_,c,hc,hcell⟩
    ·rcases hk with q | q
     ·rw[q]at z;cases z
     ·rw[q]at z;cases z
    ·exact⟨c,W6 (List.mem_of_getElem? e1') hc,hcell.keeps k⟩
 ·obtain⟨v,z⟩:=I.cell x c (il e).2
  exact⟨v,z.keeps k⟩
 ·exact I.vB x c (il e).2
 ·have hp':p∈X.pn++pins:=by
   have:p∈(X.pn++pins)++[]:=hp
   rwa[List.append_nil]at this
  obtain⟨e,n,ne,nf,d⟩:=I.pin p hp'
  refine⟨k _ _ e,n,fun z=>?_,fun z=>?_,d⟩
  ·have z':p.1=s.heap.objs.size:=z
   exact absurd (Heap.lt_size e) (by rw[z'];exact Nat.lt_irrefl _)
  ·have z':p.1∈L2.frs X.stack:=z
   rcases List.mem_cons.mp (I.Wy _ z')with q | q
   ·exact ne q
   ·exact nf q
 ·show(List.replicate xs.length none++pick σ js).length=(xs++ys).length
  rw[List.length_append,List.length_append,List.length_replicate]
  unfold pick
  rw[List.length_map,S.fr.len]
theorem amw{pins:List (Addr×Obj)}{σ:St}{H2:Hp}{s2:Shared}{J:It}{fp:List Addr}{it:Addr}{tn:Nat->Heap->Prop}{Q:VK}(S:HN X scope xs ys js)(hc:X.calm=true)(I2:Inv X pins σ H2 s2)(T:Turn X.prog X.w X.K target J fp it tn)(st2:tn 0 s2.heap)
 (f2:∀b∈fp,Lq X pins H2 b) (hg:∀C s₀ H₀ fp pl,PG (blk X scope xs ys C s₀ H₀ fp pl) target g) (hi:∀C s₀ H₀ fp pl,aoX (blk X scope xs ys C s₀ H₀ fp pl) ifs tc) (he:∀C s₀ H₀ fp pl,PE (blk X scope xs ys C s₀ H₀ fp pl) elt te)
 (rd:∀acc,H2 acc=none->Ew J g tc te (List.replicate xs.length none++pick σ js) acc H2 Q) {RR:Value->Addr->Result->Shared->Prop}
 (hRR:∀acc C H' s' m,s'.heap.Ns C m->Inv X pins σ H' s'->awg X pins H' C->Q (.ref acc) H'->RR (.ref acc) C (.ok .next) s') :
 wpAny (model X.prog X.w) X.A (newList []) (fun acc s₃=>wpAny (model X.prog X.w) X.A (newFunctionEnv scope X.env.globals (TX X.env ys) [] X.env.qual none .none (some X.env)) (fun cenv s₄ =>
  codeAny (model X.prog X.w) X.A (.compStart (.ListComp elt [⟨target,iter,ifs,0⟩] scope pos) 0 (.ref it) acc {cenv with scope:=relabel scope X.env}) (RR acc cenv.locals) s₄) X.xe s₃) X.xe s2:=by
 have asH:H2 s2.heap.objs.size=none:=I2.hok.fresh (Nat.le_refl _)
 obtain⟨W,⟨m0,w0⟩,turn⟩:=rd _ asH
 have hcell:∀y∈scope.names,y.2≠.cell:=fun y hy z=>by
  rcases S.names y hy with ⟨q,_⟩ | ⟨q,_⟩ | ⟨q,_⟩<;>rw[q]at z<;>cases z
 refine wpAny_newObj_type (wpAny_newFunctionEnv hcell (by intro y hy;simp at hy) (fun h₁ hns₁ hsb₁=>?_) S.kind)
 dsimp only at hns₁ hsb₁ ⊢
 have I3:Inv X pins σ (upd H2 s2.heap.objs.size (.lst [])) {s2 with heap:=s2.heap.push {cls:=.type "list",dict:=none,data:=.seq ([]:List Value).toArray},toks:=s2.toks}:=I2.ass (its:=[]) .nil (Nat.zero_le _)
 generalize hs3:({s2 with heap:=s2.heap.push {cls:=.type "list",dict:=none,data:=.seq ([]:List Value).toArray},toks:=s2.toks}:Shared)=s3 at I3
 have hh3:s2.heap.push {cls:=.type "list",dict:=none,data:=.seq ([]:List Value).toArray}=s3.heap:=by rw[<-hs3]
 rw[hh3]at hns₁ hsb₁ ⊢
 have ne2:∀b∈fp,b<s2.heap.objs.size:=fun b hb=>by
  obtain⟨o,e,_⟩:=T.obj 0 _ st2 b hb
  exact Heap.lt_size e
 have sz3:s3.heap.objs.size=s2.heap.objs.size+1:=by rw[<-hh3,Heap.size_push]
 have f3:∀b∈fp,Lq X pins (upd H2 s2.heap.objs.size (.lst [])) b:=fun b hb=>by
  obtain⟨a1,a2⟩:=f2 b hb
  exact⟨by rw[aq (Nat.ne_of_lt (ne2 b hb))];exact a1,a2⟩
 have k3:∀b o,s3.heap.get? b=some o->h₁.get? b=some o:=fun b o e=>hsb₁.extBut b o (Nat.ne_of_lt (Heap.lt_size e)) (Heap.get?_push_of_some _ e)
 have IB:=akW (tk:=s3.toks) S I3 f3 (fun b hb=>by rw[sz3];exact Nat.lt_succ_of_lt (ne2 b hb)) (by simpa using hns₁) k3
 have st3:tn 0 h₁:=T.keep 0 _ _ st2 fun b hb o e=>k3 b o (by rw[<-hh3];exact Heap.get?_push_of_some _ e)
 have stat:∀{H':Hp},(∀b∈fp,H' b=none)->∀b∈fp,Lq (blk X scope xs ys s3.heap.objs.size s3 (upd H2 s2.heap.objs.size (.lst [])) fp pins) [] H' b:=fun {H'} hn b hb=>by
  obtain⟨a1,a2,a3,a4,a5,a6⟩:=f3 b hb
  refine⟨hn b hb,fun z=>?_,fun z=>?_,.inl hb,fun x c e=>a5 x c (il e).2,fun p hp=>a6 p ?_⟩
  ·have z':b=s3.heap.objs.size:=z
   have:=ne2 b hb
   rw[z',sz3]at this
   exact absurd this (Nat.not_lt.mpr (Nat.le_succ _))
  ·have z':b∈L2.frs X.stack:=z
   rcases List.mem_cons.mp (I3.Wy _ z')with q | q
   ·exact a2 q
   ·exact a3 q
  ·have:p∈(X.pn++pins)++[]:=hp
   rwa[List.append_nil]at this
 have loop:∀s₄:Shared,s₄={s3 with heap:=h₁,toks:=s3.toks}->
  codeAny (model X.prog X.w) X.A (.compLoop (.ListComp elt [⟨target,iter,ifs,0⟩] scope pos) 0 (.ref it) (.ref s2.heap.objs.size) (compEnvC scope (TX X.env ys) s3.heap.objs.size X.env)) (RR (.ref s2.heap.objs.size) s3.heap.objs.size) s₄:=by
  rintro s₄ rfl
  refine af4 (fun n s'=>∃i zs σ' H',Inv (blk X scope xs ys s3.heap.objs.size s3 (upd H2 s2.heap.objs.size (.lst [])) fp pins) [] σ' H' s'/\tn i s'.heap/\(∀b∈fp,H' b=none)/\W i n zs σ' H') ?_ m0 ⟨0,[],_,_,IB,st3,fun b hb=>(f3 b hb).1,w0⟩
  rintro n s5 ⟨i,zs,σ5,H5,I5,st5,fr5,w5⟩
  obtain⟨hacc,tt⟩:=turn i n zs σ5 H5 w5
  rcases tt with ⟨stop,qn⟩ | ⟨go,step⟩
  ·refine gC (T.done (blk X scope xs ys s3.heap.objs.size s3 (upd H2 s2.heap.objs.size (.lst [])) fp pins) rfl rfl rfl hc i [] s5 σ5 H5 _ I5 (stat fr5) st5 stop) fun r s6 ⟨hr,I6⟩=>?_
   subst hr
   obtain⟨m,hm,_⟩:=I6.loc
   have I6':Inv X pins σ H5 s6:=I3.call' (ch:=fp) I6.os I6.base I6.hok I6.bare fun b hb=>⟨(f3 b hb).2.2.2.1,(f3 b hb).2.1,(f3 b hb).2.2.2.2.1,(f3 b hb).2.2.2.2.2⟩
   refine hRR _ _ H5 s6 m hm I6' ⟨I6.free,Nat.ne_of_gt I3.lt,I3.sz,fun x c e z=>?_,fun p hp z=>?_⟩ qn
   ·obtain⟨v,q⟩:=I3.cell x c e
    have:=q.lt
    rw[z]at this
    exact Nat.lt_irrefl _ this
   ·have:=Heap.lt_size (I3.pin p hp).1
    rw[z]at this
    exact Nat.lt_irrefl _ this
  ·refine gC (T.item (blk X scope xs ys s3.heap.objs.size s3 (upd H2 s2.heap.objs.size (.lst [])) fp pins) rfl rfl rfl hc i [] s5 σ5 H5 _ I5 (stat fr5) st5 go) fun r s6 ⟨u,hr,h6⟩=>?_
   subst hr
   refine gC h6 fun _ s7 hz=>kW hz fun x H7 I7 r7 ⟨y7,st7,fr7⟩=>?_
   have I7':=I7.pinned (stat fr7) (T.obj _ _ st7)
   refine gC (hg _ _ _ _ _ _ s7 σ5 H7 x u _ I7' r7 (step x H7 y7)) fun _ s8 hz=>ex4 hz fun σ8 H8 I8 q8=>?_
   have again:∀{zs':List V} {σ9:St} {H9:Hp} {s9:Shared},Inv (blk X scope xs ys s3.heap.objs.size s3 (upd H2 s2.heap.objs.size (.lst [])) fp pins) ([]++WK fp s7.heap) σ9 H9 s9->(∃m',m'<n/\W (i+1) m' zs' σ9 H9)->
    ∃m,m<n/\∃i zs σ' H',Inv (blk X scope xs ys s3.heap.objs.size s3 (upd H2 s2.heap.objs.size (.lst [])) fp pins) [] σ' H' s9/\tn i s9.heap/\(∀b∈fp,H' b=none)/\W i m zs σ' H':=fun {zs' σ9 H9 s9} I9 ⟨m',hm,w9⟩=>by
    refine⟨m',hm,i+1,zs',σ9,H9,I9.Lr,T.keep _ _ _ st7 fun b hb o e=>(I9.pin (b,o) (List.mem_append_right _ (List.mem_append_right _ (zK hb e)))).1,fun b hb=>?_,w9⟩
    obtain⟨o,e,d⟩:=T.obj _ _ st7 b hb
    exact(I9.pin (b,o) (List.mem_append_right _ (List.mem_append_right _ (zK hb e)))).2.1
   refine gC (hi _ _ _ _ _ _ s8 σ8 H8 _ I8 q8) fun ok s9 hz=>ex3 hz fun H9 I9 q9=>?_
   cases ok with
   | false =>
     rw[if_neg Bool.false_ne_true]at q9 ⊢
     exact again I9 q9
   | true =>
     rw[if_pos rfl]at q9 ⊢
     refine gC (he _ _ _ _ _ _ s9 σ8 H9 _ I9 q9) fun z s10 hz=>kW hz fun zv H10 I10 rz ⟨azA,azB,q10⟩=>?_
     refine gC (cG _ s10 σ8 H10 (.ref s2.heap.objs.size) [zv] (.ref s2.heap.objs.size) [z] (fun _ H11=>H11=upd H10 s2.heap.objs.size (.lst (zs++[zv]))) I10 rfl (.cons rz .nil) ⟨_,zs,zv,rfl,rfl,azA,azB,rfl⟩) fun _ s11 hz=>kW hz fun _ H11 I11 _ e11=>?_
     subst e11
     exact again I11 q10
 have e4:({s2 with heap:=h₁,toks:=s2.toks+([]:List (Str×Value)).length}:Shared)={s3 with heap:=h₁,toks:=s3.toks}:=by
  rw[<-hs3]
  rfl
 exact codeAny_compStart_list (loop _ e4) (T.self X.A 0 _ _ _ st3 (loop _ e4))
theorem mY(S:HN X scope xs ys js)(hc:X.calm=true)(hw:PI X target iter wi)(hg:∀C s₀ H₀ fp pl,PG (blk X scope xs ys C s₀ H₀ fp pl) target g)(hi:∀C s₀ H₀ fp pl,aoX (blk X scope xs ys C s₀ H₀ fp pl) ifs tc)(he:∀C s₀ H₀ fp pl,PE (blk X scope xs ys C s₀ H₀ fp pl) elt te)
 (hs:∀x,foldedSetIterable iter X.env x=pure x:=by intro _;rfl):PE X (.ListComp elt [⟨target,iter,ifs,0⟩] scope pos) (awh wi xs.length js g tc te):=by
 intro pins s σ H Q I h
 rw[eval_ListComp]
 refine wpAny_comprehension_free (use:=none) rfl hs S.clos S.kind (fun x hx hl=>?_) (gC (hw pins s σ H _ I h) fun v s1 h1=>gC h1 fun itv s2 h2=>?_)
 ·rcases S.names x hx with ⟨_,q⟩ | ⟨q,_⟩ | ⟨q,_⟩
  ·exact q
  ·rw[q]at hl;cases hl
  ·rw[q]at hl;cases hl
 obtain⟨it,fp,tn,J,H2,e,I2,T,st2,f2,rd⟩:=h2
 subst e
 refine amw (RR:=fun acc C=>compPost (model X.prog X.w) X.A X.xe none (EP X pins σ Q) acc C) S hc I2 T st2 f2 hg hi he rd fun acc C H' s' m hm I' jk q=>?_
 exact⟨m,hm,fun h' hsb=>⟨.ref acc,H',I'.let_go jk hsb,rfl,q⟩⟩
end
theorem iY{X:Cx}{scope:Scope}{xs ys:List Str}{js:List Nat}(kind:scope.kind=.function)
 (names:∀p∈scope.names,(p.2=.local/\scope.names.lookup p.1=some .local)\/(p.2=.free/\p.1∈ys/\scope.names.lookup p.1=some .free)\/(p.2=.globalImplicit/\scope.names.lookup p.1=some .globalImplicit)) (own:∀x∈xs,scope.names.lookup x=some .local) (frees:∀y∈ys,scope.names.lookup y=some .free)
 (clos:closureFor scope X.env=pure (TX X.env ys)) (fr:zP X ys js):HN X scope xs ys js:=⟨kind,names,own,frees,clos,fr⟩
end L2
namespace L2
open PySem PySem.Spec PyProof.Rows
def Ey(n:Nat)(acc:Addr)(Pv:Nat->List V->St->Hp->Prop)(i:Nat)(zs:List V)(σ4:St):VK:=fun z H6 =>
 H6 acc=some (.lst zs)/\zs.length<sizeLine/\∃m',m'<n - i/\(m'=n - (i+1)/\i+1<=n/\Pv (i+1) (zs++[z]) σ4 (upd H6 acc (.lst (zs++[z]))))
def W7(n:Nat)(Pv:Nat->List V->St->Hp->Prop)(i:Nat)(zs:List V)(σ4:St)(H5:Hp):Prop:=∃m',m'<n - i/\(m'=n - (i+1)/\i+1<=n/\Pv (i+1) zs σ4 H5)
theorem Ey.mk{n i:Nat}{acc:Addr}{Pv:Nat->List V->St->Hp->Prop}{zs:List V}{σ4:St}{z:V}{H6:Hp}(hi:i<n)(h1:H6 acc=some (.lst zs))(h2:zs.length<sizeLine)(p:Pv (i+1) (zs++[z]) σ4 (upd H6 acc (.lst (zs++[z])))):Ey n acc Pv i zs σ4 z H6 :=
 ⟨h1,h2,_,by lia,rfl,hi,p⟩
theorem W7.mk{n i:Nat}{Pv:Nat->List V->St->Hp->Prop}{zs:List V}{σ4:St}{H5:Hp}(hi:i<n)(p:Pv (i+1) zs σ4 H5):W7 n Pv i zs σ4 H5:=⟨_,by lia,rfl,hi,p⟩
theorem ab7{K:PySem.W.Frag}{a acc:Addr}{xs:List V}{g:TG}{tc:TT}{te:TE}{σ:St}{H1:Hp}{Q:VK}(Pv:Nat->List V->St->Hp->Prop)(h0:Pv 0 [] σ (upd H1 acc (.lst [])))
 (hl:∀i zs σ H,i<=xs.length->Pv i zs σ H->cz K H a xs/\H acc=some (.lst zs))
 (hs:∀i x zs σ H,xs[i]? = some x->i<xs.length->Pv i zs σ H->g x σ H fun σ4 H4=>tc σ4 H4 fun b H5=>if b=true then te σ4 H5 (Ey xs.length acc Pv i zs σ4)else W7 xs.length Pv i zs σ4 H5)
 (hd:∀zs σ H,Pv xs.length zs σ H->Q (.ref acc) H):Ew (Itl K a) g tc te σ acc H1 Q:=by
 refine⟨fun i m zs σ H=>m=xs.length - i/\i<=xs.length/\Pv i zs σ H,⟨_,rfl,Nat.zero_le _,h0⟩,?_⟩
 rintro i m zs σ H2 ⟨rfl,hi,p⟩
 obtain⟨q,ha⟩:=hl i zs σ H2 hi p
 refine⟨ha,?_⟩
 by_cases hlt:i<xs.length
 ·refine .inr ⟨⟨xs,xs[i],q,by simp[hlt]⟩,fun y H3 yl=>?_⟩
  obtain⟨e,yl⟩:=yl
  subst e
  exact hs i y zs σ _ (yl xs q) hlt p
 ·have e:i=xs.length:=by lia
  subst e
  exact .inl ⟨⟨xs,q,Nat.le_refl _⟩,hd zs σ H2 p⟩
theorem JL{lo:Int}{n:Nat}{acc:Addr}{g:TG}{tc:TT}{te:TE}{σ:St}{H1:Hp}{Q:VK}(Pv:Nat->List V->St->Hp->Prop)(h0:Pv 0 [] σ (upd H1 acc (.lst [])))
 (hl:∀i zs σ H,i<=n->Pv i zs σ H->H acc=some (.lst zs))
 (hs:∀i zs σ H,i<n->Pv i zs σ H->g (.int (lo+i)) σ H fun σ4 H4=>tc σ4 H4 fun b H5=>if b=true then te σ4 H5 (Ey n acc Pv i zs σ4)else W7 n Pv i zs σ4 H5)
 (hd:∀zs σ H,Pv n zs σ H->Q (.ref acc) H):Ew (Itr lo n) g tc te σ acc H1 Q:=by
 refine⟨fun i m zs σ H=>m=n - i/\i<=n/\Pv i zs σ H,⟨_,rfl,Nat.zero_le _,h0⟩,?_⟩
 rintro i m zs σ H2 ⟨rfl,hi,p⟩
 have ha:=hl i zs σ H2 hi p
 refine⟨ha,?_⟩
 by_cases hlt:i<n
 ·refine .inr ⟨hlt,fun y H3 yl=>?_⟩
  obtain⟨e,yl⟩:=yl
  subst e yl
  exact hs i zs σ _ hlt p
 ·have e:i=n:=by lia
  subst e
  exact .inl ⟨Nat.le_refl _,hd zs σ H2 p⟩
theorem ajI{σ:St}{H:Hp}{A B:Hp->Prop}(h:A H):akV σ H (fun b H5=>if b=true then A H5 else B H5):=by
 show if true=true then A H else B H
 rw[if_pos rfl]
 exact h
theorem acV{i:Nat}{v:V}{σ:St}{H:Hp}{A B:St->Hp->Prop}(h:A (σ.set i (some v)) H):abW i v σ H fun σ4 H4=>akV σ4 H4 fun b H5=>if b=true then A σ4 H5 else B σ4 H5:=ajI (σ:=σ.set i (some v)) (A:=A (σ.set i (some v))) (B:=B (σ.set i (some v))) h
end L2
namespace L2
open PySem PySem.Spec PyProof.Rows
section
variable{X:Cx}{x y:Str}{pos:Pos}{a:Addr}{T:String}
theorem ir(hg:Gl X x)(h:∃t,X.mg x=some (.str y t))(hd:(x == ("__debug__":Str))=false:=by decide):PE X (.Name x pos) (tC (.str y)):=by
 obtain⟨t,h⟩:=h
 exact aoH hg h ⟨t,rfl⟩ hd
theorem pI(hg:Gl X x)(hm:X.mg x=none)(hv:bootBuiltins x=some (.type T))(hn:x≠"__name__":=by decide) (hd:(x == ("__debug__":Str))=false:=by decide):PE X (.Name x pos) (tC (.ty T)):=aoI hg hm hv rfl hn hd
end
theorem TY(l:Addr)(items:Array Value)(n:Nat)(b:Addr)(items2:Array Value)(n2:Nat)(dd:Option Addr)(sl:Array (Option Value))(hs0:¬(!items.isEmpty && Builtin.List.listTooLong (items.size+items2.size))=true)(hs1:items.size<=sizeLine)(hs2:items.size+items2.size<=sizeLine+1) :
 Meets (Builtin.«list.extend» ⟨[.ref l,.ref b],[]⟩) (fun _ R s=>s.heap.get? l=some {cls:=.type "list",dict:=none,data:=.seq items n,slots := #[]}/\s.heap.get? b=some {cls:=.type "tuple",dict:=dd,data:=.seq items2 n2,slots:=sl}/\R (.ok (.ret Value.none)) {s with heap:=s.heap.update l (Obj.mapSeq fun x=>x++items2),toks:=s.toks}) :=
 .of_wp fun prog w A R s h=>by
  obtain⟨hp,g,d,tk,os⟩:=s;obtain⟨hl,hb,h⟩:=h;have f1:=PySem.AutoSeq1.idx_int;have f2:=PySem.AutoSeq1.sub_tuple_tuple;have f3:=PySem.AutoSeq1.sub_list_list;have f4:=PySem.AutoSeq1.sub_tuple_list;have f5:=PySem.AutoSeq1.sub_list_tuple;
  have hz':(items++items2).size<=sizeLine+1:=by rw[Array.size_append];exact hs2
  wp_walk using (wpAny_updateSeq hl rfl (hz:=hs1) (_hz':=hz')),PySem.AutoSeq1.wpAny_loadPart' hl,PySem.AutoSeq1.wpAny_loadPart' hb;exact⟨_,rfl,h⟩
theorem T6(l:Addr)(items:Array Value)(n:Nat)(b:Addr)(items2:Array Value)(n2:Nat)(dd:Option Addr)(sl:Array (Option Value))(hs0:¬(!items.isEmpty && Builtin.List.listTooLong (items.size+items2.size))=true)(hs1:items.size<=sizeLine)(hs2:items.size+items2.size<=sizeLine+1) :
 Meets (Builtin.«list.extend» ⟨[.ref l,.ref b],[]⟩) (fun _ R s=>s.heap.get? l=some {cls:=.type "list",dict:=none,data:=.seq items n,slots := #[]}/\s.heap.get? b=some {cls:=.type "list",dict:=dd,data:=.seq items2 n2,slots:=sl}/\R (.ok (.ret Value.none)) {s with heap:=s.heap.update l (Obj.mapSeq fun x=>x++items2),toks:=s.toks}) :=
 .of_wp fun prog w A R s h=>by
  obtain⟨hp,g,d,tk,os⟩:=s;obtain⟨hl,hb,h⟩:=h;have f1:=PySem.AutoSeq1.idx_int;have f2:=PySem.AutoSeq1.sub_tuple_tuple;have f3:=PySem.AutoSeq1.sub_list_list;have f4:=PySem.AutoSeq1.sub_tuple_list;have f5:=PySem.AutoSeq1.sub_list_tuple;
  have hz':(items++items2).size<=sizeLine+1:=by rw[Array.size_append];exact hs2
  wp_walk using (wpAny_updateSeq hl rfl (hz:=hs1) (_hz':=hz')),PySem.AutoSeq1.wpAny_loadPart' hl,PySem.AutoSeq1.wpAny_loadPart' hb;exact⟨_,rfl,h⟩
def amx(K:PySem.W.Frag):V->List V->Hp->VK->Prop:=fun x vs H Q=>∃l b xs zs,x=.ref l/\vs=[.ref b]/\H l=some (.lst xs)/\(cz K H b zs\/cW K H b zs)/\xs.length+zs.length<=sizeLine/\Q .non (upd H l (.lst (xs++zs)))
section
variable{X:Cx}
theorem lM:MtM X "list.extend" (amx X.K):=by
 intro pins s σ H x vs v us Q I rx rv h
 obtain⟨l,b,xs,zs,rfl,rfl,hH,hB,hz,q⟩:=h
 cases rx
 obtain⟨u,rfl,ru⟩:=rv.one
 cases ru
 obtain⟨z,its,n,r,hl,e⟩:=I.aio hH
 have nl:∀{m k:Nat},m+k<=sizeLine->¬(!its.toArray.isEmpty && Builtin.List.listTooLong (m+k))=true:=fun hsz=>by
  rw[afU hsz,Bool.and_false]
  exact Bool.false_ne_true
 rcases hB with hB | hB
 ·obtain⟨its2,r2,⟨ob,n2,hob,hc,_,hd⟩,z2⟩:=I.list hB
  have l2:=r2.length
  obtain⟨oc,odd,odt,osl⟩:=ob
  dsimp only at hc hd
  subst hc hd
  refine call_meets F.slot_list_extend ⟨_,e,rfl⟩ F.entry_list_extend (F.args_list_extend_2 _ _)
   (T6 l its.toArray n b its2.toArray n2 odd osl (nl (by rw[List.size_toArray,List.size_toArray];lia)) (by rw[List.size_toArray];lia) (by rw[List.size_toArray,List.size_toArray];lia)) ⟨e,hob,?_⟩
  refine⟨.non,_,I.amj (its':=its++its2) hH e (by simp) (r.append r2) ?_,rfl,q⟩
  rw[List.length_append]
  lia
 ·obtain⟨its2,r2,⟨ob,hob,hc,n2,hd⟩,z2⟩:=I.tuple hB
  have l2:=r2.length
  obtain⟨oc,odd,odt,osl⟩:=ob
  dsimp only at hc hd
  subst hc hd
  refine call_meets F.slot_list_extend ⟨_,e,rfl⟩ F.entry_list_extend (F.args_list_extend_2 _ _)
   (TY l its.toArray n b its2.toArray n2 odd osl (nl (by rw[List.size_toArray,List.size_toArray];lia)) (by rw[List.size_toArray];lia) (by rw[List.size_toArray,List.size_toArray];lia)) ⟨e,hob,?_⟩
  refine⟨.non,_,I.amj (its':=its++its2) hH e (by simp) (r.append r2) ?_,rfl,q⟩
  rw[List.length_append]
  lia
def amy(K:PySem.W.Frag)(neg:Bool):R2:=fun x y H Q=>∃a b xs,x=.ref a/\y=.ref b/\cz K H a xs/\cz K H b []/\Q (.bl (if neg then !xs.isEmpty else xs.isEmpty)) H
theorem amz(hu:X.A.units<cLine):Ws X (compareOp .Eq) (amy X.K false):=by
 intro pins s σ H x y v u Q I rx ry h
 obtain⟨a,b,xs,rfl,rfl,ha,hb,q⟩:=h
 cases rx
 cases ry
 obtain⟨its,r,pl,z⟩:=I.list ha
 obtain⟨its2,r2,pl2,z2⟩:=I.list hb
 have l1:=r.length
 have l2:=r2.length
 have e2:its2=[]:=List.length_eq_zero_iff.mp (by rw[<-l2];rfl)
 subst e2
 cases xs with
 | nil =>
   have e1:its=[]:=List.length_eq_zero_iff.mp (by rw[<-l1];rfl)
   subst e1
   exact PySem.SeqAt.eq_listAt (e:=fun _=>true) pl.isList pl2.isList rfl hu (fun j h1 _=>absurd h1 (by simp)) ⟨.bl true,H,I,rfl,q⟩
 | cons y ys =>
   refine PySem.SeqAt.eq_list_lengthsAt pl.isList pl2.isList ?_ hu ⟨.bl false,H,I,rfl,q⟩
   rw[List.size_toArray,<-l1]
   rfl
theorem af5(hu:X.A.units<cLine):Ws X (compareOp .NotEq) (amy X.K true):=by
 intro pins s σ H x y v u Q I rx ry h
 obtain⟨a,b,xs,rfl,rfl,ha,hb,q⟩:=h
 cases rx
 cases ry
 obtain⟨its,r,pl,z⟩:=I.list ha
 obtain⟨its2,r2,pl2,z2⟩:=I.list hb
 have l1:=r.length
 have l2:=r2.length
 have e2:its2=[]:=List.length_eq_zero_iff.mp (by rw[<-l2];rfl)
 subst e2
 cases xs with
 | nil =>
   have e1:its=[]:=List.length_eq_zero_iff.mp (by rw[<-l1];rfl)
   subst e1
   exact PySem.SeqAt.RcNeAt.lists (e:=fun _=>true) pl.isList pl2.isList rfl hu (fun j h1 _=>absurd h1 (by simp)) X.prog X.w X.xe _ ⟨.bl false,H,I,rfl,q⟩
 | cons y ys =>
   refine PySem.SeqAt.RcNeAt.lists_lengths pl.isList pl2.isList ?_ hu X.prog X.w X.xe _ ⟨.bl true,H,I,rfl,q⟩
   rw[List.size_toArray,<-l1]
   rfl
structure KDict(K:PySem.W.Frag)(w:World)(a:Addr)(tab:List (Str×V)):Prop where
 ex:∃es n,K.lookup a=some ⟨.type "dict",none,.dict es n,#[]⟩/\PySem.W.KeysLit w.params es.toList
 at_:∀x v,tab.lookup x=some v->∃u,PySem.W.nsIn K a x=some (some u)/\RelV v u
def awk(tab:List (Str×V))(ty:TE):TE:=fun σ H Q=>ty σ H fun y H1=>∃k v,y=.str k/\tab.lookup k=some v/\Q v H1
theorem ajJ{x:Str}{a:Addr}{tab:List (Str×V)}{i:Expr}{ty:TE}{p pos:Pos}(hg:Gl X x)(hm:X.mg x=some (.ref a))(D:KDict X.K X.w a tab)(hi:PE X i ty)(hs:asx i)(hd:(x == ("__debug__":Str))=false:=by decide) :
 PE X (.Subscript (.Name x p) i pos) (awk tab ty):=by
 intro pins s σ H Q I h
 obtain⟨es,n,hl,hk⟩:=D.ex
 refine ajC slot_dict_getitem.lookup hs (zH I hg hm (gC (hi pins s σ H _ I h) fun u s1 h1=>?_) hd)
 obtain⟨y,H1,I1,ry,k,v,rfl,hv,q⟩:=h1
 obtain⟨t,rfl⟩:=ry
 obtain⟨u',e,ru⟩:=D.at_ k v hv
 have hmap:=PySem.W.mapOf_K (prog:=X.prog) (w:=X.w) I1.yg hl hk
 exact⟨hmap.typeIs,wpAny_getItem_of (strKind_is X.prog X.w k t) hmap (PySem.W.find_K hl e) ⟨v,H1,I1.tok _,ru,q⟩⟩
end
def ais:V->Option Value
 | .ty n=>some (.type n)
 | .ref a=>some (.ref a)
 | _=>none
def azC(K:PySem.W.Frag):List V->Hp->VK->Prop:=fun xs H Q=>∃x c t b,xs=[x,c]/\Lx K H x t/\((∃cv,ais c=some cv/\PySem.W.kitOne K t cv=some b)\/(∃a cs cvs,c=.ref a/\H a=some (.tup cs)/\cs.map ais=cvs.map some/\PySem.W.kitAny K t cvs=some b))/\Q (.bl b) H
theorem af6:∀{cs:List V} {us:List Value} {cvs:List Value},Vals cs us->cs.map ais=cvs.map some->us=cvs
 | [],_,[],.nil,_=>rfl
 | [],_,_::_,.nil,h=>by simp at h
 | c::cs,_,[],.cons _ _,h=>by simp at h
 | c::cs,_,cv::cvs,.cons r t,h=>by
   simp only[List.map_cons,List.cons.injEq]at h
   rw[af6 t h.2]
   cases c with
   | ty n=>cases (show _=Value.type n from r);simp only[ais,Option.some.injEq]at h;rw[h.1]
   | ref a=>cases (show _=Value.ref a from r);simp only[ais,Option.some.injEq]at h;rw[h.1]
   | _=>simp[ais]at h
section
variable{X:Cx}
theorem ait{pins:List (Addr×Obj)}{σ:St}{H:Hp}{s:Shared}{A:Around}{E:Value->Shared->Prop}{Q:Value->Shared->Prop}{b:Bool}{x:V}{u t:Value}{a:Addr}{cs:List V}{cvs:List Value}(I:Inv X pins σ H s)(rx:RelV x u)(ty:Lx X.K H x t)
 (ha:H a=some (.tup cs)) (hcs:cs.map ais=cvs.map some) (e:PySem.W.kitAny X.K t cvs=some b) (h:∀tk,Q (.bool b) {s with toks:=tk}):wpAny (model X.prog X.w) A (call (.builtin "isinstance") [u,.ref a]) Q E s:=by
 obtain⟨_,its,rv,p⟩:=(show fO X.prog X.w H s.heap a (.tup cs)from I.hok a _ ha)
 obtain⟨⟨oc,odd,odt,osl⟩,h1,h2,n,h3⟩:=p
 dsimp only at h2 h3
 subst h2 h3
 have ei:its=cvs:=af6 rv hcs
 subst ei
 cases ty with
 | non=>cases (show u=Value.none from rx);exact PySem.W.kia_tup PySem.W.kitx_none I.yg True.intro h1 e (fun z=>nomatch z) h
 | bl y=>cases (show u=Value.bool y from rx);exact PySem.W.kia_tup PySem.W.kitx_bool I.yg True.intro h1 e (fun z=>nomatch z) h
 | int i=>obtain⟨t,q⟩:=(show ∃t,u=Value.int i t from rx);cases q;exact PySem.W.kia_tup PySem.W.kitx_int I.yg True.intro h1 e (fun z=>nomatch z) h
 | str y=>obtain⟨t,q⟩:=(show ∃t,u=Value.str y t from rx);cases q;exact PySem.W.kia_tup PySem.W.kitx_str I.yg True.intro h1 e (fun z=>nomatch z) h
 | flt y=>obtain⟨t,q⟩:=(show ∃t,u=Value.float y t from rx);cases q;exact PySem.W.kia_tup PySem.W.kitx_float I.yg True.intro h1 e (fun z=>nomatch z) h
 | @lst a xs ea =>
   cases (show u=Value.ref a from rx)
   obtain⟨_,_,n,_,h1'⟩:=(show fO X.prog X.w H s.heap a (.lst xs)from I.hok a _ ea)
   exact PySem.W.kia_tup PySem.W.kitx_list I.yg ⟨_,h1',rfl⟩ h1 e (fun z=>nomatch z) h
 | @frz a ob xs ea =>
   cases (show u=Value.ref a from rx)
   obtain⟨_,_,_,n,_,h1'⟩:=(show fO X.prog X.w H s.heap a (.frz ob (.lst xs))from I.hok a _ ea)
   exact PySem.W.kia_tup PySem.W.kitx_list I.yg ⟨_,h1',rfl⟩ h1 e (fun z=>nomatch z) h
 | @tup a xs ea =>
   cases (show u=Value.ref a from rx)
   obtain⟨_,_,_,p⟩:=(show fO X.prog X.w H s.heap a (.tup xs)from I.hok a _ ea)
   obtain⟨o,h1',h2,_⟩:=p
   exact PySem.W.kia_tup PySem.W.kitx_tuple I.yg ⟨o,h1',h2⟩ h1 e (fun z=>nomatch z) h
 | @dK a kvs ea =>
   cases (show u=Value.ref a from rx)
   obtain⟨_,_,vs,_,p⟩:=(show fO X.prog X.w H s.heap a (.dK kvs)from I.hok a _ ea)
   obtain⟨o,es,ep,h1',h2,_⟩:=p
   exact PySem.W.kia_tup PySem.W.kitx_dict I.yg ⟨o,h1',h2.1⟩ h1 e (fun z=>nomatch z) h
 | @dT a kvs ea =>
   cases (show u=Value.ref a from rx)
   obtain⟨_,_,xs,_,o,es,ep,h1',h2,_⟩:=(show fO X.prog X.w H s.heap a (.dT kvs)from I.hok a _ ea)
   exact PySem.W.kia_tup PySem.W.kitx_dict I.yg ⟨o,h1',h2.1⟩ h1 e (fun z=>nomatch z) h
 | @ins a C dx fs ea cl ha hn htk hm =>
   cases (show u=Value.ref a from rx)
   obtain⟨mA,O,_⟩:=Lw I.hok ea
   obtain⟨od,J,_⟩:=O.look
   exact PySem.W.kia_tup (PySem.W.kitx_own (cl.get _) cl.hd ha hn htk hm) I.yg J h1 e (fun z=>nomatch z) h
theorem jt:RW X (.builtin "isinstance") (azC X.K):=by
 intro pins s σ H xs us Q I r h
 obtain⟨x,c,t,b,rfl,ty,hc,q⟩:=h
 obtain⟨u,v,rfl,ru,rv⟩:=r.two
 have fin:∀tk,EP X pins σ Q (.bool b) {s with toks:=tk}:=fun tk=>⟨.bl b,H,I.tok _,rfl,q⟩
 rcases hc with ⟨cv,e1,e2⟩ | ⟨a,cs,cvs,rfl,e1,e2,e3⟩
 ·have ev:v=cv:=by
   cases c with
   | ty n=>cases (show v=Value.type n from rv);exact Option.some.inj e1
   | ref a=>cases (show v=Value.ref a from rv);exact Option.some.inj e1
   | _=>cases e1
  subst ev
  exact akL I ru ty e2 fin
 ·cases (show v=Value.ref a from rv)
  exact ait I ru ty e1 e2 e3 fin
end
end L2
namespace L2
open PySem PySem.Spec PyProof.Rows
section
variable{X:Cx}
theorem asJ{K:PySem.W.Frag}{w:World}{a:Addr}{es:Array DictEntry}{n:Nat}{x0 x1 x2:Str}{i0 i1 i2:Int}{t0 t1 t2:Tok}(hl:K.lookup a=some ⟨.type "dict",none,.dict es n,#[]⟩) (hk:PySem.W.KeysLit w.params es.toList)
 (h0:PySem.W.nsIn K a x0=some (some (.int i0 t0))) (h1:PySem.W.nsIn K a x1=some (some (.int i1 t1))) (h2:PySem.W.nsIn K a x2=some (some (.int i2 t2))):KDict K w a [(x0,.int i0),(x1,.int i1),(x2,.int i2)]:=by
 refine⟨⟨es,n,hl,hk⟩,fun x v e=>?_⟩
 rw[List.lookup_cons]at e
 split at e
 ·rename_i q
  cases e
  rw[beq_iff_eq]at q
  subst q
  exact⟨_,h0,t0,rfl⟩
 ·rw[List.lookup_cons]at e
  split at e
  ·rename_i q
   cases e
   rw[beq_iff_eq]at q
   subst q
   exact⟨_,h1,t1,rfl⟩
  ·rw[List.lookup_cons]at e
   split at e
   ·rename_i q
    cases e
    rw[beq_iff_eq]at q
    subst q
    exact⟨_,h2,t2,rfl⟩
   ·cases e
end
end L2
namespace L2
open PySem PySem.Spec PyProof.Rows
theorem asK{K:PySem.W.Frag}:PySem.W.kitOne K (.type "int") (.type "int")=some true:=by rfl
theorem asL{K:PySem.W.Frag}:PySem.W.kitOne K (.type "int") (.type "bool")=some false:=by kernel_rfl
theorem aiu{K:PySem.W.Frag}:PySem.W.kitOne K (.type "str") (.type "str")=some true:=by rfl
theorem kit_is{K:PySem.W.Frag}:PySem.W.kitOne K (.type "int") (.type "str")=some false:=by kernel_rfl
theorem aiv{K:PySem.W.Frag}:PySem.W.kitOne K (.type "list") (.type "list")=some true:=by rfl
theorem amB{K:PySem.W.Frag}:PySem.W.kitOne K (.type "tuple") (.type "list")=some false:=by kernel_rfl
theorem amC{K:PySem.W.Frag}:PySem.W.kitOne K (.type "list") (.type "tuple")=some false:=by kernel_rfl
theorem aiw{K:PySem.W.Frag}:PySem.W.kitOne K (.type "tuple") (.type "tuple")=some true:=by rfl
theorem asM{K:PySem.W.Frag}:PySem.W.kitAny K (.type "list") [.type "list",.type "tuple"]=some true:=by kernel_rfl
theorem kit_at{K:PySem.W.Frag}:PySem.W.kitAny K (.type "tuple") [.type "list",.type "tuple"]=some true:=by kernel_rfl
theorem asN{K:PySem.W.Frag}:PySem.W.kitAny K (.type "int") [.type "list",.type "tuple"]=some false:=by kernel_rfl
theorem asO{K:PySem.W.Frag}:PySem.W.kitAny K (.type "str") [.type "list",.type "tuple"]=some false:=by kernel_rfl
theorem asQ{K:PySem.W.Frag}:PySem.W.kitAny K (.type "NoneType") [.type "list",.type "tuple"]=some false:=by kernel_rfl
end L2
namespace L2
open PySem PySem.Spec PyProof.Rows
section
variable{prog:Program}{w:World}{A:Around}{E:Value->Shared->Prop}{h:Heap}{g:Array GenState}{d:Drawn}{t:Nat}{os:OsState}{a:Addr}{o:Obj}
 {nm q:Str} {C N:Addr} {bs bm bmB:List Value} {hdct:Bool} {sn:List Str} {sub:List Value} {ab:Bool} {col:Option Bool} {dd:Option Addr} {k0 k1 k2 k3 k5:Option Value} {B newId:String} {mN:Str->Option Value}
end
structure Mf(K:PySem.W.Frag)(C:Addr):Prop where
 cl:PySem.W.findIn K (.ref C) "__class__"=some (some (.builtin "object.__class__"))
 ga:PySem.W.findIn K (.ref C) "__getattribute__"=some (some (.builtin "BaseException.__getattribute__"))
 gt:PySem.W.findIn K (.ref C) "__getattr__"=some none
end L2
namespace L2
open PySem PySem.Spec PyProof.Rows
section
variable{X:Cx}{pins:List (Addr×Obj)}{σ:List (Option V)}{H:Hp}{s:Shared}{h':Heap}
theorem Inv.akX{t':Nat}{e it p:Addr}{vs:List V}(I:Inv X pins σ H s)(k:∀b o,b≠e->b≠it->s.heap.get? b=some o->h'.get? b=some o)(fe:Lq X pins H e)(fi:Lq X pins H it)(hp:s.heap.objs.size<=p)
 (new:fO X.prog X.w (upd H p (.tup vs)) h' p (.tup vs)):Inv X pins σ (upd H p (.tup vs)) {s with heap:=h',toks:=t'}:=by
 have ne:∀b u,H b=some u->b≠e:=fun b u q z=>by rw[z,fe.1]at q;cases q
 have ni:∀b u,H b=some u->b≠it:=fun b u q z=>by rw[z,fi.1]at q;cases q
 have hn:H p=none:=I.hok.fresh hp
 have kc:∀b o,b∉[e,it]->s.heap.get? b=some o->h'.get? b=some o:=fun b o hc q=>k b o (fun z=>hc (by simp[z])) (fun z=>hc (by simp[z])) q
 have old:∀b u,H b=some u->upd H p (.tup vs) b=some u:=fun b u q=>by rw[aq (aG q hn)];exact q
 refine I.step (g':=s.gens) (d':=s.drawn) (ch:=[e,it]) (fun b hb=>?_) (fun b o _ _ hc q _=>kc b o hc q) (fun b o _ _ hc q _=>⟨o.slots,kc b o hc q⟩) (fun b o _ q n=>?_)
  (fun b o hc q=>⟨o,kc b o hc q⟩) (fun b xs q=>old b _ q) (fun b o u q=>old b _ q) (fun b ps q=>⟨#[],by rw[old b _ q];simp⟩) (fun m hm=>?_) (fun b u q=>?_) I.bare
 ·rcases List.mem_cons.mp hb with z | z
  ·subst z;exact⟨fe.2.2.2.1,fe.2.1,fe.2.2.2.2.1,fe.2.2.2.2.2⟩
  ·have z':b=it:=by simpa using z
   subst z';exact⟨fi.2.2.2.1,fi.2.1,fi.2.2.2.2.1,fi.2.2.2.2.2⟩
 ·rw[aq (Nat.ne_of_lt (Nat.lt_of_lt_of_le (Heap.lt_size q) hp))];exact n
 ·obtain⟨o,es,ep,ho,r⟩:=hm
  exact⟨o,es,ep,k _ o (Ne.symm fe.2.1) (Ne.symm fi.2.1) ho,r⟩
 ·by_cases hb:b=p
  ·subst hb;rw[aj]at q;cases q;exact new
  ·rw[aq hb]at q
   refine(I.hok b u q).stay (fun c v hc r=>?_) (fun c r=>old c _ r) fun c xs r=>old c _ r
   rcases hc with z | z
   ·rw[z]at r ⊢;exact k b v (ne b u q) (ni b u q) r
   ·exact k c v (ne c _ z) (ni c _ z) r
theorem Inv.aoY{t':Nat}{e it:Addr}(I:Inv X pins σ H s)(k:∀b o,b≠e->b≠it->s.heap.get? b=some o->h'.get? b=some o)(fe:Lq X pins H e)(fi:Lq X pins H it):Inv X pins σ H {s with heap:=h',toks:=t'}:=by
 have ne:∀b u,H b=some u->b≠e:=fun b u q z=>by rw[z,fe.1]at q;cases q
 have ni:∀b u,H b=some u->b≠it:=fun b u q z=>by rw[z,fi.1]at q;cases q
 have kc:∀b o,b∉[e,it]->s.heap.get? b=some o->h'.get? b=some o:=fun b o hc q=>k b o (fun z=>hc (by simp[z])) (fun z=>hc (by simp[z])) q
 refine I.step (g':=s.gens) (d':=s.drawn) (ch:=[e,it]) (fun b hb=>?_) (fun b o _ _ hc q _=>kc b o hc q) (fun b o _ _ hc q _=>⟨o.slots,kc b o hc q⟩) (fun _ _ _ _ n=>n)
  (fun b o hc q=>⟨o,kc b o hc q⟩) (fun _ _ q=>q) (fun _ _ _ q=>q) (fun b ps q=>⟨#[],by rw[q];simp⟩) (fun m hm=>?_) (fun b u q=>?_) I.bare
 ·rcases List.mem_cons.mp hb with z | z
  ·subst z;exact⟨fe.2.2.2.1,fe.2.1,fe.2.2.2.2.1,fe.2.2.2.2.2⟩
  ·have z':b=it:=by simpa using z
   subst z';exact⟨fi.2.2.2.1,fi.2.1,fi.2.2.2.2.1,fi.2.2.2.2.2⟩
 ·obtain⟨o,es,ep,ho,r⟩:=hm
  exact⟨o,es,ep,k _ o (Ne.symm fe.2.1) (Ne.symm fi.2.1) ho,r⟩
 ·refine(I.hok b u q).stay (fun c v hc r=>?_) (fun _ q=>q) fun _ _ q=>q
  rcases hc with z | z
  ·rw[z]at r ⊢;exact k b v (ne b u q) (ni b u q) r
  ·exact k c v (ne c _ z) (ni c _ z) r
end
def Ite(K:PySem.W.Frag)(a:Addr):It :=
 ⟨fun i H=>∃xs x,cz K H a xs/\xs[i]? = some x,fun i H x H'=>∃p,H p=none/\x=.ref p/\∃y,(∀xs,cz K H a xs->xs[i]? = some y)/\H'=upd H p (.tup [.int i,y]),fun i H=>∃xs,cz K H a xs/\xs.length<=i⟩
theorem akY{P:Program}{w:World}{K:PySem.W.Frag}{elts:List Expr}{x1}{pos:Pos}(a e it:Addr)(hne:e≠it):Turn P w K (.Tuple elts x1 pos) (Ite K a) [e,it] e (fun i h=>(∃old,IsEnum h e it (i:Nat) old)/\h.IsListIter it a i) where
 mem:=by simp
 obj:=fun i h st b hb=>by
  obtain⟨⟨old,he⟩,o,ho,c,d⟩:=st
  rcases List.mem_cons.mp hb with z | z
  ·subst z;exact⟨_,he,fun v z=>by cases z⟩
  ·have z':b=it:=by simpa using z
   subst z';exact⟨o,ho,fun v z=>by rw[d]at z;cases z⟩
 keep:=fun i h h' st k=>⟨st.1.elim fun old he=>⟨old,k e (by simp) _ he⟩,st.2.at fun o q=>k it (by simp) o q⟩
 item:=by
  intro X hP hw hK hc i pins s σ H E I hf st hg
  subst hP hw hK
  obtain⟨xs,x,hq,hx⟩:=hg
  obtain⟨⟨old,he⟩,hit⟩:=st
  obtain⟨its,rv,p,hz⟩:=I.list hq
  obtain⟨u,hu,ru⟩:=rv.get hx
  have fe:=hf e (by simp)
  have fi:=hf it (by simp)
  have hes:e<s.heap.objs.size:=Heap.lt_size he
  have his:it<s.heap.objs.size:=by obtain⟨o,ho,_⟩:=hit;exact Heap.lt_size ho
  refine wpAny_pyNext_enum_item he hit p.isList (x:=u) (by simpa using hu) hne fun h1 heo hit1 ht1 hz1 hk1=>?_
  refine⟨_,rfl,wpAny_letOwnedTupleGo_enum heo fun h2 he2 hs2=>?_⟩
  have asR:Heap.SameBut e h1 h2:=hs2
  have ht2:h2.get? s.heap.objs.size=some {cls:=.type "tuple",data:=.seq #[.int i s.toks,u]}:=(asR.2 _ (Nat.ne_of_gt hes)).trans ht1
  have I2:Inv X pins σ (upd H s.heap.objs.size (.tup [.int i,x])) {s with heap:=h2,toks:=s.toks+1}:=by
   refine I.akX (fun b o h3 h4 q=>(asR.2 b h3).trans (hk1 b o h3 h4 q)) fe fi (Nat.le_refl _) ?_
   exact⟨vA,[.int i s.toks,u],.cons ⟨_,rfl⟩ (.cons ru .nil),⟨_,ht2,rfl,_,rfl⟩⟩
  have hn:=I.fresh
  refine⟨.ref s.heap.objs.size,_,I2,rfl,⟨s.heap.objs.size,hn,rfl,x,fun ys hy=>by rw[I.afP hy hq];exact hx,rfl⟩,⟨⟨u,?_⟩,?_⟩,fun b hb=>?_⟩
  ·have z:((i+1:Nat):Int)=(i:Int)+1:=by push_cast;rfl
   rw[z];exact he2
  ·exact hit1.extBut asR.extBut (Ne.symm hne)
  ·rw[aq]
   ·exact(hf b hb).1
   ·rcases List.mem_cons.mp hb with z | z
    ·subst z;exact Nat.ne_of_lt hes
    ·have z':b=it:=by simpa using z
     subst z';exact Nat.ne_of_lt his
 done:=by
  intro X hP hw hK hc i pins s σ H E I hf st hg
  subst hP hw hK
  obtain⟨xs,hq,hx⟩:=hg
  obtain⟨⟨old,he⟩,hit⟩:=st
  obtain⟨its,rv,p,hz⟩:=I.list hq
  have hl:=rv.length
  exact wpAny_pyNext_enum_end (I.ok.hd hc) he hit p.isList (by simp;lia) fun h' eb=>⟨rfl,I.aoY (t':=s.toks) (fun b o _ h2 q=>eb b o h2 q) (hf e (by simp)) (hf it (by simp))⟩
 self:=fun _ _ _ _ _ st h=>st.1.elim fun _ he=>wpAny_pyIter_enum he h
section
variable{X:Cx}
def awl(K:PySem.W.Frag)(tl:TA):TI:=fun σ H R=>tl σ H fun vs H1=>∃a,vs=[.ref a]/\(∃xs,cz K H1 a xs)/\R (Ite K a) H1
theorem aoZ{elts:List Expr}{x1}{tpos:Pos}{a:Expr}{ta:TA}{p pos:Pos}(hg:Gl X "enumerate") (hm:X.mg "enumerate"=none) (ha:PA X [a] ta) (hs:starEach [a] X.env=[(false,eval a X.env)]:=by rfl) :
 PI X (.Tuple elts x1 tpos) (.Call (.Name "enumerate" p) [a] [] pos) (awl X.K ta):=by
 intro pins s σ H R I h
 refine Call_ (Wz I hg hm PyProof.Rows.Boot.«enumerate» (PyProof.Rows.callWith_type1 (gC (ha pos pins s σ H _ I h) fun us s1 hz=>kW hz fun vs H1 I1 r1 q1=>?_) hs rfl))
 obtain⟨l,e,⟨xs,hq⟩,q⟩:=q1
 subst e
 cases r1 with
 | cons r rr =>
   cases rr
   cases r
   obtain⟨its,rv,pl,hz⟩:=I1.list hq
   refine call_enumerate_list pl.isList fun h2 he hit hsz hk=>?_
   refine wpAny_pyIter_enum he ?_
   have hne:s1.heap.objs.size+1≠s1.heap.objs.size:=Nat.succ_ne_self _
   refine⟨s1.heap.objs.size+1,[s1.heap.objs.size+1,s1.heap.objs.size],_,_,H1,rfl,I1.kept (t':=s1.toks) hk,akY l _ _ hne,⟨⟨_,he⟩,hit⟩,fun b hb=>?_,q⟩
   rcases List.mem_cons.mp hb with z | z
   ·subst z;exact I1.al4 (Nat.le_succ _) (I1.hok.fresh (Nat.le_succ _))
   ·have z':b=s1.heap.objs.size:=by simpa using z
    subst z';exact I1.al4 (Nat.le_refl _) (I1.hok.fresh (Nat.le_refl _))
end
theorem akZ{K:PySem.W.Frag}{a acc:Addr}{xs:List V}{g:TG}{tc:TT}{te:TE}{σ:St}{H1:Hp}{Q:VK}(Pv:Nat->List V->St->Hp->Prop)(h0:Pv 0 [] σ (upd H1 acc (.lst [])))
 (hl:∀i zs σ H,i<=xs.length->Pv i zs σ H->cz K H a xs/\H acc=some (.lst zs))
 (hs:∀i x zs σ H p,xs[i]? = some x->i<xs.length->Pv i zs σ H->H p=none->g (.ref p) σ (upd H p (.tup [.int i,x])) fun σ4 H4=>tc σ4 H4 fun b H5=>if b=true then te σ4 H5 (Ey xs.length acc Pv i zs σ4)else W7 xs.length Pv i zs σ4 H5)
 (hd:∀zs σ H,Pv xs.length zs σ H->Q (.ref acc) H):Ew (Ite K a) g tc te σ acc H1 Q:=by
 refine⟨fun i m zs σ H=>m=xs.length - i/\i<=xs.length/\Pv i zs σ H,⟨_,rfl,Nat.zero_le _,h0⟩,?_⟩
 rintro i m zs σ H2 ⟨rfl,hi,p⟩
 obtain⟨q,ha⟩:=hl i zs σ H2 hi p
 refine⟨ha,?_⟩
 by_cases hlt:i<xs.length
 ·refine .inr ⟨⟨xs,xs[i],q,by simp[hlt]⟩,fun y H3 yl=>?_⟩
  obtain⟨b,hb,e,x,hx,e3⟩:=yl
  subst e e3
  exact hs i x zs σ _ b (hx xs q) hlt p hb
 ·have e:i=xs.length:=by lia
  subst e
  exact .inl ⟨⟨xs,q,Nat.le_refl _⟩,hd zs σ H2 p⟩
end L2
namespace gn
open PySem L2
inductive Rt where
 | no | rd | wr
 deriving DecidableEq
def Rt.s:Rt->Str
 | .no=>"none"
 | .rd=>"read"
 | .wr=>"write"
def Rt.k:Rt->Int
 | .no=>0
 | .rd=>1
 | .wr=>2
theorem Rt.awm:∀{a b:Rt},a.s=b.s->a=b
 | .no,.no,_=>rfl
 | .no,.rd,h=>absurd h (by decide +kernel)
 | .no,.wr,h=>absurd h (by decide +kernel)
 | .rd,.no,h=>absurd h (by decide +kernel)
 | .rd,.rd,_=>rfl
 | .rd,.wr,h=>absurd h (by decide +kernel)
 | .wr,.no,h=>absurd h (by decide +kernel)
 | .wr,.rd,h=>absurd h (by decide +kernel)
 | .wr,.wr,_=>rfl
theorem oN{r q:Rt}{x:Str}(e:x=q.s)(h:r≠q):decide (V.str r.s=V.str x)=false:=decide_eq_false fun z=>h (Rt.awm ((V.str.inj z).trans e))
theorem aM{c:Bool}{A B:Prop}(h:c=false)(hb:B):if c=true then A else B:=by rw[h];exact wY hb
theorem bG{c:Bool}{A B:Prop}(h:c=true)(ha:A):if c=true then A else B:=by rw[h];exact qt ha
inductive W where
 | look (p:Int) | put (p n:Int)
def W.pg:W->Int
 | .look p=>p
 | .put p _=>p
def W.need:W->Rt
 | .look _=>.rd
 | .put _ _=>.wr
def W.tag:W->Str
 | .look _=>"look"
 | .put _ _=>"put"
def W.vs:W->List V
 | .look p=>[.str "look",.int p]
 | .put p n=>[.str "put",.int p,.int n]
structure DS where
 rt:Int->Rt
 nm:Int->Int
 ws:Option W
def DS.hold(S:DS)(p:Int)(r:Rt)(n:Int):DS:={S with rt:=fun q=>if q=p then r else S.rt q,nm:=fun q=>if q=p then n else S.nm q}
theorem DS.qj(S:DS)(p:Int)(r:Rt)(n:Int):(S.hold p r n).rt p=r:=by unfold DS.hold;dsimp only;rw[if_pos rfl]
theorem DS.vH(S:DS)(p:Int)(r:Rt)(n:Int):(S.hold p r n).nm p=n:=by unfold DS.hold;dsimp only;rw[if_pos rfl]
theorem DS.qu(S:DS){p q:Int}(r:Rt)(n:Int)(h:q≠p):(S.hold p r n).rt q=S.rt q:=by unfold DS.hold;dsimp only;rw[if_neg h]
theorem DS.qw(S:DS){p q:Int}(r:Rt)(n:Int)(h:q≠p):(S.hold p r n).nm q=S.nm q:=by unfold DS.hold;dsimp only;rw[if_neg h]
def DS.ok(S:DS)(w:W):Prop:=w.need.k<=(S.rt w.pg).k
instance (S:DS) (w:W):Decidable (S.ok w):=inferInstanceAs (Decidable (_<=_))
def DS.done(S:DS):W->DS
 | .look _=>S
 | .put p n=>S.hold p (S.rt p) n
def DS.num(S:DS):W->Int
 | .look p=>S.nm p
 | .put _ n=>n
def DS.tell(S:DS)(p:Int):V:=if S.rt p=.wr then .int (S.nm p)else .non
def t7(H:Hp)(v:V):Option W->Prop
 | none=>v=.non
 | some w=>∃a,v=.ref a/\H a=some (.tup w.vs)
def t8(H:Hp)(o:Option V)(r:Rt)(n:Int):Prop:=if r=.no then o=none else ∃t,o=some (.ref t)/\H t=some (.tup [.str r.s,.int n])
theorem cw:¬(("copies":Str)="wish"):=by decide +kernel
def Dd(d:Addr)(v:V):List (Str×V):=gh "wish" v (gh "copies" (.ref d) [])
theorem acW(d:Addr)(v:V):Dd d v=([("copies",V.ref d),("wish",v)]:List (Str×V)):=by
 show(if("copies":Str)="wish" then [(("copies":Str),v)]else(("copies":Str),V.ref d)::gh "wish" v [])=([("copies",V.ref d),("wish",v)]:List (Str×V))
 rw[if_neg cw]
 all_goals rfl
theorem jU(d:Addr)(v:V):(Dd d v).lookup ("copies":Str)=some (.ref d):=by
 unfold Dd
 rw[jQ,if_neg cw,jQ,if_pos rfl]
theorem ab8(d:Addr)(v:V):(Dd d v).lookup ("wish":Str)=some v:=by
 unfold Dd
 rw[jQ,if_pos rfl]
theorem fH(d:Addr)(v:V){m:Str}(h1:¬m="wish") (h2:¬m="copies"):(Dd d v).lookup m=none:=by
 unfold Dd
 rw[jQ,if_neg h1,jQ,if_neg h2]
 all_goals rfl
theorem af7(d:Addr)(v u:V):gh "wish" u (Dd d v)=Dd d u:=by
 rw[acW,acW]
 show(if("copies":Str)="wish" then _ else(("copies":Str),V.ref d)::(if("wish":Str)="wish" then [(("wish":Str),u)]else _))=([("copies",V.ref d),("wish",u)]:List (Str×V))
 rw[if_neg cw,if_pos rfl]
theorem af8(d:Addr)(v:V):(Dd d v).length=2:=by rw[acW];rfl
structure cj(C:Addr)(H:Hp)(p d:Addr)(S:DS)(c:Nat):Prop where
 ob:∃dx v,H p=some (.ins C dx (Dd d v))/\t7 H v S.ws
 dc:∃kvs,H d=some (.dK kvs)/\kvs.length<=c/\∀n:Int,t8 H (fQ kvs (Sum.inl n:Key)) (S.rt n) (S.nm n)
def DF(H H':Hp)(p d:Addr):Prop:=∀b o,H b=some o->b≠p->b≠d->H' b=some o
theorem DF.refl(H:Hp)(p d:Addr):DF H H p d:=fun _ _ h _ _=>h
theorem DF.trans{H H1 H2:Hp}{p d:Addr}(a:DF H H1 p d)(b:DF H1 H2 p d):DF H H2 p d:=fun c o h h1 h2=>b c o (a c o h h1 h2) h1 h2
theorem cj.npd{C:Addr}{H:Hp}{p d:Addr}{S:DS}{c:Nat}(D:cj C H p d S c):p≠d:=by
 obtain⟨⟨dx,v,h1,_⟩,⟨kvs,h2,_⟩⟩:=D
 exact jr h1 h2 (by intro z;cases z)
theorem cj.mono{C:Addr}{H:Hp}{p d:Addr}{S:DS}{c c':Nat}(D:cj C H p d S c)(h:c<=c'):cj C H p d S c':=by
 obtain⟨o,⟨kvs,h2,h3,h4⟩⟩:=D
 exact⟨o,⟨kvs,h2,Nat.le_trans h3 h,h4⟩⟩
theorem t7.aX{H H':Hp}(h:b7 H H'){v:V}{o:Option W}(w:t7 H v o):t7 H' v o:=by
 cases o with
 | none=>exact w
 | some w' =>
   obtain⟨a,e,ha⟩:=w
   exact⟨a,e,h a _ ha⟩
theorem t8.aX{H H':Hp}(h:b7 H H'){o:Option V}{r:Rt}{n:Int}(w:t8 H o r n):t8 H' o r n:=by
 unfold t8 at w ⊢
 split
 ·rename_i e;rw[if_pos e]at w;exact w
 ·rename_i e
  rw[if_neg e]at w
  obtain⟨t,e,ha⟩:=w
  exact⟨t,e,h t _ ha⟩
theorem cj.keep{C:Addr}{H H':Hp}{p d:Addr}{S:DS}{c:Nat}(D:cj C H p d S c)(h:b7 H H')(hp:∀o,H p=some o->H' p=some o)(hd:∀o,H d=some o->H' d=some o):cj C H' p d S c:=by
 obtain⟨⟨dx,v,h1,h2⟩,⟨kvs,h3,h4,h5⟩⟩:=D
 exact⟨⟨dx,v,hp _ h1,h2.aX h⟩,⟨kvs,hd _ h3,h4,fun n=>(h5 n).aX h⟩⟩
theorem cj.same{C:Addr}{H H':Hp}{p d:Addr}{S:DS}{c:Nat}(D:cj C H p d S c)(h:bZ H H'):cj C H' p d S c:=D.keep (fun b xs e=>h b _ e) (fun o e=>h p o e) fun o e=>h d o e
theorem DF.tups{C:Addr}{H H':Hp}{p d:Addr}{S:DS}{c:Nat}(D:cj C H p d S c)(h:DF H H' p d):b7 H H':=fun b xs e=>by
 obtain⟨⟨dx,v,h1,_⟩,⟨kvs,h2,_⟩⟩:=D
 exact h b _ e (jr e h1 (by intro z;cases z)) (jr e h2 (by intro z;cases z))
theorem DF.seqs{C:Addr}{H H':Hp}{p d:Addr}{S:DS}{c:Nat}(D:cj C H p d S c)(h:DF H H' p d):zO H H':=⟨h.tups D,fun b xs e=>by
 obtain⟨⟨dx,v,h1,_⟩,⟨kvs,h2,_⟩⟩:=D
 exact h b _ e (jr e h1 (by intro z;cases z)) (jr e h2 (by intro z;cases z))⟩
theorem acX{H:Hp}{a:Addr}{o:HO}(h:H a=none):b7 H (upd H a o):=fun b xs e=>by rw[aq (aG e h)];exact e
theorem vI{H:Hp}{a:Addr}{o:HO}(h:H a=none):zO H (upd H a o):=⟨acX h,fun b xs e=>by rw[aq (aG e h)];exact e⟩
theorem aB{H:Hp}{a:Addr}{o:HO}(h:H a=none):bZ H (upd H a o):=fun b u e=>by rw[aq (aG e h)];exact e
theorem DF.new{H:Hp}{p d a:Addr}{o:HO}(h:H a=none):DF H (upd H a o) p d:=fun b u e _ _=>aB h b u e
theorem ao0{H:Hp}{a:Addr}{xs:List V}{ds:List D}(h:H a=none)(r:aH H xs ds):Rep (upd H a (.tup xs)) (.ref a) (.t ds):=by
 simp only[Rep]
 exact⟨a,xs,rfl,aj,r.mono (vI h)⟩
def nw(H H':Hp):Hp:=fun b=>match H b with
 | none=>H' b
 | some (.tup _)=>H' b
 | some _=>none
theorem mZ{H H':Hp}{b:Addr}{o:HO}(h:nw H H' b=some o):H' b=some o/\(H b=none\/∃xs,H b=some (.tup xs)):=by
 unfold nw at h
 split at h
 ·rename_i e;exact⟨h,.inl e⟩
 ·rename_i xs e;exact⟨h,.inr ⟨xs,e⟩⟩
 ·cases h
theorem W8{H H':Hp}{b:Addr}{o:HO}(h:H' b=some o)(q:H b=none\/∃xs,H b=some (.tup xs)):nw H H' b=some o:=by
 unfold nw
 rcases q with e | ⟨xs,e⟩<;>rw[e]<;>exact h
theorem aix{H H':Hp}:zO (nw H H') H':=⟨fun _ _ h=>(mZ h).1,fun _ _ h=>(mZ h).1⟩
theorem vJ{H H1 H2:Hp}(h:zO H1 H2):zO (nw H H1) (nw H H2):=⟨fun b xs e=>W8 (h.1 b xs (mZ e).1) (mZ e).2,fun b xs e=>W8 (h.2 b xs (mZ e).1) (mZ e).2⟩
theorem ym{H H1:Hp}{a:Addr}{xs:List V}{ds:List D}(hH:H a=none)(h:H1 a=none)(r:aH (nw H H1) xs ds):Rep (nw H (upd H1 a (.tup xs))) (.ref a) (.t ds):=by
 simp only[Rep]
 exact⟨a,xs,rfl,W8 aj (.inl hH),r.mono (vJ (vI h))⟩
theorem jV{H H1:Hp}{a:Addr}{xs:List V}{ds:List D}(hH:H a=none)(h:H1 a=none)(r:aH (nw H H1) xs ds):Rep (nw H (upd H1 a (.lst xs))) (.ref a) (.l ds):=by
 simp only[Rep]
 exact⟨a,xs,rfl,W8 aj (.inl hH),r.mono (vJ (vI h))⟩
def Kept(H H1:Hp):Prop:=∀b o,H b=some o->∃o',H1 b=some o'/\((∀xs,o≠.tup xs)->∀xs,o'≠.tup xs)
theorem Kept.free{H H1:Hp}(h:Kept H H1){a:Addr}(e:H1 a=none):H a=none:=by
 cases q:H a with
 | none=>rfl
 | some o=>obtain⟨o',z,_⟩:=h a o q;rw[e]at z;cases z
theorem Kept.tup{H H1:Hp}(h:Kept H H1){b:Addr}{xs:List V}(e:H1 b=some (.tup xs)):H b=none\/∃ys,H b=some (.tup ys):=by
 cases q:H b with
 | none=>exact .inl rfl
 | some o =>
   obtain⟨o',z,y⟩:=h b o q
   by_cases ht:∃xs,o=.tup xs
   ·obtain⟨ys,rfl⟩:=ht;exact .inr ⟨ys,rfl⟩
   ·rw[e]at z;cases z
    exact absurd rfl (y (fun ys z=>ht ⟨ys,z⟩) xs)
theorem Kept.refl(H:Hp):Kept H H:=fun b o e=>⟨o,e,fun h=>h⟩
theorem Kept.new{H H1:Hp}(h:Kept H H1){a:Addr}{o:HO}(e:H1 a=none):Kept H (upd H1 a o):=fun b u q=>by
 obtain⟨o',z,y⟩:=h b u q
 exact⟨o',by rw[aq (aG z e)];exact z,y⟩
theorem DF.kept{C:Addr}{H H':Hp}{p d:Addr}{S S':DS}{c c':Nat}(D:cj C H p d S c)(D':cj C H' p d S' c')(h:DF H H' p d):Kept H H':=fun b o e=>by
 by_cases hp:b=p
 ·subst hp
  obtain⟨⟨dx,v,h1,_⟩,_⟩:=D'
  exact⟨_,h1,fun _ xs z=>by cases z⟩
 ·by_cases hd:b=d
  ·subst hd
   obtain⟨_,⟨kvs,h2,_⟩⟩:=D'
   exact⟨_,h2,fun _ xs z=>by cases z⟩
  ·exact⟨o,h b o e hp hd,fun z=>z⟩
inductive Let where
 | lend (p:Int) (r:Rt) (n:Int) | back (p:Int) (r:Rt)
def Let.vs:Let->List V
 | .lend p r n=>[.str "lend",.int p,.str r.s,.int n]
 | .back p r=>[.str "back",.int p,.str r.s]
def Let.d:Let->D
 | .lend p r n=>.t [.s "lend",.i p,.s r.s,.i n]
 | .back p r=>.t [.s "back",.i p,.s r.s]
def W9:V->D
 | .int k=>.i k
 | _=>.n
def DS.gq(S:DS)(p:Int)(r:Rt)(n:Int):DS×List D :=
 let S1:=S.hold p r n
 match S.ws with
 | none=>(S1,[])
 | some w=>if w.pg=p/\S1.ok w then(({S1 with ws:=none}:DS).done w,[.t [.s w.tag,.i w.pg,.i (S1.num w)]])else(S1,[])
def DS.down(S:DS)(p:Int)(r:Rt):DS:=if(S.rt p).k<=r.k then S else S.hold p r (S.nm p)
def DS.take(S:DS):Let->DS×D
 | .lend p r n=>((S.gq p r n).1,.t [.l (S.gq p r n).2,.l []])
 | .back p r=>(S.down p r,.t [.l [],.l [.t [.s "answer",.i p,W9 (S.tell p)]]])
def DS.want(S:DS)(w:W):DS×D:=if S.ok w then(S.done w,.t [.l [.t [.s w.tag,.i w.pg,.i (S.num w)]],.l []])else({S with ws:=some w},.t [.l [],.l [.t [.s "ask",.i w.pg,.s w.need.s]]])
def DS.rest(S:DS)(p:Int):DS×D:=(S.hold p .no (S.nm p),.l (if S.rt p=.wr then [.t [.s "gave",.i p,.i (S.nm p)]]else []))
def af9(tag:Str):Sp:=fun vs H Q _=>∃x y,vs=[x,y]/\∀a,H a=none->Q (.ref a) (upd H a (.tup [.str tag,x,y]))
def amD:Sp:=fun vs H Q _=>∃r n:Rt,vs=[.str r.s,.str n.s]/\Q (.bl (decide (n.k<=r.k))) H
def asS(K:PySem.W.Frag):Sp:=fun vs H Q _=>∃a w,vs=[.ref a]/\H a=some (.tup (W.vs w))/\Q (.str w.need.s) H
def asT(C:Addr):Sp:=fun vs H Q _=>∃p dx,vs=[.ref p]/\H p=some (.ins C dx [])/\∀d H',H d=none->cj C H' p d ⟨fun _=>.no,fun _=>0,none⟩ 0->(∀b o,H b=some o->b≠p->H' b=some o)->Q .non H'
def ao1(C:Addr):Sp:=fun vs H Q _=>∃p d S c n,vs=[.ref p,.int n]/\cj C H p d S c/\Q (.str (S.rt n).s) H
def ao2(C:Addr):Sp:=fun vs H Q _=>∃p d S c,vs=[.ref p]/\cj C H p d S c/\Q (.bl S.ws.isSome) H
def awn(C:Addr):Sp:=fun vs H Q _=>∃p d S c a w,vs=[.ref p,.ref a]/\cj C H p d S c/\H a=some (.tup (W.vs w))/\Q (.bl (decide (S.ok w))) H
def asU(C:Addr):Sp:=fun vs H Q _=>∃p d S c n,vs=[.ref p,.int n]/\cj C H p d S c/\Q (S.tell n) H
def asV(C:Addr):Sp:=fun vs H Q _=>∃p d S c n r k v,vs=[.ref p,.int n,.str (Rt.s r),v]/\cj C H p d S c/\c<=1000000/\(r=.no\/v=.int k)/\∀H',cj C H' p d (S.hold n r k) (c+1)->DF H H' p d->Q .non H'
def azE(C:Addr):Sp:=fun vs H Q _=>∃p d S c a w,vs=[.ref p,.ref a]/\cj C H p d S c/\c<=1000000/\H a=some (.tup (W.vs w))/\S.ok w/\
 ∀t H',cj C H' p d (S.done w) (c+1)->DF H H' p d->H' t=some (.tup [.str w.tag,.int w.pg,.int (S.num w)])->Q (.ref t) H'
def asW(C:Addr):Sp:=fun vs H Q _=>∃p d S c n r k,vs=[.ref p,.int n,.str (Rt.s r),.int k]/\cj C H p d S c/\c<=900000/\
 ∀v H',cj C H' p d (S.gq n r k).1 (c+2)->DF H H' p d->Rep (nw H H') v (.l (S.gq n r k).2)->Q v H'
def asY(C:Addr):Sp:=fun vs H Q _=>∃p d S c n r,vs=[.ref p,.int n,.str (Rt.s r)]/\cj C H p d S c/\c<=900000/\
 ∀v H',cj C H' p d (S.down n r) (c+2)->DF H H' p d->Rep H' v (.t [.s "answer",.i n,W9 (S.tell n)])->Q v H'
def asZ(C:Addr):Sp:=fun vs H Q _=>∃p d S c a l,vs=[.ref p,.ref a]/\cj C H p d S c/\c<=900000/\H a=some (.tup (Let.vs l))/\
 ∀v H',cj C H' p d (S.take l).1 (c+2)->DF H H' p d->Rep (nw H H') v (S.take l).2->Q v H'
end gn
namespace gn
open PySem L2
def aF{α:Type}(f:Nat->α)(i:Nat)(v:α):Nat->α:=fun j=>if j=i then v else f j
theorem aL{α:Type}(f:Nat->α)(i:Nat)(v:α):aF f i v i=v:=by simp[aF]
theorem aY{α:Type}(f:Nat->α){i j:Nat}(v:α)(h:j≠i):aF f i v j=f j:=by simp[aF,h]
theorem dX{α:Type}(f:Nat->α)(i:Nat):aF f i (f i)=f:=by funext j;unfold aF;split<;>simp_all
theorem mz{α:Type}(f:Nat->α)(i:Nat)(v w:α):aF (aF f i v) i w=aF f i w:=by funext j;unfold aF;split<;>rfl
inductive UL where
 | ask (p:Nat) (r:Rt) | ans (p:Nat) (o:Option Int) | gave (p:Nat) (n:Int)
def oV:Option Int->V
 | none=>.non
 | some k=>.int k
def oD:Option Int->D
 | none=>.n
 | some k=>.i k
def UL.vs:UL->List V
 | .ask p r=>[.str "ask",.int p,.str r.s]
 | .ans p o=>[.str "answer",.int p,oV o]
 | .gave p n=>[.str "gave",.int p,.int n]
def UL.d:UL->D
 | .ask p r=>.t [.s "ask",.i p,.s r.s]
 | .ans p o=>.t [.s "answer",.i p,oD o]
 | .gave p n=>.t [.s "gave",.i p,.i n]
def UL.pg:UL->Nat
 | .ask p _=>p
 | .ans p _=>p
 | .gave p _=>p
structure PG where
 num:Int
 wr:Option Nat
 rd:List Nat
 ask:List (Nat×Rt)
 miss:Int
def low(r:Rt):Rt:=if r=.rd then .rd else .no
def oO(g:PG)(p a:Nat)(r:Rt):List (Nat×Let):=match g.wr with
 | some w=>if w=a then []else [(w,.back p (low r))]
 | none=>[]
def oR(g:PG)(p a:Nat)(r:Rt):List (Nat×Let):=if r=.wr then(g.rd.filter fun d=>decide (d≠a)).map fun d=>(d,.back p .no)else []
def PG.cN(g:PG)(p:Nat):List (Nat×Let):=match g.ask with
 | []=>[]
 | (a,r)::_=>oO g p a r++oR g p a r
def kI(g:PG)(a:Nat):PG:={g with wr:=none,rd:=if a∈g.rd++g.wr.toList then g.rd++g.wr.toList else g.rd++g.wr.toList++[a]}
def lB(g:PG)(a:Nat):PG:={g with wr:=some a,rd:=[]}
def PG.lent(g:PG):PG:=match g.ask with
 | []=>g
 | (a,r)::q=>if r=.wr then lB {g with ask:=q} a else kI {g with ask:=q} a
def PG.dO(g:PG)(p:Nat):List (Nat×Let):=match g.ask with
 | []=>[]
 | (a,r)::_=>[(a,.lend p r g.num)]
theorem PG.yo(g:PG):g.lent.ask.length=g.ask.length - 1:=by
 unfold PG.lent
 cases h:g.ask with
 | nil=>simp[h]
 | cons x q=>obtain⟨a,r⟩:=x;dsimp only;split<;>simp[lB,kI]
def pJ:Nat->PG->Nat->PG×List (Nat×Let)
 | 0,g,_=>(g,[])
 | k+1,g,p=>if(g.cN p).isEmpty then((pJ k g.lent p).1,g.dO p++(pJ k g.lent p).2)else({g with miss:=(g.cN p).length},g.cN p)
def PG.serve(g:PG)(p:Nat):PG×List (Nat×Let):=pJ g.ask.length g p
theorem yp{g:PG}{p:Nat}(h:g.ask=[]):g.serve p=(g,[]):=by unfold PG.serve;rw[h];rfl
theorem uc{g:PG}{p:Nat}(h:g.ask≠[])(hb:g.cN p=[]):g.serve p=((g.lent.serve p).1,g.dO p++(g.lent.serve p).2):=by
 unfold PG.serve
 rw[PG.yo]
 cases h':g.ask with
 | nil=>exact absurd h' h
 | cons x q=>rw[List.length_cons,pJ,hb,if_pos (by rfl)];rfl
theorem yq{g:PG}{p:Nat}(h:g.ask≠[])(hb:g.cN p≠[]):g.serve p=({g with miss:=(g.cN p).length},g.cN p):=by
 unfold PG.serve
 cases h':g.ask with
 | nil=>exact absurd h' h
 | cons x q=>rw[List.length_cons,pJ,if_neg (by simpa using hb),h']
def PG.take(g:PG)(p d:Nat):UL->PG×List (Nat×Let)
 | .ask _ r=>if g.ask=[]then PG.serve {g with ask:=[(d,r)]} p else({g with ask:=g.ask++[(d,r)]},[])
 | .ans _ o=>if g.miss - 1=0 then
    ((PG.serve (PG.lent {g with num:=o.getD g.num,miss:=g.miss - 1}) p).1,PG.dO {g with num:=o.getD g.num,miss:=g.miss - 1} p++(PG.serve (PG.lent {g with num:=o.getD g.num,miss:=g.miss - 1}) p).2)
   else({g with num:=o.getD g.num,miss:=g.miss - 1},[])
 | .gave _ n=>({g with num:=n,wr:=if g.wr=some d then none else g.wr},[])
def post(dn:Nat->List Let)(ls:List (Nat×Let)):Nat->List Let:=ls.foldl (fun f q=>aF f q.1 (f q.1++[q.2])) dn
theorem jW(dn:Nat->List Let)(a b:List (Nat×Let)):post dn (a++b)=post (post dn a) b:=by unfold post;rw[List.foldl_append]
theorem tQ(dn:Nat->List Let)(x:Nat×Let)(b:List (Nat×Let)):post dn (x::b)=post (aF dn x.1 (dn x.1++[x.2])) b:=rfl
theorem ab9(dn:Nat->List Let)(a:List (Nat×Let))(x:Nat×Let):post dn (a++[x])=aF (post dn a) x.1 (post dn a x.1++[x.2]):=by rw[jW];rfl
theorem Mg(dn:Nat->List Let)(ls:List (Nat×Let))(x:Nat):(post dn ls x).length<=(dn x).length+ls.length:=by
 induction ls generalizing dn with
 | nil=>exact Nat.le_refl _
 | cons q r ih =>
   rw[tQ]
   refine Nat.le_trans (ih _) ?_
   rw[List.length_cons]
   by_cases e:x=q.1
   ·rw[e,aL,List.length_append];simp;lia
   ·rw[aY _ _ e];lia
abbrev Ev:=Bool×Int×Int
def aca(b:Bool):Str:=if b then "put" else "look"
def evD(e:Ev):D:=.t [.s (aca e.1),.i e.2.1,.i e.2.2]
def W.m5:W->Bool
 | .look _=>false
 | .put _ _=>true
theorem W.aiy(w:W):w.tag=aca w.m5:=by cases w<;>rfl
structure RE where
 put:Bool
 dk:Nat
 pg:Int
 num:Int
def RE.d(e:RE):D:=.t [.s (aca e.put),.i e.dk,.i e.pg,.i e.num]
structure TS where
 ds:Nat->DS
 pg:Nat->PG
 up:Nat->List UL
 dn:Nat->List Let
 row:List RE
def DS.gZ(S:DS)(w:W)(p:Nat):DS×List Ev×List UL:=if S.ok w then(S.done w,[(w.m5,w.pg,S.num w)],[])else({S with ws:=some w},[],[.ask p w.need])
def DS.mC(S:DS)(p:Int)(r:Rt)(n:Int):DS×List Ev :=
 match S.ws with
 | none=>(S.hold p r n,[])
 | some w=>if w.pg=p/\(S.hold p r n).ok w then(({S.hold p r n with ws:=none}:DS).done w,[(w.m5,w.pg,(S.hold p r n).num w)])else(S.hold p r n,[])
def DS.kY(S:DS)(p:Int):Option Int:=if S.rt p=.wr then some (S.nm p)else none
def Let.pg:Let->Int
 | .lend p _ _=>p
 | .back p _=>p
def DS.ud(S:DS):Let->DS×List Ev×List UL
 | .lend p r n=>((S.mC p r n).1,(S.mC p r n).2,[])
 | .back p r=>(S.down p r,[],[.ans p.toNat (S.kY p)])
theorem DS.ajL(S:DS)(w:W){p:Nat}(hp:w.pg=p):S.want w=((S.gZ w p).1,.t [.l ((S.gZ w p).2.1.map evD),.l ((S.gZ w p).2.2.map UL.d)]):=by
 unfold DS.want DS.gZ
 split
 ·simp[evD,W.aiy]
 ·simp[UL.d,hp]
theorem DS.ao3(S:DS)(p:Int)(r:Rt)(n:Int):S.gq p r n=((S.mC p r n).1,(S.mC p r n).2.map evD):=by
 unfold DS.gq DS.mC
 cases h:S.ws with
 | none=>rfl
 | some w=>dsimp only;split<;>simp[evD,W.aiy]
theorem DS.ao4(S:DS)(p:Int):S.tell p=oV (S.kY p):=by unfold DS.tell DS.kY;split<;>rfl
theorem amE(o:Option Int):W9 (oV o)=oD o:=by cases o<;>rfl
theorem DS.ao5(S:DS)(l:Let){p:Nat}(hp:l.pg=p):S.take l=((S.ud l).1,.t [.l ((S.ud l).2.1.map evD),.l ((S.ud l).2.2.map UL.d)]):=by
 cases l with
 | lend q r n=>simp only[DS.take,DS.ud,DS.ao3];rfl
 | back q r =>
   have hq:q=(p:Int):=hp
   subst hq
   simp only[DS.take,DS.ud,DS.ao4,amE]
   simp[UL.d]
def dg(row:List RE)(d:Nat)(es:List Ev):List RE:=row++es.map fun e=>⟨e.1,d,e.2.1,e.2.2⟩
def TS.jX(S:TS)(d:Nat)(z:DS×List Ev×List UL):TS:={S with ds:=aF S.ds d z.1,up:=aF S.up d (S.up d++z.2.2),row:=dg S.row d z.2.1}
def TS.Xa(S:TS)(d:Nat)(l:UL)(r:List UL):TS:={S with up:=aF S.up d r,pg:=aF S.pg l.pg ((S.pg l.pg).take l.pg d l).1,dn:=post S.dn ((S.pg l.pg).take l.pg d l).2}
def TS.Ie(S:TS)(d:Nat)(l:Let)(r:List Let):TS:=TS.jX {S with dn:=aF S.dn d r} d ((S.ds d).ud l)
def TS.lg(S:TS)(d:Nat)(p:Nat):TS:=TS.jX S d ((S.ds d).hold p .no ((S.ds d).nm p),[],if(S.ds d).rt p=.wr then [.gave p ((S.ds d).nm p)]else [])
inductive cC where
 | look (d p:Int) | put (d p n:Int) | rest (d p:Int) | up (d:Int) | down (d:Int)
def cC.vs:cC->List V
 | .look d p=>[.str "look",.int d,.int p]
 | .put d p n=>[.str "put",.int d,.int p,.int n]
 | .rest d p=>[.str "rest",.int d,.int p]
 | .up d=>[.str "up",.int d]
 | .down d=>[.str "down",.int d]
def cC.d:cC->D
 | .look d p=>.t [.s "look",.i d,.i p]
 | .put d p n=>.t [.s "put",.i d,.i p,.i n]
 | .rest d p=>.t [.s "rest",.i d,.i p]
 | .up d=>.t [.s "up",.i d]
 | .down d=>.t [.s "down",.i d]
def TS.wish(S:TS)(d p:Nat)(w:W)(told:D):TS×D:=match (S.ds d).ws with
 | some _=>(S,.s "waiting")
 | none=>(S.jX d ((S.ds d).gZ w p),if(S.ds d).ok w then told else .s "waits")
def TS.upD(S:TS)(d:Nat):TS×D:=match S.up d with
 | []=>(S,.s "no letter")
 | l::r=>(S.Xa d l r,l.d)
def TS.Xb(S:TS)(d:Nat):TS×D:=match S.dn d with
 | []=>(S,.s "no letter")
 | l::r=>(S.Ie d l r,l.d)
def inR(d:Int)(n:Nat):Prop:=0<=d/\d<n
instance (d:Int) (n:Nat):Decidable (inR d n):=inferInstanceAs (Decidable (_/\_))
def TS.step(n m:Nat)(S:TS):cC->TS×D
 | .up d=>if inR d n then S.upD d.toNat else(S,.s "no desk")
 | .down d=>if inR d n then S.Xb d.toNat else(S,.s "no desk")
 | .rest d p=>if inR d n then(if inR p m then(if(S.ds d.toNat).rt p=.no then(S,.s "no copy")else(S.lg d.toNat p.toNat,.s "done"))else(S,.s "no page"))else(S,.s "no desk")
 | .look d p=>if inR d n then(if inR p m then S.wish d.toNat p.toNat (.look p) (.i ((S.ds d.toNat).nm p))else(S,.s "no page"))else(S,.s "no desk")
 | .put d p x=>if inR d n then(if inR p m then S.wish d.toNat p.toNat (.put p x) (.s "done")else(S,.s "no page"))else(S,.s "no desk")
end gn
namespace gn
open PySem L2
theorem f9{A B:L2.TS}{D:Ends}{σ:St}{H:Hp}(R:St->Hp->Prop)(ha:∀N:St->Hp->Prop,(∀σ' H',R σ' H'->N σ' H')->A {D with nx:=N} σ H)(hb:∀σ' H',R σ' H'->B D σ' H'):aU A B D σ H:=ha _ hb
def nV(d:Nat):V:=.int d
theorem bc{H H':Hp}(h:bZ H H'):b7 H H':=fun b xs e=>h b _ e
theorem fU{H H1:Hp}{l:Addr}{o:HO}(h:bZ H H1)(hn:H l=none):bZ H (upd H1 l o):=fun b u e=>by rw[aq (aG e hn)];exact h b u e
theorem lH{H:Hp}{l:Addr}{us vs:List V}(h:H l=some (.lst us)):b7 H (upd H l (.lst vs)):=fun b xs e=>by rw[aq (jr e h (by intro z;cases z))];exact e
theorem amF{α:Type}(x:α)(xs:List α):seqIndex? 0 (x::xs).length=some 0:=by simp[seqIndex?]
theorem dm{a b:Str}(h:a≠b):decide (V.str a=V.str b)=false:=decide_eq_false fun z=>h (V.str.inj z)
theorem fJ{a:Str}:decide (V.str a=V.str a)=true:=decide_eq_true rfl
def sO(x:Nat×Rt):D:=.t [.i x.1,.s x.2.s]
def pairD(x:Nat×Let):D:=.t [.i x.1,x.2.d]
def wrV:Option Nat->V
 | none=>.non
 | some w=>.int w
def BR(p:Nat)(g:PG)(r q:Addr):List (Str×V):=[("page",.int p),("number",.int g.num),("writer",wrV g.wr),("readers",.ref r),("asked",.ref q),("awaited",.int g.miss)]
section
variable{p:Nat}{g:PG}{r q:Addr}
theorem amG{n:Int}:gh "awaited" (.int 0) (gh "asked" (.ref q) (gh "readers" (.ref r) (gh "writer" .non (gh "number" (.int n) (gh "page" (.int p) [])))))=BR p ⟨n,none,[],[],0⟩ r q:=by kernel_rfl
theorem ajM{n:Int}:gh "number" (.int n) (BR p g r q)=BR p {g with num:=n} r q:=by kernel_rfl
theorem ajN:gh "writer" .non (BR p g r q)=BR p {g with wr:=none} r q:=by kernel_rfl
theorem ao6{d:Nat}:gh "writer" (.int d) (BR p g r q)=BR p {g with wr:=some d} r q:=by kernel_rfl
theorem as4{r':Addr}{l:List Nat}:gh "readers" (.ref r') (BR p g r q)=BR p {g with rd:=l} r' q:=by kernel_rfl
theorem aga{k:Int}:gh "awaited" (.int k) (BR p g r q)=BR p {g with miss:=k} r q:=by kernel_rfl
theorem Xc:(BR p g r q).lookup ("page":Str)=some (.int p):=by kernel_rfl
theorem aiz:(BR p g r q).lookup ("number":Str)=some (.int g.num):=by kernel_rfl
theorem ue:(BR p g r q).lookup ("writer":Str)=some (wrV g.wr):=by kernel_rfl
theorem vK:(BR p g r q).lookup ("readers":Str)=some (.ref r):=by kernel_rfl
theorem tR:(BR p g r q).lookup ("asked":Str)=some (.ref q):=by kernel_rfl
theorem R3:(BR p g r q).lookup ("awaited":Str)=some (.int g.miss):=by kernel_rfl
theorem vL:(BR p g r q).length<1000:=by show 6<1000;decide
theorem acb:(BR p g r q).lookup ("serve":Str)=none:=by kernel_rfl
theorem agb:(BR p g r q).lookup ("lend":Str)=none:=by kernel_rfl
theorem amH:(BR p g r q).lookup ("bids_for_first":Str)=none:=by kernel_rfl
theorem as5:(BR p g r q).lookup ("let_write":Str)=none:=by kernel_rfl
theorem as6:(BR p g r q).lookup ("let_read":Str)=none:=by kernel_rfl
theorem as7:(BR p g r q).lookup ("take_ask":Str)=none:=by kernel_rfl
theorem as8:(BR p g r q).lookup ("take_answer":Str)=none:=by kernel_rfl
theorem as9:(BR p g r q).lookup ("take_gave":Str)=none:=by kernel_rfl
end
structure gf(C:Addr)(H:Hp)(a r q:Addr)(p:Nat)(g:PG):Prop where
 ob:∃dx,H a=some (.ins C dx (BR p g r q))
 rl:H r=some (.lst (g.rd.map nV))
 al:∃vs,H q=some (.lst vs)/\aH H vs (g.ask.map sO)
 ne:r≠q
def Lv(H H':Hp):Prop:=∀b,H' b=none->H b=none
theorem Lv.refl(H:Hp):Lv H H:=fun _ h=>h
theorem Lv.trans{H H1 H2:Hp}(x:Lv H H1)(y:Lv H1 H2):Lv H H2:=fun b h=>x b (y b h)
theorem Lv.upd{H:Hp}{a:Addr}{o:HO}:Lv H (upd H a o):=fun b h=>by
 by_cases e:b=a
 ·rw[e,aj]at h;cases h
 ·rw[aq e]at h;exact h
theorem Lv.same{H H':Hp}(h:bZ H H'):Lv H H':=fun b e=>by
 cases q:H b with
 | none=>rfl
 | some o=>rw[h b o q]at e;cases e
structure PF(H H':Hp)(a r q:Addr):Prop where
 kp:∀b o,H b=some o->b≠a->b≠r->b≠q->H' b=some o
 lv:Lv H H'
theorem PF.refl(H:Hp)(a r q:Addr):PF H H a r q:=⟨fun _ _ h _ _ _=>h,Lv.refl _⟩
theorem PF.trans{H H1 H2:Hp}{a r q:Addr}(x:PF H H1 a r q)(y:PF H1 H2 a r q):PF H H2 a r q:=⟨fun b o h h1 h2 h3=>y.kp b o (x.kp b o h h1 h2 h3) h1 h2 h3,x.lv.trans y.lv⟩
theorem PF.trans'{H H1 H2:Hp}{a r r1 q:Addr}(x:PF H H1 a r q)(y:PF H1 H2 a r1 q)(h:r1=r\/H r1=none):PF H H2 a r q:=⟨fun b o hb h1 h2 h3=>y.kp b o (x.kp b o hb h1 h2 h3) h1 (by
 rcases h with z | z
 ·rw[z];exact h2
 ·exact aG hb z) h3,x.lv.trans y.lv⟩
theorem kJ(l:List (Nat×Rt)):D.flats (l.map sO):=by
 induction l with
 | nil=>simp[D.flats]
 | cons x l ih=>simp only[List.map_cons,D.flats];exact⟨by simp[sO,D.flat,D.flats],ih⟩
theorem Let.flat(l:Let):l.d.flat:=by cases l<;>simp[Let.d,D.flat,D.flats]
theorem dh(l:List (Nat×Let)):D.flats (l.map pairD):=by
 induction l with
 | nil=>simp[D.flats]
 | cons x l ih=>simp only[List.map_cons,D.flats];exact⟨by simp only[pairD,D.flat,D.flats];exact⟨trivial,Let.flat _,trivial⟩,ih⟩
section
variable{C:Addr}{H H':Hp}{a r q:Addr}{p:Nat}{g:PG}
theorem gf.nar(P:gf C H a r q p g):a≠r:=by obtain⟨⟨dx,h⟩,h2,_⟩:=P;exact jr h h2 (by intro z;cases z)
theorem gf.naq(P:gf C H a r q p g):a≠q:=by obtain⟨⟨dx,h⟩,_,⟨vs,h2,_⟩,_⟩:=P;exact jr h h2 (by intro z;cases z)
theorem PF.tups(P:gf C H a r q p g)(h:PF H H' a r q):b7 H H':=fun b xs e=>by
 obtain⟨⟨dx,h1⟩,h2,⟨vs,h3,_⟩,_⟩:=P
 exact h.kp b _ e (jr e h1 (by intro z;cases z)) (jr e h2 (by intro z;cases z)) (jr e h3 (by intro z;cases z))
theorem gf.keep(P:gf C H a r q p g)(t:b7 H H')(ha:∀o,H a=some o->H' a=some o)(hr:∀o,H r=some o->H' r=some o)(hq:∀o,H q=some o->H' q=some o):gf C H' a r q p g:=by
 obtain⟨⟨dx,h1⟩,h2,⟨vs,h3,h4⟩,h5⟩:=P
 exact⟨⟨dx,ha _ h1⟩,hr _ h2,⟨vs,hq _ h3,h4.aX t (kJ _)⟩,h5⟩
theorem gf.same(P:gf C H a r q p g)(h:bZ H H'):gf C H' a r q p g:=P.keep (fun b xs e=>h b _ e) (fun o e=>h _ o e) (fun o e=>h _ o e) fun o e=>h _ o e
theorem gf.new{b:Addr}{o:HO}(P:gf C H a r q p g)(h:H b=none):gf C (upd H b o) a r q p g:=P.same (aB h)
theorem PF.new{b:Addr}{o:HO}(h:H b=none):PF H (upd H b o) a r q:=⟨fun c u e _ _ _=>aB h c u e,Lv.upd⟩
theorem gf.wr{dx:Addr}{g':PG}(P:gf C H a r q p g)(e1:g'.rd=g.rd)(e2:g'.ask=g.ask):gf C (upd H a (.ins C dx (BR p g' r q))) a r q p g':=by
 have n1:=P.nar
 have n2:=P.naq
 obtain⟨⟨zF,h1⟩,h2,⟨vs,h3,h4⟩,h5⟩:=P
 have t:b7 H (upd H a (.ins C dx (BR p g' r q))):=fun b xs e=>by rw[aq (jr e h1 (by intro z;cases z))];exact e
 exact⟨⟨dx,aj⟩,by rw[aq n1.symm,e1];exact h2,⟨vs,by rw[aq n2.symm];exact h3,by rw[e2];exact h4.aX t (kJ _)⟩,h5⟩
theorem PF.wr{o:HO}:PF H (upd H a o) a r q:=⟨fun b u e h1 _ _=>by rw[aq h1];exact e,Lv.upd⟩
theorem PF.wrR{o:HO}:PF H (upd H r o) a r q:=⟨fun b u e _ h2 _=>by rw[aq h2];exact e,Lv.upd⟩
theorem PF.wrQ{o:HO}:PF H (upd H q o) a r q:=⟨fun b u e _ _ h3=>by rw[aq h3];exact e,Lv.upd⟩
theorem gf.wrR{l:List Nat}(P:gf C H a r q p g):gf C (upd H r (.lst (l.map nV))) a r q p {g with rd:=l}:=by
 have n1:=P.nar
 obtain⟨⟨zF,h1⟩,h2,⟨vs,h3,h4⟩,h5⟩:=P
 have t:b7 H (upd H r (.lst (l.map nV))):=fun b xs e=>by rw[aq (jr e h2 (by intro z;cases z))];exact e
 exact⟨⟨zF,by rw[aq n1];exact h1⟩,aj,⟨vs,by rw[aq h5.symm];exact h3,h4.aX t (kJ _)⟩,h5⟩
theorem gf.wrQ{l:List (Nat×Rt)}{vs:List V}(P:gf C H a r q p g)(rp:aH H vs (l.map sO)):gf C (upd H q (.lst vs)) a r q p {g with ask:=l}:=by
 have n1:=P.naq
 obtain⟨⟨zF,h1⟩,h2,⟨us,h3,h4⟩,h5⟩:=P
 have t:b7 H (upd H q (.lst vs)):=fun b xs e=>by rw[aq (jr e h3 (by intro z;cases z))];exact e
 exact⟨⟨zF,by rw[aq n1];exact h1⟩,by rw[aq h5];exact h2,⟨vs,aj,rp.aX t (kJ _)⟩,h5⟩
theorem HQ{H:Hp}{vs:List V}{x:Nat×Rt}{l:List (Nat×Rt)}(h:aH H vs ((x::l).map sO)):∃t us,vs=.ref t::us/\H t=some (.tup [.int x.1,.str x.2.s])/\aH H us (l.map sO):=by
 simp only[List.map_cons,aH]at h
 obtain⟨v,us,e,rv,rl⟩:=h
 simp only[sO,Rep,aH]at rv
 obtain⟨t,xs,e1,e2,_,_,e3,rfl,_,_,e4,rfl,e5⟩:=rv
 subst e1 e5 e4 e3
 exact⟨t,us,e,e2,rl⟩
end
def ajO(C:Addr)(H:Hp)(a r q:Addr)(p:Nat)(z:PG×List (Nat×Let))(Q:VK):Prop :=
 ∀l r' vs H',H l=none->(r'=r\/H r'=none)->l≠r'->gf C H' a r' q p z.1->PF H H' a r q->H' l=some (.lst vs)->aH H' vs (z.2.map pairD)->Q (.ref l) H'
def PG.mu(g:PG):Nat:=g.rd.length+2*g.ask.length
theorem PG.sS(g:PG):g.lent.mu<=g.mu:=by
 unfold PG.lent PG.mu
 cases h:g.ask with
 | nil=>simp[h]
 | cons x l =>
   obtain⟨a,r⟩:=x
   dsimp only
   split
   ·simp[lB];lia
   ·simp only[kI]
    have hw:g.wr.toList.length<=1:=by cases g.wr<;>simp
    split<;>simp[List.length_append]<;>lia
def ajP:Sp:=fun vs H Q _=>∃x y z,vs=[x,y,z]/\∀a,H a=none->Q (.ref a) (upd H a (.tup [.str "lend",x,y,z]))
def amI(C:Addr):Sp:=fun vs H Q _=>∃a dx,∃p:Nat,∃n:Int,vs=[.ref a,.int p,.int n]/\H a=some (.ins C dx [])/\∀r q H',H r=none->H q=none->gf C H' a r q p ⟨n,none,[],[],0⟩->(∀b o,H b=some o->b≠a->H' b=some o)->Lv H H'->Q .non H'
def atb(C:Addr):Sp:=fun vs H Q _=>∃a r q p g,∃d:Nat,vs=[.ref a,.int d]/\gf C H a r q p g/\g.rd.length<=1000000/\∀H',gf C H' a r q p (kI g d)->PF H H' a r q->Q .non H'
def atc(C:Addr):Sp:=fun vs H Q _=>∃a r q p g,∃d:Nat,vs=[.ref a,.int d]/\gf C H a r q p g/\∀r' H',H r'=none->gf C H' a r' q p (lB g d)->PF H H' a r q->Q .non H'
def ao7(C:Addr):Sp:=fun vs H Q _=>∃a r q p g d x l,vs=[.ref a]/\gf C H a r q p g/\g.ask=(d,x)::l/\(x=.rd\/x=.wr)/\g.rd.length<=1000000/\
 ∀v r' H',(r'=r\/H r'=none)->gf C H' a r' q p g.lent->PF H H' a r q->Rep H' v (pairD (d,.lend p x g.num))->Q v H'
def atd(C:Addr):Sp:=fun vs H Q _=>∃a r q p g d x l,vs=[.ref a]/\gf C H a r q p g/\g.ask=(d,x)::l/\(x=.rd\/x=.wr)/\g.rd.length<=1000000/\
 ∀b us H',H b=none->bZ H H'->H' b=some (.lst us)->aH H' us ((g.cN p).map pairD)->Q (.ref b) H'
def Rw(l:List (Nat×Rt)):Prop:=∀x∈l,x.2=.rd\/x.2=.wr
def ao8(C:Addr):Sp:=fun vs H Q _=>∃a r q p g,vs=[.ref a]/\gf C H a r q p g/\Rw g.ask/\g.mu<=1000000/\ajO C H a r q p (g.serve p) Q
def awq(C:Addr):Sp:=fun vs H Q _=>∃a r q p g x,∃d:Nat,vs=[.ref a,.int d,.str (Rt.s x)]/\gf C H a r q p g/\(x=.rd\/x=.wr)/\Rw g.ask/\g.mu<=900000/\ajO C H a r q p (g.take p d (.ask p x)) Q
def awr(C:Addr):Sp:=fun vs H Q _=>∃a r q p g o,∃d:Nat,vs=[.ref a,oV o]/\gf C H a r q p g/\(g.miss - 1=0->g.ask≠[])/\Rw g.ask/\g.mu<=900000/\ajO C H a r q p (g.take p d (.ans p o)) Q
def ate(C:Addr):Sp:=fun vs H Q _=>∃a r q p g,∃d:Nat,∃n:Int,vs=[.ref a,.int d,.int n]/\gf C H a r q p g/\ajO C H a r q p (g.take p d (.gave p n)) Q
end gn
namespace gn
open PySem L2
def jN{ι:Type}[DecidableEq ι](A:ι->Addr)(z:ι)(a:Addr):ι->Addr:=fun x=>if x=z then a else A x
theorem c7{ι:Type}[DecidableEq ι](A:ι->Addr)(z:ι)(a:Addr):jN A z a z=a:=by simp[jN]
theorem bI{ι:Type}[DecidableEq ι](A:ι->Addr){z x:ι}(a:Addr)(h:x≠z):jN A z a x=A x:=by simp[jN,h]
theorem Wu{ι:Type}[DecidableEq ι]{A:ι->Addr}{ok ok':ι->Prop}{z:ι}{a:Addr}(hi:∀x y,ok x->ok y->A x=A y->x=y)(hn:∀x,ok x->A x≠a)(ho:∀x,ok' x->x=z\/ok x) :
 ∀x y,ok' x->ok' y->jN A z a x=jN A z a y->x=y:=by
 intro x y hx hy e
 by_cases h1:x=z
 ·by_cases h2:y=z
  ·rw[h1,h2]
  ·rw[h1,c7,bI _ _ h2]at e
   exact absurd e.symm (hn y ((ho y hy).resolve_left h2))
 ·by_cases h2:y=z
  ·rw[h2,c7,bI _ _ h1]at e
   exact absurd e (hn x ((ho x hx).resolve_left h1))
  ·rw[bI _ _ h1,bI _ _ h2]at e
   exact hi x y ((ho x hx).resolve_left h1) ((ho y hy).resolve_left h2) e
inductive Hb where
 | hall | pages | gq (p:Nat) | iV (p:Nat) | jJ (p:Nat)
 deriving DecidableEq
def Hb.ok(m:Nat):Hb->Prop
 | .hall=>True
 | .pages=>True
 | .gq p=>p<m
 | .iV p=>p<m
 | .jJ p=>p<m
def hfl(l:Addr):List (Str×V):=[("pages",.ref l)]
theorem ak0{l:Addr}:(hfl l).lookup ("pages":Str)=some (.ref l):=by kernel_rfl
theorem amJ{l:Addr}:(hfl l).lookup ("take":Str)=none:=by kernel_rfl
theorem amK{l:Addr}:gh "pages" (.ref l) []=hfl l:=by kernel_rfl
structure lN(CH CP:Addr)(H:Hp)(A:Hb->Addr)(m:Nat)(G:Nat->PG):Prop where
 inj:∀x y,x.ok m->y.ok m->A x=A y->x=y
 ob:∃dx,H (A .hall)=some (.ins CH dx (hfl (A .pages)))
 pl:H (A .pages)=some (.lst ((List.range m).map fun p=>V.ref (A (.gq p))))
 pg:∀p,p<m->gf CP H (A (.gq p)) (A (.iV p)) (A (.jJ p)) p (G p)
structure HF(H H':Hp)(A:Hb->Addr)(m:Nat):Prop where
 kp:∀b o,H b=some o->(∀x:Hb,x.ok m->b≠A x)->H' b=some o
 lv:Lv H H'
section
variable{CH CP:Addr}{H H':Hp}{A:Hb->Addr}{m:Nat}{G:Nat->PG}
theorem lN.live(h:lN CH CP H A m G)(x:Hb)(hx:x.ok m):∃o,H (A x)=some o/\∀xs,o≠.tup xs:=by
 cases x with
 | hall=>obtain⟨dx,e⟩:=h.ob;exact⟨_,e,fun _ z=>by cases z⟩
 | pages=>exact⟨_,h.pl,fun _ z=>by cases z⟩
 | gq p=>obtain⟨⟨dx,e⟩,_⟩:=h.pg p hx;exact⟨_,e,fun _ z=>by cases z⟩
 | iV p=>exact⟨_,(h.pg p hx).rl,fun _ z=>by cases z⟩
 | jJ p=>obtain⟨vs,e,_⟩:=(h.pg p hx).al;exact⟨_,e,fun _ z=>by cases z⟩
theorem lN.keep(h:lN CH CP H A m G)(t:b7 H H')(k:∀x:Hb,x.ok m->∀o,H (A x)=some o->H' (A x)=some o):lN CH CP H' A m G:=by
 refine⟨h.inj,?_,k .pages trivial _ h.pl,fun p hp=>(h.pg p hp).keep t (k (.gq p) hp) (k (.iV p) hp) (k (.jJ p) hp)⟩
 obtain⟨dx,e⟩:=h.ob
 exact⟨dx,k .hall trivial _ e⟩
theorem HF.tups(h:lN CH CP H A m G)(f:HF H H' A m):b7 H H':=fun b xs e=>f.kp b _ e fun x hx z=>by
 obtain⟨o,e1,e2⟩:=h.live x hx
 rw[<-z,e]at e1
 exact e2 xs (Option.some.inj e1).symm
theorem lN.page{p:Nat}{g':PG}{r':Addr}(h:lN CH CP H A m G)(hp:p<m)(P:gf CP H' (A (.gq p)) r' (A (.jJ p)) p g')(f:PF H H' (A (.gq p)) (A (.iV p)) (A (.jJ p)))(hr:r'=A (.iV p)\/H r'=none) :
 lN CH CP H' (jN A (.iV p) r') m (aF G p g')/\HF H H' A m:=by
 have tp:=f.tups (h.pg p hp)
 have kk:∀x:Hb,x.ok m->x≠.gq p->x≠.iV p->x≠.jJ p->∀o,H (A x)=some o->H' (A x)=some o:=fun x hx n1 n2 n3 o e =>
  f.kp _ o e (fun z=>n1 (h.inj _ _ hx hp z)) (fun z=>n2 (h.inj _ _ hx hp z)) fun z=>n3 (h.inj _ _ hx hp z)
 refine⟨⟨?_,?_,?_,fun j hj=>?_⟩,⟨fun b o e hn=>f.kp b o e (hn _ hp) (hn (.iV p) hp) (hn (.jJ p) hp),f.lv⟩⟩
 ·intro x y hx hy e
  by_cases h1:x=.iV p
  ·by_cases h2:y=.iV p
   ·rw[h1,h2]
   ·rw[h1,c7,bI _ _ h2]at e
    rcases hr with z | z
    ·rw[z]at e;rw[h1];exact h.inj _ _ hp hy e
    ·obtain⟨o,e1,_⟩:=h.live y hy;rw[<-e,z]at e1;cases e1
  ·by_cases h2:y=.iV p
   ·rw[h2,c7,bI _ _ h1]at e
    rcases hr with z | z
    ·rw[z]at e;rw[h2];exact h.inj _ _ hx hp e
    ·obtain⟨o,e1,_⟩:=h.live x hx;rw[e,z]at e1;cases e1
   ·rw[bI _ _ h1,bI _ _ h2]at e
    exact h.inj _ _ hx hy e
 ·obtain⟨dx,e⟩:=h.ob
  refine⟨dx,?_⟩
  rw[bI _ _ (by intro z;cases z),bI _ _ (by intro z;cases z)]
  exact kk .hall trivial (by intro z;cases z) (by intro z;cases z) (by intro z;cases z) _ e
 ·rw[bI _ _ (by intro z;cases z)]
  have e:=kk .pages trivial (by intro z;cases z) (by intro z;cases z) (by intro z;cases z) _ h.pl
  rw[e]
  congr 2
 ·by_cases e:j=p
  ·subst e
   rw[show jN A (.iV j) r' (.gq j)=A (.gq j)by simp[jN],show jN A (.iV j) r' (.jJ j)=A (.jJ j)by simp[jN],c7,aL]
   exact P
  ·rw[show jN A (.iV p) r' (.gq j)=A (.gq j)by simp[jN],show jN A (.iV p) r' (.jJ j)=A (.jJ j)by simp[jN],show jN A (.iV p) r' (.iV j)=A (.iV j)by simp[jN,e],aY _ _ e]
   exact(h.pg j hj).keep tp (kk (.gq j) hj (by intro z;cases z;exact e rfl) (by intro z;cases z) (by intro z;cases z)) (kk (.iV j) hj (by intro z;cases z) (by intro z;cases z;exact e rfl) (by intro z;cases z)) (kk (.jJ j) hj (by intro z;cases z) (by intro z;cases z) (by intro z;cases z;exact e rfl))
end
def UL.good(g:PG):UL->Prop
 | .ask _ r=>r=.rd\/r=.wr
 | .ans _ _=>g.miss - 1=0->g.ask≠[]
 | .gave _ _=>True
def azF(CH CP:Addr)(H:Hp)(A:Hb->Addr)(m:Nat)(G:Nat->PG)(p:Nat)(z:PG×List (Nat×Let))(Q:VK):Prop :=
 ∀l A' vs H',H l=none->lN CH CP H' A' m (aF G p z.1)->HF H H' A m->(∀x:Hb,x.ok m->A' x=A x\/H (A' x)=none)->(∀x:Hb,x.ok m->l≠A' x)->A' .hall=A .hall->H' l=some (.lst vs)->aH H' vs (z.2.map pairD)->Q (.ref l) H'
def aiA(CH CP:Addr):Sp:=fun vs H Q _=>∃A m G b l,∃d:Nat,vs=[.ref (A .hall),.int d,.ref b]/\lN CH CP H A m G/\H b=some (.tup (UL.vs l))/\l.pg<m/\l.good (G l.pg)/\Rw (G l.pg).ask/\(G l.pg).mu<=900000/\
 azF CH CP H A m G l.pg ((G l.pg).take l.pg d l) Q
def pg0(ns:List Int)(p:Nat):PG:=⟨(ns[p]?).getD 0,none,[],[],0⟩
def aiC(CH CP:Addr):Sp:=fun vs H Q _=>∃h dx l,∃ns:List Int,vs=[.ref h,.ref l]/\H h=some (.ins CH dx [])/\H l=some (.lst (ns.map V.int))/\ns.length<=1000/\
 ∀A H',A .hall=h->(∀x:Hb,x.ok ns.length->x≠.hall->H (A x)=none)->lN CH CP H' A ns.length (pg0 ns)->(∀b o,H b=some o->b≠h->H' b=some o)->Lv H H'->Q .non H'
end gn
namespace gn
open PySem L2
structure T7(n:Nat)(g:PG):Prop where
 w:∀x,g.wr=some x->x<n
 r:∀x∈g.rd,x<n
 q:∀x∈g.ask,x.1<n/\(x.2=.rd\/x.2=.wr)
theorem T7.rw{n:Nat}{g:PG}(h:T7 n g):Rw g.ask:=fun x hx=>(h.q x hx).2
def Let.nice:Let->Prop
 | .lend _ r _=>r=.rd\/r=.wr
 | .back _ r=>r=.rd\/r=.no
def Let.bk(p:Nat):Let->Bool
 | .back q _=>decide (q=(p:Int))
 | .lend _ _ _=>false
def UL.an(p:Nat):UL->Bool
 | .ans q _=>decide (q=p)
 | _=>false
def Il(n p:Nat)(ls:List (Nat×Let)):Prop:=∀q∈ls,q.1<n/\q.2.pg=(p:Int)/\q.2.nice
theorem T7.cN{n:Nat}{g:PG}(h:T7 n g)(p:Nat):Il n p (g.cN p)/\(g.cN p).countP (fun q=>q.2.bk p)=(g.cN p).length:=by
 have key:∀x∈g.cN p,(x.1<n/\x.2.pg=(p:Int)/\x.2.nice)/\x.2.bk p=true:=by
  intro x hx
  unfold PG.cN at hx
  split at hx
  ·cases hx
  ·rename_i a r l ha
   rcases List.mem_append.mp hx with hx | hx
   ·unfold oO at hx
    split at hx
    ·rename_i wv hw
     split at hx
     ·cases hx
     ·have this:=List.mem_singleton.mp hx
      rw[this]
      refine⟨⟨h.w wv hw,rfl,?_⟩,by simp[Let.bk]⟩
      unfold low
      split
      ·exact .inl rfl
      ·exact .inr rfl
    ·cases hx
   ·unfold oR at hx
    split at hx
    ·obtain⟨d,hd,e⟩:=List.mem_map.mp hx
     rw[<-e];exact⟨⟨h.r d (List.mem_filter.mp hd).1,rfl,.inr rfl⟩,by simp[Let.bk]⟩
    ·cases hx
 exact⟨fun x hx=>(key x hx).1,List.countP_eq_length.mpr fun x hx=>(key x hx).2⟩
theorem T7.lent{n:Nat}{g:PG}(h:T7 n g):T7 n g.lent:=by
 unfold PG.lent
 cases e:g.ask with
 | nil=>exact h
 | cons x l =>
   obtain⟨a,r⟩:=x
   have ha:a<n:=(h.q (a,r) (by rw[e];simp)).1
   have hl:∀x∈l,x.1<n/\(x.2=.rd\/x.2=.wr):=fun x hx=>h.q x (by rw[e];exact List.mem_cons_of_mem _ hx)
   have hrs:∀x∈g.rd++g.wr.toList,x<n:=fun x hx=>by
    rcases List.mem_append.mp hx with hx | hx
    ·exact h.r x hx
    ·exact h.w x (by cases hw:g.wr with | none=>rw[hw]at hx;simp at hx | some y=>rw[hw]at hx;simp at hx;rw[hx])
   dsimp only
   split
   ·refine⟨fun x hx=>?_,fun x hx=>by simp[lB]at hx,hl⟩
    have e:a=x:=by simpa[lB] using hx
    rw[<-e];exact ha
   ·refine⟨fun x hx=>by simp[kI]at hx,fun x hx=>?_,hl⟩
    simp only[kI]at hx
    split at hx
    ·exact hrs x hx
    ·rcases List.mem_append.mp hx with hx | hx
     ·exact hrs x hx
     ·have:x=a:=by simpa using hx
      rw[this];exact ha
theorem PG.yr(g:PG):g.lent.miss=g.miss:=by
 unfold PG.lent
 cases g.ask with
 | nil=>rfl
 | cons x l=>obtain⟨a,r⟩:=x;dsimp only;split<;>rfl
theorem T7.dO{n:Nat}{g:PG}(h:T7 n g)(p:Nat):Il n p (g.dO p)/\(g.dO p).countP (fun q=>q.2.bk p)=0:=by
 unfold PG.dO
 cases e:g.ask with
 | nil=>exact⟨fun q hq=>by simp at hq,rfl⟩
 | cons x l =>
   obtain⟨a,r⟩:=x
   have ha:=h.q (a,r) (by rw[e];simp)
   refine⟨fun q hq=>?_,by simp[Let.bk]⟩
   have this:=List.mem_singleton.mp hq
   rw[this]
   exact⟨ha.1,rfl,ha.2⟩
theorem Il.append{n p:Nat}{a b:List (Nat×Let)}(x:Il n p a)(y:Il n p b):Il n p (a++b):=fun q hq=>(List.mem_append.mp hq).elim (x q) (y q)
theorem yt:∀(k:Nat) {n:Nat} {g:PG} (p:Nat),g.ask.length=k->T7 n g->g.miss=0->
 T7 n (g.serve p).1/\Il n p (g.serve p).2/\((g.serve p).2.countP (fun q=>q.2.bk p):Int)=(g.serve p).1.miss/\((g.serve p).1.ask=[]↔(g.serve p).1.miss=0)
 | 0,n,g,p,hk,h,h0=>by
   have e:g.ask=[]:=List.length_eq_zero_iff.mp hk
   rw[yp e]
   exact⟨h,fun q hq=>by simp at hq,by simp[h0],by simp[e,h0]⟩
 | k+1,n,g,p,hk,h,h0=>by
   have e:g.ask≠[]:=fun z=>by rw[z]at hk;simp at hk
   by_cases hb:g.cN p=[]
   ·rw[uc e hb]
    obtain⟨i1,i2,i3,i4⟩:=yt k (n:=n) (g:=g.lent) p (by rw[PG.yo,hk];rfl) h.lent (by rw[PG.yr];exact h0)
    obtain⟨j1,j2⟩:=h.dO p
    exact⟨i1,j1.append i2,by rw[List.countP_append,j2,Nat.zero_add];exact i3,i4⟩
   ·rw[yq e hb]
    obtain⟨j1,j2⟩:=h.cN p
    refine⟨⟨h.w,h.r,h.q⟩,j1,by rw[j2],⟨fun z=>absurd z e,fun z=>?_⟩⟩
    have:(g.cN p).length=0:=by have z':((g.cN p).length:Int)=0:=z;lia
    exact absurd (List.length_eq_zero_iff.mp this) hb
theorem PG.yt{n:Nat}{g:PG}(p:Nat)(h:T7 n g)(h0:g.miss=0) :
 T7 n (g.serve p).1/\Il n p (g.serve p).2/\((g.serve p).2.countP (fun q=>q.2.bk p):Int)=(g.serve p).1.miss/\((g.serve p).1.ask=[]↔(g.serve p).1.miss=0):=gn.yt _ p rfl h h0
theorem aws{A B C D E:Prop}(h:E)(z:A/\B/\C/\D):A/\B/\C/\D/\E:=⟨z.1,z.2.1,z.2.2.1,z.2.2.2,h⟩
theorem PG.amL{n:Nat}{g:PG}{p d:Nat}{l:UL}{c:Nat}(h:T7 n g)(ham:g.ask=[]↔g.miss=0)(hd:d<n)(hr:∀q r,l=.ask q r->r=.rd\/r=.wr)(hp:l.pg=p)(hc:((c+if l.an p then 1 else 0:Nat):Int)=g.miss) :
 T7 n (g.take p d l).1/\Il n p (g.take p d l).2/\(((g.take p d l).2.countP (fun q=>q.2.bk p)+c:Nat):Int)=(g.take p d l).1.miss/\((g.take p d l).1.ask=[]↔(g.take p d l).1.miss=0)/\l.good g:=by
 cases l with
 | ask q r =>
   have hx:=hr q r rfl
   have hc':(c:Int)=g.miss:=by simpa[UL.an] using hc
   refine aws hx ?_
   simp only[PG.take]
   by_cases e:g.ask=[]
   ·rw[if_pos e]
    have h0:=ham.mp e
    obtain⟨i1,i2,i3,i4⟩:=PG.yt (n:=n) (g:={g with ask:=[(d,r)]}) p ⟨h.w,h.r,fun x hx'=>by rw[List.mem_singleton.mp hx'];exact⟨hd,hx⟩⟩ h0
    have c0:c=0:=by lia
    exact⟨i1,i2,by rw[c0];exact i3,i4⟩
   ·rw[if_neg e]
    refine⟨⟨h.w,h.r,fun x hx'=>?_⟩,fun q hq=>by simp at hq,by simpa using hc',⟨fun z=>by simp at z,fun z=>absurd (ham.mpr z) e⟩⟩
    rcases List.mem_append.mp hx' with hx' | hx'
    ·exact h.q x hx'
    ·have:x=(d,r):=by simpa using hx'
     rw[this];exact⟨hd,hx⟩
 | ans q o =>
   have hq:q=p:=hp
   subst hq
   have hc':(c:Int)+1=g.miss:=by simpa[UL.an] using hc
   have hne:g.ask≠[]:=fun z=>by have:=ham.mp z;lia
   refine aws (fun _=>hne) ?_
   simp only[PG.take]
   by_cases e:g.miss - 1=0
   ·rw[if_pos e]
    have hg:T7 n ({g with num:=o.getD g.num,miss:=g.miss - 1}:PG):=⟨h.w,h.r,h.q⟩
    generalize hg2:({g with num:=o.getD g.num,miss:=g.miss - 1}:PG)=g2 at hg
    have hm2:g2.miss=0:=by rw[<-hg2];exact e
    obtain⟨i1,i2,i3,i4⟩:=PG.yt (n:=n) (g:=g2.lent) q hg.lent (by rw[PG.yr];exact hm2)
    obtain⟨j1,j2⟩:=hg.dO q
    have c0:c=0:=by lia
    exact⟨i1,j1.append i2,by rw[c0,List.countP_append,j2,Nat.zero_add,Nat.add_zero];exact i3,i4⟩
   ·rw[if_neg e]
    refine⟨⟨h.w,h.r,h.q⟩,fun q hq=>by simp at hq,?_,⟨fun z=>absurd z hne,fun z=>absurd z e⟩⟩
    show((0+c:Nat):Int)=g.miss - 1
    lia
 | gave q x =>
   have hc':(c:Int)=g.miss:=by simpa[UL.an] using hc
   simp only[PG.take]
   refine⟨⟨fun y hy=>?_,h.r,h.q⟩,fun q hq=>by simp at hq,by simpa using hc',ham,trivial⟩
   dsimp only at hy
   split at hy
   ·cases hy
   ·exact h.w y hy
def agc(n:Nat)(f:Nat->Nat):Nat:=((List.range n).map f).sum
theorem yu(n:Nat)(f:Nat->Nat):agc (n+1) f=agc n f+f n:=by unfold agc;rw[List.range_succ,List.map_append,List.sum_append];simp
theorem aiD{n:Nat}{f g:Nat->Nat}(h:∀e,e<n->f e=g e):agc n f=agc n g:=by
 induction n with
 | zero=>rfl
 | succ n ih=>rw[yu,yu,ih fun e he=>h e (Nat.lt_succ_of_lt he),h n (Nat.lt_succ_self n)]
theorem agd{n d:Nat}{f g:Nat->Nat}(hd:d<n)(h:∀e,e≠d->g e=f e):agc n g+f d=agc n f+g d:=by
 induction n with
 | zero=>exact absurd hd (Nat.not_lt_zero _)
 | succ n ih =>
   rw[yu,yu]
   by_cases e:d=n
   ·subst e
    have:=aiD (n:=d) (f:=g) (g:=f) fun e he=>h e (Nat.ne_of_lt he)
    lia
   ·have h1:=ih (by lia)
    have h2:=h n (Ne.symm e)
    lia
def cnt(n p:Nat)(up:Nat->List UL)(dn:Nat->List Let):Nat:=agc n fun d=>(up d).countP (UL.an p)+(dn d).countP (Let.bk p)
theorem acY{n p d:Nat}{up:Nat->List UL}{dn:Nat->List Let}(hd:d<n)(l:List UL):cnt n p (aF up d l) dn+(up d).countP (UL.an p)=cnt n p up dn+l.countP (UL.an p):=by
 have:=agd (n:=n) (d:=d) (f:=fun d=>(up d).countP (UL.an p)+(dn d).countP (Let.bk p)) (g:=fun e=>(aF up d l e).countP (UL.an p)+(dn e).countP (Let.bk p)) hd fun e he=>by simp only[aY _ _ he]
 simp only[aL]at this
 unfold cnt
 lia
theorem aiE{n p d:Nat}{up:Nat->List UL}{dn:Nat->List Let}(hd:d<n)(l:List Let):cnt n p up (aF dn d l)+(dn d).countP (Let.bk p)=cnt n p up dn+l.countP (Let.bk p):=by
 have:=agd (n:=n) (d:=d) (f:=fun d=>(up d).countP (UL.an p)+(dn d).countP (Let.bk p)) (g:=fun e=>(up e).countP (UL.an p)+(aF dn d l e).countP (Let.bk p)) hd fun e he=>by simp only[aY _ _ he]
 simp only[aL]at this
 unfold cnt
 lia
theorem age{n p:Nat}{up:Nat->List UL}:∀(ls:List (Nat×Let)) {dn:Nat->List Let},(∀q∈ls,q.1<n)->cnt n p up (post dn ls)=cnt n p up dn+ls.countP (fun q=>q.2.bk p)
 | [],dn,_=>by simp[post]
 | x::ls,dn,h=>by
   rw[tQ,age ls fun q hq=>h q (List.mem_cons_of_mem _ hq),List.countP_cons]
   have:=aiE (p:=p) (up:=up) (dn:=dn) (h x (by simp)) (dn x.1++[x.2])
   rw[List.countP_append]at this
   simp only[List.countP_cons,List.countP_nil]at this
   split at this<;>simp_all<;>lia
theorem amM{dn:Nat->List Let}{ls:List (Nat×Let)}{d:Nat}{l:Let}(h:l∈post dn ls d):l∈dn d\/(d,l)∈ls:=by
 induction ls generalizing dn with
 | nil=>exact .inl h
 | cons x ls ih =>
   rw[tQ]at h
   rcases ih h with h | h
   ·by_cases e:d=x.1
    ·subst e
     rw[aL]at h
     rcases List.mem_append.mp h with h | h
     ·exact .inl h
     ·have:l=x.2:=by simpa using h
      exact .inr (by rw[this];exact List.mem_cons_self)
    ·rw[aY _ _ e]at h;exact .inl h
   ·exact .inr (List.mem_cons_of_mem _ h)
structure jx(n m:Nat)(S:TS):Prop where
 pn:∀p,p<m->T7 n (S.pg p)
 am:∀p,p<m->((S.pg p).ask=[]↔(S.pg p).miss=0)
 up:∀d,d<n->∀l∈S.up d,l.pg<m/\∀p r,l=.ask p r->r=.rd\/r=.wr
 dn:∀d,d<n->∀l∈S.dn d,∃p:Nat,p<m/\l.pg=(p:Int)/\l.nice
 ws:∀d,d<n->∀w,(S.ds d).ws=some w->∃p:Nat,p<m/\w.pg=(p:Int)
 ct:∀p,p<m->(cnt n p S.up S.dn:Int)=(S.pg p).miss
theorem jx.take{n m d:Nat}{S:TS}{l:UL}{r:List UL}(I:jx n m S)(hd:d<n)(e:S.up d=l::r):jx n m (S.Xa d l r)/\l.pg<m/\l.good (S.pg l.pg)/\Il n l.pg ((S.pg l.pg).take l.pg d l).2:=by
 obtain⟨hp,hr⟩:=I.up d hd l (by rw[e];simp)
 have hcu:=acY (p:=l.pg) (up:=S.up) (dn:=S.dn) hd r
 have h1:(S.up d).countP (UL.an l.pg)=r.countP (UL.an l.pg)+if l.an l.pg then 1 else 0:=by rw[e,List.countP_cons]
 have hct:=I.ct l.pg hp
 have hcc:((cnt n l.pg (aF S.up d r) S.dn+if l.an l.pg then 1 else 0:Nat):Int)=(S.pg l.pg).miss:=by
  rw[<-hct]
  have:cnt n l.pg (aF S.up d r) S.dn+(if l.an l.pg then 1 else 0)=cnt n l.pg S.up S.dn:=by lia
  rw[this]
 obtain⟨i1,i2,i3,i4,i5⟩:=PG.amL (I.pn l.pg hp) (I.am l.pg hp) hd hr rfl hcc
 refine⟨⟨fun p h=>?_,fun p h=>?_,fun e' he l' hl=>?_,fun e' he l' hl=>?_,I.ws,fun p h=>?_⟩,hp,i5,i2⟩
 ·show T7 n (aF S.pg l.pg _ p)
  by_cases z:p=l.pg
  ·rw[z,aL];exact i1
  ·rw[aY _ _ z];exact I.pn p h
 ·show(aF S.pg l.pg _ p).ask=[]↔(aF S.pg l.pg _ p).miss=0
  by_cases z:p=l.pg
  ·rw[z,aL];exact i4
  ·rw[aY _ _ z];exact I.am p h
 ·have hl':l'∈aF S.up d r e':=hl
  by_cases z:e'=d
  ·rw[z,aL]at hl';exact I.up d hd l' (by rw[e];exact List.mem_cons_of_mem _ hl')
  ·rw[aY _ _ z]at hl';exact I.up e' he l' hl'
 ·rcases amM (show l'∈post S.dn _ e' from hl)with h | h
  ·exact I.dn e' he l' h
  ·obtain⟨_,h2,h3⟩:=i2 _ h
   exact⟨l.pg,hp,h2,h3⟩
 ·show(cnt n p (aF S.up d r) (post S.dn _):Int)=(aF S.pg l.pg _ p).miss
  rw[age _ fun q hq=>(i2 q hq).1]
  by_cases z:p=l.pg
  ·subst z
   rw[aL,<-i3,Nat.add_comm]
  ·rw[aY _ _ z,<-I.ct p h]
   have h2:=acY (p:=p) (up:=S.up) (dn:=S.dn) hd r
   have h3:(S.up d).countP (UL.an p)=r.countP (UL.an p):=by
    rw[e,List.countP_cons]
    have:l.an p=false:=by cases l<;>simp_all [UL.an,UL.pg];lia
    rw[this];simp
   have h4:(((S.pg l.pg).take l.pg d l).2.countP fun q=>q.2.bk p)=0:=by
    rw[List.countP_eq_zero]
    intro q hq hb
    obtain⟨_,h5,_⟩:=i2 q hq
    cases hq2:q.2 with
    | lend a b c=>rw[hq2]at hb;simp[Let.bk]at hb
    | back a b =>
      rw[hq2]at hb h5
      simp only[Let.bk,decide_eq_true_eq]at hb
      have h6:a=(l.pg:Int):=h5
      lia
   rw[h4]
   have:cnt n p (aF S.up d r) S.dn=cnt n p S.up S.dn:=by lia
   rw[this];rfl
theorem jx.jX{n m d:Nat}{S:TS}{z:DS×List Ev×List UL}(I:jx n m S)(hd:d<n)(hu:∀l∈z.2.2,l.pg<m/\∀p r,l=.ask p r->r=.rd\/r=.wr)(hw:∀w,z.1.ws=some w->∃p:Nat,p<m/\w.pg=(p:Int))(ha:∀p,z.2.2.countP (UL.an p)=0):jx n m (S.jX d z):=by
 refine⟨I.pn,I.am,fun e he l hl=>?_,I.dn,fun e he w h=>?_,fun p h=>?_⟩
 ·have hl':l∈aF S.up d (S.up d++z.2.2) e:=hl
  by_cases y:e=d
  ·rw[y,aL]at hl'
   rcases List.mem_append.mp hl' with hl' | hl'
   ·exact I.up d hd l hl'
   ·exact hu l hl'
  ·rw[aY _ _ y]at hl';exact I.up e he l hl'
 ·have h':(aF S.ds d z.1 e).ws=some w:=h
  by_cases y:e=d
  ·rw[y,aL]at h';exact hw w h'
  ·rw[aY _ _ y]at h';exact I.ws e he w h'
 ·show(cnt n p (aF S.up d (S.up d++z.2.2)) S.dn:Int)=(S.pg p).miss
  rw[<-I.ct p h]
  have:=acY (p:=p) (up:=S.up) (dn:=S.dn) hd (S.up d++z.2.2)
  rw[List.countP_append,ha p]at this
  have:cnt n p (aF S.up d (S.up d++z.2.2)) S.dn=cnt n p S.up S.dn:=by lia
  rw[this]
theorem DS.acZ(S:DS)(p:Int)(r:Rt)(x:Int):(S.hold p r x).ws=S.ws:=rfl
theorem DS.ajQ(S:DS)(w:W):(S.done w).ws=S.ws:=by cases w<;>rfl
theorem jx.lg{n m d p:Nat}{S:TS}(I:jx n m S)(hd:d<n)(hp:p<m):jx n m (S.lg d p):=by
 refine I.jX hd ?_ (fun w h=>I.ws d hd w h) fun q=>?_
 ·intro l hl
  have hl':l∈(if(S.ds d).rt p=.wr then [UL.gave p ((S.ds d).nm p)]else []):=hl
  split at hl'
  ·have this:=List.mem_singleton.mp hl'
   rw[this];exact⟨hp,fun _ _ z=>by cases z⟩
  ·cases hl'
 ·show(if(S.ds d).rt p=.wr then [UL.gave p ((S.ds d).nm p)]else []).countP (UL.an q)=0
  split<;>simp[UL.an]
theorem W.ao9(w:W):w.need=.rd\/w.need=.wr:=by cases w<;>simp[W.need]
theorem jx.want{n m d p:Nat}{S:TS}{w:W}(I:jx n m S)(hd:d<n)(hp:p<m)(hw:w.pg=(p:Int)):jx n m (S.jX d ((S.ds d).gZ w p)):=by
 unfold DS.gZ
 split
 ·refine I.jX hd (fun l hl=>by cases hl) (fun w' h=>?_) fun q=>rfl
  have h':((S.ds d).done w).ws=some w':=h
  rw[DS.ajQ]at h'
  exact I.ws d hd w' h'
 ·refine I.jX hd (fun l hl=>?_) (fun w' h=>?_) fun q=>by simp[UL.an]
  ·have this:=List.mem_singleton.mp hl
   rw[this];exact⟨hp,fun q r e=>by cases e;exact w.ao9⟩
  ·have h':some w=some w':=h
   cases h'
   exact⟨p,hp,hw⟩
theorem jx.Ie{n m d:Nat}{S:TS}{l:Let}{r:List Let}(I:jx n m S)(hd:d<n)(e:S.dn d=l::r):jx n m (S.Ie d l r):=by
 obtain⟨p,hp,hlp,hn⟩:=I.dn d hd l (by rw[e];simp)
 have hdn:∀e' ,e'<n->∀l'∈aF S.dn d r e',∃p:Nat,p<m/\l'.pg=(p:Int)/\l'.nice:=fun e' he l' hl=>by
  by_cases y:e'=d
  ·rw[y,aL]at hl;exact I.dn d hd l' (by rw[e];exact List.mem_cons_of_mem _ hl)
  ·rw[aY _ _ y]at hl;exact I.dn e' he l' hl
 cases l with
 | lend q x k =>
   have I1:jx n m {S with dn:=aF S.dn d r}:=⟨I.pn,I.am,I.up,hdn,I.ws,fun p h=>by
    show(cnt n p S.up (aF S.dn d r):Int)=_
    rw[<-I.ct p h]
    have:=aiE (p:=p) (up:=S.up) (dn:=S.dn) hd r
    rw[e,List.countP_cons]at this
    simp[Let.bk]at this
    rw[this]⟩
   refine I1.jX hd (fun l hl=>by cases hl) (fun w h=>?_) fun q=>rfl
   have h':((S.ds d).mC q x k).1.ws=some w:=h
   unfold DS.mC at h'
   cases hws:(S.ds d).ws with
   | none=>rw[hws]at h';rw[DS.acZ,hws]at h';cases h'
   | some w0 =>
     rw[hws]at h'
     dsimp only at h'
     split at h'
     ·rw[DS.ajQ]at h';cases h'
     ·rw[DS.acZ,hws]at h';cases h';exact I.ws d hd _ hws
 | back q x =>
   have hq:q=(p:Int):=hlp
   refine⟨I.pn,I.am,fun e' he l' hl=>?_,hdn,fun e' he w h=>?_,fun p' h=>?_⟩
   ·have hl':l'∈aF S.up d (S.up d++[UL.ans q.toNat ((S.ds d).kY q)]) e':=hl
    by_cases y:e'=d
    ·rw[y,aL]at hl'
     rcases List.mem_append.mp hl' with hl' | hl'
     ·exact I.up d hd l' hl'
     ·have this:=List.mem_singleton.mp hl'
      rw[this];exact⟨by show q.toNat<m;rw[hq];exact hp,fun _ _ z=>by cases z⟩
    ·rw[aY _ _ y]at hl';exact I.up e' he l' hl'
   ·have h':(aF S.ds d ((S.ds d).down q x) e').ws=some w:=h
    by_cases y:e'=d
    ·rw[y,aL]at h'
     refine I.ws d hd w ?_
     unfold DS.down at h'
     split at h'
     ·exact h'
     ·exact h'
    ·rw[aY _ _ y]at h';exact I.ws e' he w h'
   ·show(cnt n p' (aF S.up d (S.up d++[UL.ans q.toNat ((S.ds d).kY q)])) (aF S.dn d r):Int)=(S.pg p').miss
    rw[<-I.ct p' h]
    have h1:=acY (p:=p') (up:=S.up) (dn:=aF S.dn d r) hd (S.up d++[UL.ans q.toNat ((S.ds d).kY q)])
    have h2:=aiE (p:=p') (up:=S.up) (dn:=S.dn) hd r
    rw[List.countP_append]at h1
    rw[e,List.countP_cons]at h2
    have h3:[UL.ans q.toNat ((S.ds d).kY q)].countP (UL.an p')=if(Let.back q x).bk p' then 1 else 0:=by
     rw[hq]
     simp only[List.countP_cons,List.countP_nil,UL.an,Let.bk,Int.toNat_natCast,Nat.zero_add]
     by_cases z:p=p'
     ·subst z;simp
     ·have:¬((p:Int)=(p':Int)):=by lia
      simp[z,this]
    have:cnt n p' (aF S.up d (S.up d++[UL.ans q.toNat ((S.ds d).kY q)])) (aF S.dn d r)=cnt n p' S.up S.dn:=by lia
    rw[this]
theorem jx.step{n m:Nat}{S:TS}(I:jx n m S)(x:cC):jx n m (S.step n m x).1:=by
 cases x with
 | up d =>
   simp only[TS.step]
   split
   ·rename_i h
    have hd:d.toNat<n:=by unfold inR at h;lia
    unfold TS.upD
    cases e:S.up d.toNat with
    | nil=>exact I
    | cons l r=>exact(I.take hd e).1
   ·exact I
 | down d =>
   simp only[TS.step]
   split
   ·rename_i h
    have hd:d.toNat<n:=by unfold inR at h;lia
    unfold TS.Xb
    cases e:S.dn d.toNat with
    | nil=>exact I
    | cons l r=>exact I.Ie hd e
   ·exact I
 | rest d p =>
   simp only[TS.step]
   split
   ·rename_i h
    split
    ·rename_i h2
     split
     ·exact I
     ·exact I.lg (by unfold inR at h;lia) (by unfold inR at h2;lia)
    ·exact I
   ·exact I
 | look d p =>
   simp only[TS.step]
   split
   ·rename_i h
    split
    ·rename_i h2
     unfold TS.wish
     split
     ·exact I
     ·exact I.want (by unfold inR at h;lia) (by unfold inR at h2;lia) (by show p=_;unfold inR at h2;lia)
    ·exact I
   ·exact I
 | put d p x =>
   simp only[TS.step]
   split
   ·rename_i h
    split
    ·rename_i h2
     unfold TS.wish
     split
     ·exact I
     ·exact I.want (by unfold inR at h;lia) (by unfold inR at h2;lia) (by show p=_;unfold inR at h2;lia)
    ·exact I
   ·exact I
end gn
namespace gn
open PySem L2
theorem atf(x:V)(xs:List V):Ql (x::xs) 0=some x:=zM (j:=0) rfl
theorem UL.at1(l:UL):Ql l.vs 1=some (.int l.pg):=by cases l<;>rfl
theorem bM{m p:Nat}{f:Nat->V}(h:p<m):Ql ((List.range m).map f) (p:Int)=some (f p):=zM (by rw[List.getElem?_map,List.getElem?_range h];rfl)
theorem awt{X:Cx}{K:PySem.W.Frag}{r:PySem.W.Frag->R2}(h:IxR X (r X.K))(e:X.K=K):IxR X (r K):=e▸h
theorem aax{X:Cx}{K:PySem.W.Frag}(e:X.K=K):RW X (.builtin "len") (fun xs H Q=>∃p ys,xs=[.ref p]/\(cz K H p ys\/cW K H p ys)/\Q (.int ys.length) H):=by subst e;exact dq
theorem aay{X:Cx}{K:PySem.W.Frag}(e:X.K=K):RW X (.type "list") (fun xs H Q=>∃p ys,xs=[.ref p]/\(cz K H p ys\/cW K H p ys)/\∀l,H l=none->Q (.ref l) (upd H l (.lst ys))):=by subst e;exact sH
theorem apa{X:Cx}{K:PySem.W.Frag}{e:Expr}{f:Str}{pos:Pos}{ta:TE}(hK:X.K=K)(he:PE X e ta)(hb:attributeBase e f X.env (eval e X.env)=eval e X.env):PE X (.Attribute e f pos) (acN K ta f):=by subst hK;exact cL he hb
theorem apb{X:Cx}{K:PySem.W.Frag}{pos:Pos}{es:List Expr}{k:Nat}{t:TGs}{n:Nat}(hK:X.K=K)(hc:X.calm=true)(h:PGs X es t)
 (hn:(assignEach es X.env).length=n:=by rfl) (hst:(assignEach es X.env).findIdx? (·.1)=none:=by rfl):L2.PG X (.Tuple es k pos) (avV K n t):=by subst hK;exact JF hc h hn hst
end gn
namespace gn
open PySem L2
inductive Mb where
 | bA | row | dR | cV | sent | rights | copies | ups | downs
 | rt (d:Nat) | cp (d:Nat) | up (d:Nat) | dn (d:Nat) | bR (p:Nat) | iV (p:Nat) | jJ (p:Nat)
 deriving DecidableEq
def Mb.ok(n m:Nat):Mb->Prop
 | .rt d=>d<n
 | .cp d=>d<n
 | .up d=>d<n
 | .dn d=>d<n
 | .bR p=>p<m
 | .iV p=>p<m
 | .jJ p=>p<m
 | _=>True
def ks(x:Str):Key:=Sum.inr x
def tkv(A:Mb->Addr):List (Key×V):=[(ks "row",.ref (A .row)),(ks "wishes",.ref (A .dR)),(ks "shelves",.ref (A .cV)),(ks "sent",.ref (A .sent)),(ks "rights",.ref (A .rights)),(ks "copies",.ref (A .copies)),(ks "ups",.ref (A .ups)),(ks "downs",.ref (A .downs))]
def wrI:Option Nat->Int
 | none => -1
 | some w=>w
def zG(g:PG)(r q:Addr):List (Key×V):=[(ks "number",.int g.num),(ks "writer",.int (wrI g.wr)),(ks "readers",.ref r),(ks "asked",.ref q),(ks "missing",.int g.miss)]
section
variable{A:Mb->Addr}{g:PG}{r q:Addr}
theorem ajS:fQ (tkv A) (ks "row")=some (.ref (A .row)):=by kernel_rfl
theorem pK:fQ (tkv A) (ks "wishes")=some (.ref (A .dR)):=by kernel_rfl
theorem jY:fQ (tkv A) (ks "shelves")=some (.ref (A .cV)):=by kernel_rfl
theorem agf:fQ (tkv A) (ks "sent")=some (.ref (A .sent)):=by kernel_rfl
theorem lO:fQ (tkv A) (ks "rights")=some (.ref (A .rights)):=by kernel_rfl
theorem uf:fQ (tkv A) (ks "copies")=some (.ref (A .copies)):=by kernel_rfl
theorem Mh:fQ (tkv A) (ks "ups")=some (.ref (A .ups)):=by kernel_rfl
theorem HR:fQ (tkv A) (ks "downs")=some (.ref (A .downs)):=by kernel_rfl
theorem aiF:fQ (zG g r q) (ks "number")=some (.int g.num):=by kernel_rfl
theorem ug:fQ (zG g r q) (ks "writer")=some (.int (wrI g.wr)):=by kernel_rfl
theorem vM:fQ (zG g r q) (ks "readers")=some (.ref r):=by kernel_rfl
theorem HS:fQ (zG g r q) (ks "asked")=some (.ref q):=by kernel_rfl
theorem vN:fQ (zG g r q) (ks "missing")=some (.int g.miss):=by kernel_rfl
theorem Im{n:Int}:putK (zG g r q) (ks "number") (.int n)=zG {g with num:=n} r q:=by kernel_rfl
theorem Ez:putK (zG g r q) (ks "writer") (.int (-1))=zG {g with wr:=none} r q:=by kernel_rfl
theorem Xd{w:Nat}:putK (zG g r q) (ks "writer") (.int w)=zG {g with wr:=some w} r q:=by kernel_rfl
theorem Xe{r':Addr}{l:List Nat}:putK (zG g r q) (ks "readers") (.ref r')=zG {g with rd:=l} r' q:=by kernel_rfl
theorem EY{k:Int}:putK (zG g r q) (ks "missing") (.int k)=zG {g with miss:=k} r q:=by kernel_rfl
theorem vO:(zG g r q).length<sizeLine:=by show 5<sizeLine;decide
end
def MG(A:Mb->Addr)(H:Hp)(n m:Nat)(S:TS)(se:List (Nat×Let)):Mb->HO->Prop
 | .bA,o=>o=.dK (tkv A)
 | .row,o=>∃vs,o=.lst vs/\aH H vs (S.row.map RE.d)
 | .dR,o=>∃vs,o=.lst vs/\vs.length=n/\∀d,d<n->∃v,vs[d]? = some v/\t7 H v (S.ds d).ws
 | .cV,o=>o=.lst ((List.range m).map fun p=>V.ref (A (.bR p)))
 | .sent,o=>∃vs,o=.lst vs/\aH H vs (se.map pairD)
 | .rights,o=>o=.lst ((List.range n).map fun d=>V.ref (A (.rt d)))
 | .copies,o=>o=.lst ((List.range n).map fun d=>V.ref (A (.cp d)))
 | .ups,o=>o=.lst ((List.range n).map fun d=>V.ref (A (.up d)))
 | .downs,o=>o=.lst ((List.range n).map fun d=>V.ref (A (.dn d)))
 | .rt d,o=>o=.lst ((List.range m).map fun p:Nat=>V.str ((S.ds d).rt p).s)
 | .cp d,o=>o=.lst ((List.range m).map fun p:Nat=>V.int ((S.ds d).nm p))
 | .up d,o=>∃vs,o=.lst vs/\aH H vs ((S.up d).map UL.d)
 | .dn d,o=>∃vs,o=.lst vs/\aH H vs ((S.dn d).map Let.d)
 | .bR p,o=>o=.dK (zG (S.pg p) (A (.iV p)) (A (.jJ p)))
 | .iV p,o=>o=.lst ((S.pg p).rd.map nV)
 | .jJ p,o=>∃vs,o=.lst vs/\aH H vs ((S.pg p).ask.map sO)
theorem UL.flat(l:UL):l.d.flat:=by
 cases l with
 | ask p r=>simp[UL.d,D.flat,D.flats]
 | ans p o=>cases o<;>simp[UL.d,oD,D.flat,D.flats]
 | gave p n=>simp[UL.d,D.flat,D.flats]
theorem bL{α:Type}{f:α->D}(h:∀x,(f x).flat)(l:List α):D.flats (l.map f):=by
 induction l with
 | nil=>simp[D.flats]
 | cons x l ih=>simp only[List.map_cons,D.flats];exact⟨h x,ih⟩
theorem RE.flat(e:RE):e.d.flat:=by simp[RE.d,D.flat,D.flats]
theorem MG.mono{A:Mb->Addr}{H H':Hp}{n m:Nat}{S:TS}{se:List (Nat×Let)}(t:b7 H H'){x:Mb}{o:HO}(h:MG A H n m S se x o):MG A H' n m S se x o:=by
 cases x with
 | row=>obtain⟨vs,e,r⟩:=h;exact⟨vs,e,r.aX t (bL RE.flat _)⟩
 | dR=>obtain⟨vs,e,l,k⟩:=h;exact⟨vs,e,l,fun d hd=>by obtain⟨v,e1,e2⟩:=k d hd;exact⟨v,e1,e2.aX t⟩⟩
 | sent=>obtain⟨vs,e,r⟩:=h;exact⟨vs,e,r.aX t (dh _)⟩
 | up d=>obtain⟨vs,e,r⟩:=h;exact⟨vs,e,r.aX t (bL UL.flat _)⟩
 | dn d=>obtain⟨vs,e,r⟩:=h;exact⟨vs,e,r.aX t (bL Let.flat _)⟩
 | jJ p=>obtain⟨vs,e,r⟩:=h;exact⟨vs,e,r.aX t (kJ _)⟩
 | _=>exact h
theorem MG.arw{A:Mb->Addr}{H:Hp}{n m:Nat}{S:TS}{se:List (Nat×Let)}{x:Mb}{o:HO}(h:MG A H n m S se x o):∀xs,o≠.tup xs:=by
 intro xs z
 subst z
 cases x<;>first
  | (obtain⟨vs,e,_⟩:=h;cases e)
  | cases h
structure bh(H:Hp)(A:Mb->Addr)(n m:Nat)(S:TS)(se:List (Nat×Let)):Prop where
 inj:∀x y:Mb,x.ok n m->y.ok n m->A x=A y->x=y
 at_:∀x:Mb,x.ok n m->∃o,H (A x)=some o/\MG A H n m S se x o
structure m6(H H':Hp)(A:Mb->Addr)(n m:Nat):Prop where
 kp:∀b o,H b=some o->(∀x:Mb,x.ok n m->b≠A x)->H' b=some o
 lv:Lv H H'
theorem m6.refl(H:Hp)(A:Mb->Addr)(n m:Nat):m6 H H A n m:=⟨fun _ _ h _=>h,Lv.refl _⟩
def Mv(H:Hp)(A A1:Mb->Addr)(n m:Nat):Prop:=∀x:Mb,x.ok n m->A1 x=A x\/((∃p,x=.iV p)/\H (A1 x)=none)
theorem Mv.refl(H:Hp)(A:Mb->Addr)(n m:Nat):Mv H A A n m:=fun _ _=>.inl rfl
theorem m6.trans{H H1 H2:Hp}{A A1:Mb->Addr}{n m:Nat}(x:m6 H H1 A n m)(y:m6 H1 H2 A1 n m)(h:Mv H A A1 n m):m6 H H2 A n m:=⟨fun b o hb hn=>y.kp b o (x.kp b o hb hn) fun z hz=>by
 rcases h z hz with e | ⟨_,e⟩
 ·rw[e];exact hn z hz
 ·exact aG hb e,x.lv.trans y.lv⟩
theorem Mv.trans{H H1:Hp}{A A1 A2:Mb->Addr}{n m:Nat}(x:Mv H A A1 n m)(l:Lv H H1)(y:Mv H1 A1 A2 n m):Mv H A A2 n m:=fun z hz=>by
 rcases y z hz with e | ⟨i,e⟩
 ·rw[e];exact x z hz
 ·exact .inr ⟨i,l _ e⟩
theorem Mv.bA{H:Hp}{A A1:Mb->Addr}{n m:Nat}(x:Mv H A A1 n m):A1 .bA=A .bA:=(x .bA trivial).elim id fun z=>by obtain⟨⟨p,e⟩,_⟩:=z;cases e
section
variable{H H':Hp}{A:Mb->Addr}{n m:Nat}{S S':TS}{se se':List (Nat×Let)}
theorem bh.keep(M:bh H A n m S se)(t:b7 H H')(k:∀x:Mb,x.ok n m->∀o,H (A x)=some o->H' (A x)=some o):bh H' A n m S se :=
 ⟨M.inj,fun x hx=>by obtain⟨o,e,g⟩:=M.at_ x hx;exact⟨o,k x hx o e,g.mono t⟩⟩
theorem bh.same(M:bh H A n m S se)(s:bZ H H'):bh H' A n m S se:=M.keep (bc s) fun x _ o e=>s _ o e
theorem m6.of_same(s:bZ H H'):m6 H H' A n m:=⟨fun b o e _=>s b o e,Lv.same s⟩
theorem m6.tups(M:bh H A n m S se)(f:m6 H H' A n m):b7 H H':=fun b xs e=>f.kp b _ e fun x hx z=>by
 obtain⟨o,e1,g⟩:=M.at_ x hx
 rw[<-z,e]at e1
 exact g.arw xs (Option.some.inj e1).symm
theorem bh.tup_ne(M:bh H A n m S se){x:Mb}(hx:x.ok n m){b:Addr}{xs:List V}(e:H b=some (.tup xs)):b≠A x:=fun z=>by
 obtain⟨o,e1,g⟩:=M.at_ x hx
 rw[<-z,e]at e1
 exact g.arw xs (Option.some.inj e1).symm
theorem bh.set(M:bh H A n m S se){x:Mb}(hx:x.ok n m){o':HO}(hg:b7 H (upd H (A x) o')->MG A (upd H (A x) o') n m S' se' x o')
 (ho:∀y:Mb,y.ok n m->y≠x->∀o,MG A H n m S se y o->MG A H n m S' se' y o):bh (upd H (A x) o') A n m S' se'/\m6 H (upd H (A x) o') A n m:=by
 have t:b7 H (upd H (A x) o'):=fun b xs e=>by rw[aq (M.tup_ne hx e)];exact e
 refine⟨⟨M.inj,fun y hy=>?_⟩,⟨fun b o e hn=>by rw[aq (hn x hx)];exact e,Lv.upd⟩⟩
 by_cases e:y=x
 ·subst e;exact⟨o',aj,hg t⟩
 ·obtain⟨o,e1,g⟩:=M.at_ y hy
  refine⟨o,?_,(ho y hy e o g).mono t⟩
  rw[aq fun z=>e (M.inj y x hy hx z)]
  exact e1
theorem bh.Fb{x:Mb}(M:bh H A n m S se)(hx:x.ok n m){b:Addr}(h:H b=none):A x≠b:=fun z=>by
 obtain⟨o,e1,_⟩:=M.at_ x hx
 rw[z,h]at e1;cases e1
theorem bh.bA(M:bh H A n m S se):H (A .bA)=some (.dK (tkv A)):=by obtain⟨o,e,g⟩:=M.at_ .bA trivial;rw[e,show o=_ from g]
theorem bh.cV(M:bh H A n m S se):H (A .cV)=some (.lst ((List.range m).map fun p=>V.ref (A (.bR p)))):=by obtain⟨o,e,g⟩:=M.at_ .cV trivial;rw[e,show o=_ from g]
theorem bh.rights(M:bh H A n m S se):H (A .rights)=some (.lst ((List.range n).map fun p=>V.ref (A (.rt p)))):=by obtain⟨o,e,g⟩:=M.at_ .rights trivial;rw[e,show o=_ from g]
theorem bh.copies(M:bh H A n m S se):H (A .copies)=some (.lst ((List.range n).map fun p=>V.ref (A (.cp p)))):=by obtain⟨o,e,g⟩:=M.at_ .copies trivial;rw[e,show o=_ from g]
theorem bh.ups(M:bh H A n m S se):H (A .ups)=some (.lst ((List.range n).map fun p=>V.ref (A (.up p)))):=by obtain⟨o,e,g⟩:=M.at_ .ups trivial;rw[e,show o=_ from g]
theorem bh.downs(M:bh H A n m S se):H (A .downs)=some (.lst ((List.range n).map fun p=>V.ref (A (.dn p)))):=by obtain⟨o,e,g⟩:=M.at_ .downs trivial;rw[e,show o=_ from g]
theorem bh.rt(M:bh H A n m S se){d:Nat}(h:d<n):H (A (.rt d))=some (.lst ((List.range m).map fun p:Nat=>V.str ((S.ds d).rt p).s)):=by obtain⟨o,e,g⟩:=M.at_ (.rt d) h;rw[e,show o=_ from g]
theorem bh.cp(M:bh H A n m S se){d:Nat}(h:d<n):H (A (.cp d))=some (.lst ((List.range m).map fun p:Nat=>V.int ((S.ds d).nm p))):=by obtain⟨o,e,g⟩:=M.at_ (.cp d) h;rw[e,show o=_ from g]
theorem bh.bR(M:bh H A n m S se){p:Nat}(h:p<m):H (A (.bR p))=some (.dK (zG (S.pg p) (A (.iV p)) (A (.jJ p)))):=by obtain⟨o,e,g⟩:=M.at_ (.bR p) h;rw[e,show o=_ from g]
theorem bh.iV(M:bh H A n m S se){p:Nat}(h:p<m):H (A (.iV p))=some (.lst ((S.pg p).rd.map nV)):=by obtain⟨o,e,g⟩:=M.at_ (.iV p) h;rw[e,show o=_ from g]
theorem bh.jJ(M:bh H A n m S se){p:Nat}(h:p<m):∃vs,H (A (.jJ p))=some (.lst vs)/\aH H vs ((S.pg p).ask.map sO):=by obtain⟨o,e,vs,g,r⟩:=M.at_ (.jJ p) h;exact⟨vs,by rw[e,g],r⟩
theorem bh.up(M:bh H A n m S se){d:Nat}(h:d<n):∃vs,H (A (.up d))=some (.lst vs)/\aH H vs ((S.up d).map UL.d):=by obtain⟨o,e,vs,g,r⟩:=M.at_ (.up d) h;exact⟨vs,by rw[e,g],r⟩
theorem bh.dn(M:bh H A n m S se){d:Nat}(h:d<n):∃vs,H (A (.dn d))=some (.lst vs)/\aH H vs ((S.dn d).map Let.d):=by obtain⟨o,e,vs,g,r⟩:=M.at_ (.dn d) h;exact⟨vs,by rw[e,g],r⟩
theorem bh.row(M:bh H A n m S se):∃vs,H (A .row)=some (.lst vs)/\aH H vs (S.row.map RE.d):=by obtain⟨o,e,vs,g,r⟩:=M.at_ .row trivial;exact⟨vs,by rw[e,g],r⟩
theorem bh.sent(M:bh H A n m S se):∃vs,H (A .sent)=some (.lst vs)/\aH H vs (se.map pairD):=by obtain⟨o,e,vs,g,r⟩:=M.at_ .sent trivial;exact⟨vs,by rw[e,g],r⟩
theorem bh.dR(M:bh H A n m S se):∃vs,H (A .dR)=some (.lst vs)/\vs.length=n/\∀d,d<n->∃v,vs[d]? = some v/\t7 H v (S.ds d).ws:=by obtain⟨o,e,vs,g,r⟩:=M.at_ .dR trivial;exact⟨vs,by rw[e,g],r⟩
theorem bh.amN(M:bh H A n m S se){vs:List V}(r:aH H vs (se'.map pairD)):bh (upd H (A .sent) (.lst vs)) A n m S se'/\m6 H (upd H (A .sent) (.lst vs)) A n m :=
 M.set (x:=.sent) trivial (fun t=>⟨vs,rfl,r.aX t (dh _)⟩) fun y _ hn o h=>by cases y<;>first | exact h | exact absurd rfl hn
theorem bh.amO(M:bh H A n m S se){vs:List V}{l:List RE}(r:aH H vs (l.map RE.d)):bh (upd H (A .row) (.lst vs)) A n m {S with row:=l} se/\m6 H (upd H (A .row) (.lst vs)) A n m :=
 M.set (x:=.row) trivial (fun t=>⟨vs,rfl,r.aX t (bL RE.flat _)⟩) fun y _ hn o h=>by cases y<;>first | exact h | exact absurd rfl hn
theorem bh.agg(M:bh H A n m S se){d:Nat}(hd:d<n){vs:List V}{l:List UL}(r:aH H vs (l.map UL.d)):bh (upd H (A (.up d)) (.lst vs)) A n m {S with up:=aF S.up d l} se/\m6 H (upd H (A (.up d)) (.lst vs)) A n m :=
 M.set (x:=.up d) hd (fun t=>⟨vs,rfl,by dsimp only;rw[aL];exact r.aX t (bL UL.flat _)⟩) fun y _ hn o h=>by
  cases y with
  | up e =>
    have hne:e≠d:=fun z=>hn (by rw[z])
    show ∃vs,o=.lst vs/\aH H vs ((aF S.up d l e).map UL.d)
    rw[aY _ _ hne]
    exact h
  | _=>exact h
theorem bh.ak1(M:bh H A n m S se){d:Nat}(hd:d<n){vs:List V}{l:List Let}(r:aH H vs (l.map Let.d)):bh (upd H (A (.dn d)) (.lst vs)) A n m {S with dn:=aF S.dn d l} se/\m6 H (upd H (A (.dn d)) (.lst vs)) A n m :=
 M.set (x:=.dn d) hd (fun t=>⟨vs,rfl,by dsimp only;rw[aL];exact r.aX t (bL Let.flat _)⟩) fun y _ hn o h=>by
  cases y with
  | dn e =>
    have hne:e≠d:=fun z=>hn (by rw[z])
    show ∃vs,o=.lst vs/\aH H vs ((aF S.dn d l e).map Let.d)
    rw[aY _ _ hne]
    exact h
  | _=>exact h
theorem bh.atg(M:bh H A n m S se){d:Nat}(hd:d<n){D':DS}(e1:D'.nm=(S.ds d).nm)(e2:D'.ws=(S.ds d).ws):bh (upd H (A (.rt d)) (.lst ((List.range m).map fun p:Nat=>V.str (D'.rt p).s))) A n m {S with ds:=aF S.ds d D'} se/\m6 H (upd H (A (.rt d)) (.lst ((List.range m).map fun p:Nat=>V.str (D'.rt p).s))) A n m :=
 M.set (x:=.rt d) hd (fun t=>by dsimp only[MG];rw[aL]) fun y hy hn o h=>by
  cases y with
  | rt e =>
    have hne:e≠d:=fun z=>hn (by rw[z])
    show o=.lst ((List.range m).map fun p:Nat=>V.str ((aF S.ds d D' e).rt p).s)
    rw[aY _ _ hne]
    exact h
  | cp e =>
    show o=.lst ((List.range m).map fun p:Nat=>V.int ((aF S.ds d D' e).nm p))
    by_cases z:e=d
    ·rw[z,aL,e1,<-z];exact h
    ·rw[aY _ _ z];exact h
  | dR =>
    obtain⟨vs,g,l,k⟩:=h
    refine⟨vs,g,l,fun e he=>?_⟩
    obtain⟨v,k1,k2⟩:=k e he
    refine⟨v,k1,?_⟩
    show t7 H v (aF S.ds d D' e).ws
    by_cases z:e=d
    ·rw[z,aL,e2,<-z];exact k2
    ·rw[aY _ _ z];exact k2
  | _=>exact h
theorem bh.awu(M:bh H A n m S se){d:Nat}(hd:d<n){D':DS}(e1:D'.rt=(S.ds d).rt)(e2:D'.ws=(S.ds d).ws):bh (upd H (A (.cp d)) (.lst ((List.range m).map fun p:Nat=>V.int (D'.nm p)))) A n m {S with ds:=aF S.ds d D'} se/\m6 H (upd H (A (.cp d)) (.lst ((List.range m).map fun p:Nat=>V.int (D'.nm p)))) A n m :=
 M.set (x:=.cp d) hd (fun t=>by dsimp only[MG];rw[aL]) fun y hy hn o h=>by
  cases y with
  | cp e =>
    have hne:e≠d:=fun z=>hn (by rw[z])
    show o=.lst ((List.range m).map fun p:Nat=>V.int ((aF S.ds d D' e).nm p))
    rw[aY _ _ hne]
    exact h
  | rt e =>
    show o=.lst ((List.range m).map fun p:Nat=>V.str ((aF S.ds d D' e).rt p).s)
    by_cases z:e=d
    ·rw[z,aL,e1,<-z];exact h
    ·rw[aY _ _ z];exact h
  | dR =>
    obtain⟨vs,g,l,k⟩:=h
    refine⟨vs,g,l,fun e he=>?_⟩
    obtain⟨v,k1,k2⟩:=k e he
    refine⟨v,k1,?_⟩
    show t7 H v (aF S.ds d D' e).ws
    by_cases z:e=d
    ·rw[z,aL,e2,<-z];exact k2
    ·rw[aY _ _ z];exact k2
  | _=>exact h
theorem bh.amP(M:bh H A n m S se){d:Nat}(hd:d<n){vs:List V}{v:V}{o:Option W}(hv:H (A .dR)=some (.lst vs))(hw:t7 H v o) :
 bh (upd H (A .dR) (.lst (vs.set d v))) A n m {S with ds:=aF S.ds d {S.ds d with ws:=o}} se/\m6 H (upd H (A .dR) (.lst (vs.set d v))) A n m:=by
 obtain⟨us,h1,h2,h3⟩:=M.dR
 rw[hv]at h1
 cases h1
 refine M.set (x:=.dR) trivial (fun t=>⟨_,rfl,by rw[List.length_set];exact h2,fun e he=>?_⟩) fun y hy hn o' h=>?_
 ·show ∃v',(vs.set d v)[e]? = some v'/\t7 _ v' (aF S.ds d {S.ds d with ws:=o} e).ws
  by_cases z:e=d
  ·subst z
   exact⟨v,by rw[List.getElem?_set_self (by lia)],by rw[aL];exact hw.aX t⟩
  ·obtain⟨v',k1,k2⟩:=h3 e he
   exact⟨v',by rw[List.getElem?_set_ne (Ne.symm z)];exact k1,by rw[aY _ _ z];exact k2.aX t⟩
 ·cases y with
  | dR=>exact absurd rfl hn
  | rt e =>
    show o'=.lst ((List.range m).map fun p:Nat=>V.str ((aF S.ds d {S.ds d with ws:=o} e).rt p).s)
    by_cases z:e=d
    ·rw[z,aL,<-z];exact h
    ·rw[aY _ _ z];exact h
  | cp e =>
    show o'=.lst ((List.range m).map fun p:Nat=>V.int ((aF S.ds d {S.ds d with ws:=o} e).nm p))
    by_cases z:e=d
    ·rw[z,aL,<-z];exact h
    ·rw[aY _ _ z];exact h
  | _=>exact h
theorem bh.zQ(M:bh H A n m S se){p:Nat}(hp:p<m){g:PG}(e1:g.rd=(S.pg p).rd)(e2:g.ask=(S.pg p).ask):bh (upd H (A (.bR p)) (.dK (zG g (A (.iV p)) (A (.jJ p))))) A n m {S with pg:=aF S.pg p g} se/\m6 H (upd H (A (.bR p)) (.dK (zG g (A (.iV p)) (A (.jJ p))))) A n m :=
 M.set (x:=.bR p) hp (fun t=>by dsimp only[MG];rw[aL]) fun y hy hn o h=>by
  cases y with
  | bR e =>
    have hne:e≠p:=fun z=>hn (by rw[z])
    show o=.dK (zG (aF S.pg p g e) _ _)
    rw[aY _ _ hne];exact h
  | iV e =>
    show o=.lst ((aF S.pg p g e).rd.map nV)
    by_cases z:e=p
    ·rw[z,aL,e1,<-z];exact h
    ·rw[aY _ _ z];exact h
  | jJ e =>
    show ∃vs,o=.lst vs/\aH H vs ((aF S.pg p g e).ask.map sO)
    by_cases z:e=p
    ·rw[z,aL,e2,<-z];exact h
    ·rw[aY _ _ z];exact h
  | _=>exact h
theorem bh.arx(M:bh H A n m S se){p:Nat}(hp:p<m){l:List Nat}:bh (upd H (A (.iV p)) (.lst (l.map nV))) A n m {S with pg:=aF S.pg p {S.pg p with rd:=l}} se/\m6 H (upd H (A (.iV p)) (.lst (l.map nV))) A n m :=
 M.set (x:=.iV p) hp (fun t=>by dsimp only[MG];rw[aL]) fun y hy hn o h=>by
  cases y with
  | iV e =>
    have hne:e≠p:=fun z=>hn (by rw[z])
    show o=.lst ((aF S.pg p _ e).rd.map nV)
    rw[aY _ _ hne];exact h
  | bR e =>
    show o=.dK (zG (aF S.pg p _ e) _ _)
    by_cases z:e=p
    ·rw[z,aL,<-z];exact h
    ·rw[aY _ _ z];exact h
  | jJ e =>
    show ∃vs,o=.lst vs/\aH H vs ((aF S.pg p _ e).ask.map sO)
    by_cases z:e=p
    ·rw[z,aL,<-z];exact h
    ·rw[aY _ _ z];exact h
  | _=>exact h
theorem bh.arz(M:bh H A n m S se){p:Nat}(hp:p<m){vs:List V}{l:List (Nat×Rt)}(r:aH H vs (l.map sO)):bh (upd H (A (.jJ p)) (.lst vs)) A n m {S with pg:=aF S.pg p {S.pg p with ask:=l}} se/\m6 H (upd H (A (.jJ p)) (.lst vs)) A n m :=
 M.set (x:=.jJ p) hp (fun t=>⟨vs,rfl,by dsimp only;rw[aL];exact r.aX t (kJ _)⟩) fun y hy hn o h=>by
  cases y with
  | jJ e =>
    have hne:e≠p:=fun z=>hn (by rw[z])
    show ∃vs,o=.lst vs/\aH H vs ((aF S.pg p _ e).ask.map sO)
    rw[aY _ _ hne];exact h
  | bR e =>
    show o=.dK (zG (aF S.pg p _ e) _ _)
    by_cases z:e=p
    ·rw[z,aL,<-z];exact h
    ·rw[aY _ _ z];exact h
  | iV e =>
    show o=.lst ((aF S.pg p _ e).rd.map nV)
    by_cases z:e=p
    ·rw[z,aL,<-z];exact h
    ·rw[aY _ _ z];exact h
  | _=>exact h
theorem bh.move(M:bh H A n m S se){x y:Mb}(hx:x.ok n m)(hy:y.ok n m)(hxy:x≠y){a:Addr}{o o':HO}(ha:H a=none)
 (gx:MG (jN A x a) H n m S' se' x o) (gy:MG (jN A x a) H n m S' se' y o')
 (ho:∀z:Mb,z.ok n m->z≠x->z≠y->∀o,MG A H n m S se z o->MG (jN A x a) H n m S' se' z o) :
 bh (upd (upd H a o) (A y) o') (jN A x a) n m S' se'/\m6 H (upd (upd H a o) (A y) o') A n m/\∀z:Mb,z.ok n m->jN A x a z=A z\/(z=x/\H (jN A x a z)=none):=by
 have na:∀z:Mb,z.ok n m->A z≠a:=fun z hz=>M.Fb hz ha
 have t1:b7 H (upd H a o):=bc (aB ha)
 have t2:b7 H (upd (upd H a o) (A y) o'):=fun b xs e=>by rw[aq (M.tup_ne hy e)];exact t1 b xs e
 refine⟨⟨Wu M.inj na fun z hz=>.inr hz,fun z hz=>?_⟩,⟨fun b u e hn=>?_,Lv.upd.trans Lv.upd⟩,fun z hz=>?_⟩
 ·by_cases e1:z=x
  ·subst e1
   refine⟨o,?_,gx.mono t2⟩
   rw[c7,aq (na y hy).symm,aj]
  ·rw[bI _ _ e1]
   by_cases e2:z=y
   ·subst e2
    exact⟨o',aj,gy.mono t2⟩
   ·obtain⟨u,h1,h2⟩:=M.at_ z hz
    refine⟨u,?_,(ho z hz e1 e2 u h2).mono t2⟩
    rw[aq fun q=>e2 (M.inj z y hz hy q),aq (na z hz)]
    exact h1
 ·rw[aq (hn y hy),aq (aG e ha)];exact e
 ·by_cases e1:z=x
  ·rw[e1,c7];exact .inr ⟨rfl,ha⟩
  ·rw[bI _ _ e1];exact .inl rfl
theorem bh.ath(M:bh H A n m S se){p:Nat}(hp:p<m){a:Addr}(ha:H a=none){l:List Nat} :
 bh (upd (upd H a (.lst (l.map nV))) (A (.bR p)) (.dK (zG {S.pg p with rd:=l} a (A (.jJ p))))) (jN A (.iV p) a) n m {S with pg:=aF S.pg p {S.pg p with rd:=l}} se/\
 m6 H (upd (upd H a (.lst (l.map nV))) (A (.bR p)) (.dK (zG {S.pg p with rd:=l} a (A (.jJ p))))) A n m/\Mv H A (jN A (.iV p) a) n m:=by
 have q:=M.move (S':={S with pg:=aF S.pg p {S.pg p with rd:=l}}) (se':=se) (x:=.iV p) (y:=.bR p) hp hp (by intro z;cases z) ha (o:=.lst (l.map nV)) (o':=.dK (zG {S.pg p with rd:=l} a (A (.jJ p)))) ?_ ?_ fun z hz n1 n2 o h=>?_
 ·exact⟨q.1,q.2.1,fun z hz=>(q.2.2 z hz).imp id fun e=>⟨⟨p,e.1⟩,e.2⟩⟩
 ·dsimp only[MG];rw[aL]
 ·dsimp only[MG];rw[aL,c7,bI _ _ (by intro z;cases z)]
 ·cases z with
  | iV e =>
    have hne:e≠p:=fun z=>n1 (by rw[z])
    show o=.lst ((aF S.pg p _ e).rd.map nV)
    rw[aY _ _ hne];exact h
  | bR e =>
    have hne:e≠p:=fun z=>n2 (by rw[z])
    show o=.dK (zG (aF S.pg p _ e) _ _)
    rw[aY _ _ hne,bI _ _ (by intro z;cases z;exact hne rfl),bI _ _ (by intro z;cases z)];exact h
  | jJ e =>
    show ∃vs,o=.lst vs/\aH H vs ((aF S.pg p _ e).ask.map sO)
    by_cases z:e=p
    ·rw[z,aL,<-z];exact h
    ·rw[aY _ _ z];exact h
  | _=>exact h
end
end gn
namespace gn
open PySem L2
theorem acd:∀(k:Nat) (g:PG) (p:Nat),(pJ k g p).1.mu<=g.mu
 | 0,g,p=>Nat.le_refl _
 | k+1,g,p=>by
   rw[pJ]
   split
   ·exact Nat.le_trans (acd k g.lent p) g.sS
   ·exact Nat.le_refl _
theorem PG.agh(g:PG)(p:Nat):(g.serve p).1.mu<=g.mu:=acd _ g p
theorem aiG(g:PG)(p d:Nat)(x:Rt):(oO g p d x).length<=1:=by
 unfold oO
 split
 ·split<;>simp
 ·simp
theorem ak2(g:PG)(p:Nat):(g.cN p).length<=g.rd.length+1:=by
 unfold PG.cN
 split
 ·simp
 ·rename_i a r l _
  rw[List.length_append]
  have h1:=aiG g p a r
  have h2:(oR g p a r).length<=g.rd.length:=by
   unfold oR
   split
   ·rw[List.length_map];exact List.length_filter_le _ _
   ·simp
  lia
theorem Xf:∀(k:Nat) (g:PG) (p:Nat),(pJ k g p).2.length<=k+g.mu+1
 | 0,g,p=>by simp[pJ]
 | k+1,g,p=>by
   rw[pJ]
   split
   ·have:=Xf k g.lent p
    have h2:=g.sS
    have h3:(g.dO p).length<=1:=by unfold PG.dO;split<;>simp
    simp only[List.length_append]
    lia
   ·have:=ak2 g p
    simp only
    unfold PG.mu
    lia
theorem Xg(g:PG)(p:Nat):(g.serve p).2.length<=2*g.mu+1:=by
 have:=Xf g.ask.length g p
 unfold PG.serve
 have h2:g.ask.length<=g.mu:=by unfold PG.mu;lia
 lia
theorem PG.ajT(g:PG)(p d:Nat)(l:UL):(g.take p d l).1.mu<=g.mu+2/\(g.take p d l).2.length<=2*g.mu+6:=by
 cases l with
 | ask q r =>
   simp only[PG.take]
   split
   ·rename_i e
    have e1:({g with ask:=[(d,r)]}:PG).mu=g.mu+2:=by unfold PG.mu;rw[e];simp
    have h1:=PG.agh {g with ask:=[(d,r)]} p
    have h2:=Xg {g with ask:=[(d,r)]} p
    lia
   ·refine⟨?_,by simp⟩
    unfold PG.mu;simp;lia
 | ans q o =>
   simp only[PG.take]
   split
   ·generalize hg:({g with num:=o.getD g.num,miss:=g.miss - 1}:PG)=g2
    have e1:g2.mu=g.mu:=by rw[<-hg];rfl
    have h1:=PG.agh g2.lent p
    have h2:=Xg g2.lent p
    have h3:=g2.sS
    have h4:(g2.dO p).length<=1:=by unfold PG.dO;split<;>simp
    simp only[List.length_append]
    lia
   ·refine⟨?_,by simp⟩
    show g.mu<=_;lia
 | gave q x =>
   simp only[PG.take]
   refine⟨?_,by simp⟩
   show g.mu<=_;lia
def Bt(t:Nat):Nat:=4*(t*t)+20*t
theorem ajU(t:Nat):Bt (t+1)=Bt t+8*t+24:=by
 by_cases h:True
 ·unfold Bt
  have e:(t+1)*(t+1)=t*t+2*t+1:=by rw[Nat.add_mul,Nat.mul_add];lia
  rw[e];lia
 ·exact absurd trivial h
theorem arA{t:Nat}(h:t<=1500):Bt t<=9030000:=by
 unfold Bt
 have:t*t<=1500*1500:=Nat.mul_le_mul h h
 lia
structure Bd(t:Nat)(S:TS)(se:List (Nat×Let)):Prop where
 mu:∀p,(S.pg p).mu<=2*t
 up:∀d,(S.up d).length<=t
 row:S.row.length<=t
 dn:∀d,(S.dn d).length<=Bt t
 se:se.length<=Bt t
theorem Bd.more{t t':Nat}{S:TS}{se:List (Nat×Let)}(b:Bd t S se)(h:t<=t'):Bd t' S se:=by
 have hm:Bt t<=Bt t':=by unfold Bt;have:=Nat.mul_le_mul h h;lia
 exact⟨fun p=>Nat.le_trans (b.mu p) (by lia),fun d=>Nat.le_trans (b.up d) h,Nat.le_trans b.row h,fun d=>Nat.le_trans (b.dn d) hm,Nat.le_trans b.se hm⟩
def TS.lC(S:TS)(n:Nat):cC->List (Nat×Let)
 | .up d=>if inR d n then(match S.up d.toNat with | []=>[] | l::_=>((S.pg l.pg).take l.pg d.toNat l).2)else []
 | _=>[]
theorem Bd.jX{t d:Nat}{S:TS}{se:List (Nat×Let)}{z:DS×List Ev×List UL}(b:Bd t S se)(h1:z.2.1.length<=1)(h2:z.2.2.length<=1):Bd (t+1) (S.jX d z) se:=by
 have b':=b.more (Nat.le_succ t)
 refine⟨b'.mu,fun e=>?_,?_,b'.dn,b'.se⟩
 ·show(aF S.up d (S.up d++z.2.2) e).length<=_
  by_cases y:e=d
  ·rw[y,aL,List.length_append];have:=b.up d;lia
  ·rw[aY _ _ y];exact b'.up e
 ·show(dg S.row d z.2.1).length<=_
  unfold dg
  rw[List.length_append,List.length_map]
  have:=b.row;lia
theorem DS.mD(S:DS)(w:W)(p:Nat):(S.gZ w p).2.1.length<=1/\(S.gZ w p).2.2.length<=1:=by unfold DS.gZ;split<;>simp
theorem DS.ak3(S:DS)(p:Int)(r:Rt)(x:Int):(S.mC p r x).2.length<=1:=by
 unfold DS.mC
 split
 ·simp
 ·split<;>simp
theorem DS.HW(S:DS)(l:Let):(S.ud l).2.1.length<=1/\(S.ud l).2.2.length<=1:=by
 cases l with
 | lend p r x=>exact⟨S.ak3 p r x,by simp[DS.ud]⟩
 | back p r=>simp[DS.ud]
theorem Bd.step{t n m:Nat}{S:TS}{se:List (Nat×Let)}(b:Bd t S se)(x:cC):Bd (t+1) (S.step n m x).1 (se++S.lC n x):=by
 have b':=b.more (Nat.le_succ t)
 have bn:∀{T:TS},Bd (t+1) T se->Bd (t+1) T (se++[]):=fun {T} h=>by rw[List.append_nil];exact h
 cases x with
 | up d =>
   simp only[TS.step,TS.lC]
   split
   ·unfold TS.upD
    cases e:S.up d.toNat with
    | nil=>exact bn b'
    | cons l r =>
      obtain⟨h1,h2⟩:=(S.pg l.pg).ajT l.pg d.toNat l
      have hm:=b.mu l.pg
      refine⟨fun p=>?_,fun e'=>?_,b'.row,fun e'=>?_,?_⟩
      ·show(aF S.pg l.pg _ p).mu<=_
       by_cases y:p=l.pg
       ·rw[y,aL];lia
       ·rw[aY _ _ y];exact b'.mu p
      ·show(aF S.up d.toNat r e').length<=_
       by_cases y:e'=d.toNat
       ·rw[y,aL];have:=b.up d.toNat;rw[e]at this;simp at this;lia
       ·rw[aY _ _ y];exact b'.up e'
      ·show(post S.dn _ e').length<=_
       have h3:=Mg S.dn ((S.pg l.pg).take l.pg d.toNat l).2 e'
       have h4:=b.dn e'
       rw[ajU];lia
      ·show(se++((S.pg l.pg).take l.pg d.toNat l).2).length<=_
       rw[List.length_append]
       have h4:=b.se
       rw[ajU];lia
   ·exact bn b'
 | down d =>
   simp only[TS.step,TS.lC]
   split
   ·unfold TS.Xb
    cases e:S.dn d.toNat with
    | nil=>exact bn b'
    | cons l r =>
      have b1:Bd t {S with dn:=aF S.dn d.toNat r} se:=⟨b.mu,b.up,b.row,fun e'=>by
       show(aF S.dn d.toNat r e').length<=_
       by_cases y:e'=d.toNat
       ·rw[y,aL];have:=b.dn d.toNat;rw[e]at this;simp at this;lia
       ·rw[aY _ _ y];exact b.dn e',b.se⟩
      exact bn (b1.jX (DS.HW _ _).1 (DS.HW _ _).2)
   ·exact bn b'
 | rest d p =>
   simp only[TS.step,TS.lC]
   refine bn ?_
   split
   ·split
    ·split
     ·exact b'
     ·exact b.jX (by simp) (by dsimp only;split<;>simp)
    ·exact b'
   ·exact b'
 | look d p =>
   simp only[TS.step,TS.lC]
   refine bn ?_
   split
   ·split
    ·unfold TS.wish
     split
     ·exact b'
     ·exact b.jX (DS.mD _ _ _).1 (DS.mD _ _ _).2
    ·exact b'
   ·exact b'
 | put d p y =>
   simp only[TS.step,TS.lC]
   refine bn ?_
   split
   ·split
    ·unfold TS.wish
     split
     ·exact b'
     ·exact b.jX (DS.mD _ _ _).1 (DS.mD _ _ _).2
    ·exact b'
   ·exact b'
end gn
namespace L2
open PySem
variable{X:Cx}
end L2
namespace gn
open PySem L2
theorem Mi{us:List Value}(h:us.length=1):∃a0,us=[a0]:=by
 match us,h with
 | [_],_=>exact⟨_,rfl⟩
theorem jy{us:List Value}(h:us.length=2):∃a0 a1,us=[a0,a1]:=by
 match us,h with
 | [_,_],_=>exact⟨_,_,rfl⟩
theorem JM{us:List Value}(h:us.length=3):∃a0 a1 a2,us=[a0,a1,a2]:=by
 match us,h with
 | [_,_,_],_=>exact⟨_,_,_,rfl⟩
theorem ati{us:List Value}(h:us.length=4):∃a0 a1 a2 a3,us=[a0,a1,a2,a3]:=by
 match us,h with
 | [_,_,_,_],_=>exact⟨_,_,_,_,rfl⟩
end gn
namespace gn
open PySem L2
section
variable{K:PySem.W.Frag}{i j:Nat}{x y v:V}{σ:St}{H:Hp}{Q:VK}{a b:Addr}{xs:List V}{k:Int}
theorem zt(h:σ[i]? = some (some (.ref b)))(hb:cW K H b xs)(hv:Ql xs k=some v)(q:Q v H):WL (ail K) (jj i) (tC (.int k)) σ H Q:=⟨_,h,b,xs,k,v,rfl,rfl,hb,hv,q⟩
theorem zd(h:σ[i]? = some (some (.ref a)))(hd:Ib H a y (some v))(q:Q v H):W2 (jj i) (tC y) σ H Q:=⟨_,h,a,v,rfl,hd,q⟩
theorem T8(h:σ[i]? = some (some (.ref a)))(hd:Ib H a y (some (.ref b)))(hj:σ[j]? = some (some (.int k)))(hl:cz K H b xs)(hv:Ql xs k=some v)(q:Q v H):WL (akO K) (W2 (jj i) (tC y)) (jj j) σ H Q:=⟨_,h,a,_,rfl,hd,_,hj,b,xs,k,v,rfl,rfl,hl,hv,q⟩
theorem zl(hj:σ[j]? = some (some (.int k)))(hl:cz K H b xs)(hv:Ql xs k=some v)(q:Q v H):jj j σ H (fun y H2=>akO K (.ref b) y H2 Q):=⟨_,hj,b,xs,k,v,rfl,rfl,hl,hv,q⟩
end
end gn
namespace gn
open PySem L2
def apc(C X:Addr):Sp:=fun vs H Q E=>∃p d S c a w,vs=[.ref p,.ref a]/\cj C H p d S c/\c<=900000/\H a=some (.tup (W.vs w))/\
 match S.ws with
 | none=>∀v H',cj C H' p d (S.want w).1 (c+2)->DF H H' p d->Rep (nw H H') v (S.want w).2->Q v H'
 | some _=>E (.ref X) none H
def apd(C X:Addr):Sp:=fun vs H Q E=>∃p d S c n,vs=[.ref p,.int n]/\cj C H p d S c/\c<=900000/\
 if S.rt n=.no then E (.ref X) none H else ∀v H',cj C H' p d (S.rest n).1 (c+2)->DF H H' p d->Rep (nw H H') v (S.rest n).2->Q v H'
theorem cj.congr{C:Addr}{H:Hp}{p d:Addr}{S S':DS}{c:Nat}(D:cj C H p d S c)(e1:∀n,S'.rt n=S.rt n)(e2:∀n,S.rt n≠.no->S'.nm n=S.nm n)(e3:S'.ws=S.ws):cj C H p d S' c:=by
 obtain⟨⟨dx,v,h1,h2⟩,⟨kvs,h3,h4,h5⟩⟩:=D
 refine⟨⟨dx,v,h1,by rw[e3];exact h2⟩,⟨kvs,h3,h4,fun n=>?_⟩⟩
 have:=h5 n
 unfold t8 at this ⊢
 rw[e1]
 split
 ·rename_i e;rw[if_pos e]at this;exact this
 ·rename_i e;rw[if_neg e]at this;rw[e2 n e];exact this
theorem Kept.lv{H H':Hp}(h:Kept H H'):Lv H H':=fun _ e=>h.free e
inductive Tb where
 | bA | mF | ups | downs | row | up (d:Nat) | dn (d:Nat) | dk (d:Nat) | cp (d:Nat) | h (x:Hb)
 deriving DecidableEq
def Tb.ok(n m:Nat):Tb->Prop
 | .up d=>d<n
 | .dn d=>d<n
 | .dk d=>d<n
 | .cp d=>d<n
 | .h x=>x.ok m
 | _=>True
def T9(m:Nat)(h d u o r:Addr):List (Str×V):=[("page_count",.int m),("hall",.ref h),("desks",.ref d),("roads_up",.ref u),("roads_down",.ref o),("row",.ref r)]
section
variable{m:Nat}{h d u o r:Addr}
theorem amQ:gh "row" (.ref r) (gh "roads_down" (.ref o) (gh "roads_up" (.ref u) (gh "desks" (.ref d) (gh "hall" (.ref h) (gh "page_count" (.int m) [])))))=T9 m h d u o r:=by kernel_rfl
theorem ak4:(T9 m h d u o r).lookup ("page_count":Str)=some (.int m):=by kernel_rfl
theorem amR:(T9 m h d u o r).lookup ("hall":Str)=some (.ref h):=by kernel_rfl
theorem yw:(T9 m h d u o r).lookup ("desks":Str)=some (.ref d):=by kernel_rfl
theorem ac0:(T9 m h d u o r).lookup ("roads_up":Str)=some (.ref u):=by kernel_rfl
theorem ace:(T9 m h d u o r).lookup ("roads_down":Str)=some (.ref o):=by kernel_rfl
theorem ajV:(T9 m h d u o r).lookup ("row":Str)=some (.ref r):=by kernel_rfl
theorem atj:(T9 m h d u o r).lookup ("check_desk":Str)=none:=by kernel_rfl
theorem aiH:(T9 m h d u o r).lookup ("check_page":Str)=none:=by kernel_rfl
theorem atk:(T9 m h d u o r).lookup ("do_deed":Str)=none:=by kernel_rfl
theorem atl:(T9 m h d u o r).lookup ("look_at":Str)=none:=by kernel_rfl
theorem atm:(T9 m h d u o r).lookup ("put_on":Str)=none:=by kernel_rfl
theorem atn:(T9 m h d u o r).lookup ("give_up":Str)=none:=by kernel_rfl
theorem ato:(T9 m h d u o r).lookup ("bring_up":Str)=none:=by kernel_rfl
theorem atp:(T9 m h d u o r).lookup ("bring_down":Str)=none:=by kernel_rfl
theorem amS:(T9 m h d u o r).lookup ("first_letter":Str)=none:=by kernel_rfl
theorem aiI:(T9 m h d u o r).lookup ("carry_out":Str)=none:=by kernel_rfl
end
structure C4 where
 T:Addr
 D:Addr
 H:Addr
 P:Addr
structure cF(c:C4)(H:Hp)(B:Tb->Addr)(n m:Nat)(S:TS)(k:Nat):Prop where
 inj:∀x y:Tb,x.ok n m->y.ok n m->B x=B y->x=y
 ob:∃dx,H (B .bA)=some (.ins c.T dx (T9 m (B (.h .hall)) (B .mF) (B .ups) (B .downs) (B .row)))
 ds:H (B .mF)=some (.lst ((List.range n).map fun d=>V.ref (B (.dk d))))
 us:H (B .ups)=some (.lst ((List.range n).map fun d=>V.ref (B (.up d))))
 os:H (B .downs)=some (.lst ((List.range n).map fun d=>V.ref (B (.dn d))))
 row:∃vs,H (B .row)=some (.lst vs)/\aH H vs (S.row.map RE.d)
 up:∀d,d<n->∃vs,H (B (.up d))=some (.lst vs)/\aH H vs ((S.up d).map UL.d)
 dn:∀d,d<n->∃vs,H (B (.dn d))=some (.lst vs)/\aH H vs ((S.dn d).map Let.d)
 dk:∀d,d<n->cj c.D H (B (.dk d)) (B (.cp d)) (S.ds d) k
 hl:lN c.H c.P H (fun x=>B (.h x)) m S.pg
structure TF(H H':Hp)(B:Tb->Addr)(n m:Nat):Prop where
 kp:∀b o,H b=some o->(∀x:Tb,x.ok n m->b≠B x)->H' b=some o
 lv:Lv H H'
theorem TF.refl(H:Hp)(B:Tb->Addr)(n m:Nat):TF H H B n m:=⟨fun _ _ h _=>h,Lv.refl _⟩
def Tv(H:Hp)(B B1:Tb->Addr)(n m:Nat):Prop:=∀x:Tb,x.ok n m->B1 x=B x\/H (B1 x)=none
theorem Tv.refl(H:Hp)(B:Tb->Addr)(n m:Nat):Tv H B B n m:=fun _ _=>.inl rfl
theorem TF.trans{H H1 H2:Hp}{B B1:Tb->Addr}{n m:Nat}(x:TF H H1 B n m)(y:TF H1 H2 B1 n m)(h:Tv H B B1 n m):TF H H2 B n m:=⟨fun b o hb hn=>y.kp b o (x.kp b o hb hn) fun z hz=>by
 rcases h z hz with e | e
 ·rw[e];exact hn z hz
 ·exact aG hb e,x.lv.trans y.lv⟩
section
variable{c:C4}{H H':Hp}{B:Tb->Addr}{n m:Nat}{S S':TS}{k k':Nat}
theorem cF.live(T:cF c H B n m S k)(x:Tb)(hx:x.ok n m):∃o,H (B x)=some o/\∀xs,o≠.tup xs:=by
 cases x with
 | bA=>obtain⟨dx,e⟩:=T.ob;exact⟨_,e,fun _ z=>by cases z⟩
 | mF=>exact⟨_,T.ds,fun _ z=>by cases z⟩
 | ups=>exact⟨_,T.us,fun _ z=>by cases z⟩
 | downs=>exact⟨_,T.os,fun _ z=>by cases z⟩
 | row=>obtain⟨vs,e,_⟩:=T.row;exact⟨_,e,fun _ z=>by cases z⟩
 | up d=>obtain⟨vs,e,_⟩:=T.up d hx;exact⟨_,e,fun _ z=>by cases z⟩
 | dn d=>obtain⟨vs,e,_⟩:=T.dn d hx;exact⟨_,e,fun _ z=>by cases z⟩
 | dk d=>obtain⟨⟨dx,v,e,_⟩,_⟩:=T.dk d hx;exact⟨_,e,fun _ z=>by cases z⟩
 | cp d=>obtain⟨_,⟨kvs,e,_⟩⟩:=T.dk d hx;exact⟨_,e,fun _ z=>by cases z⟩
 | h x=>exact T.hl.live x hx
theorem cF.ne(T:cF c H B n m S k){x:Tb}(hx:x.ok n m){b:Addr}(h:H b=none):B x≠b:=fun z=>by
 obtain⟨o,e,_⟩:=T.live x hx
 rw[z,h]at e;cases e
theorem cF.tne(T:cF c H B n m S k){x:Tb}(hx:x.ok n m){b:Addr}{xs:List V}(h:H b=some (.tup xs)):b≠B x:=fun z=>by
 obtain⟨o,e,g⟩:=T.live x hx
 rw[<-z,h]at e;exact g xs (Option.some.inj e).symm
theorem TF.tups(T:cF c H B n m S k)(f:TF H H' B n m):b7 H H':=fun b xs e=>f.kp b _ e fun _ hx=>T.tne hx e
theorem TF.of_same(s:bZ H H'):TF H H' B n m:=⟨fun b o e _=>s b o e,Lv.same s⟩
theorem cF.but(T:cF c H B n m S k)(t:b7 H H')(ch:Tb->Prop)(kp:∀x:Tb,x.ok n m->¬ch x->∀o,H (B x)=some o->H' (B x)=some o)(hk:k<=k')
 (c1:¬ch .bA) (c2:¬ch .mF) (c3:¬ch .ups) (c4:¬ch .downs)
 (row:(¬ch .row/\S'.row=S.row)\/∃vs,H' (B .row)=some (.lst vs)/\aH H' vs (S'.row.map RE.d))
 (up:∀d,d<n->(¬ch (.up d)/\S'.up d=S.up d)\/∃vs,H' (B (.up d))=some (.lst vs)/\aH H' vs ((S'.up d).map UL.d))
 (dn:∀d,d<n->(¬ch (.dn d)/\S'.dn d=S.dn d)\/∃vs,H' (B (.dn d))=some (.lst vs)/\aH H' vs ((S'.dn d).map Let.d))
 (dk:∀d,d<n->(¬ch (.dk d)/\¬ch (.cp d)/\S'.ds d=S.ds d)\/cj c.D H' (B (.dk d)) (B (.cp d)) (S'.ds d) k')
 (hl:((∀x:Hb,¬ch (.h x))/\S'.pg=S.pg)\/lN c.H c.P H' (fun x=>B (.h x)) m S'.pg):cF c H' B n m S' k':=by
 refine⟨T.inj,?_,kp .mF trivial c2 _ T.ds,kp .ups trivial c3 _ T.us,kp .downs trivial c4 _ T.os,?_,fun d hd=>?_,fun d hd=>?_,fun d hd=>?_,?_⟩
 ·obtain⟨dx,e⟩:=T.ob
  exact⟨dx,kp .bA trivial c1 _ e⟩
 ·rcases row with ⟨a,b⟩ | z
  ·obtain⟨vs,e,r⟩:=T.row
   exact⟨vs,kp .row trivial a _ e,by rw[b];exact r.aX t (bL RE.flat _)⟩
  ·exact z
 ·rcases up d hd with ⟨a,b⟩ | z
  ·obtain⟨vs,e,r⟩:=T.up d hd
   exact⟨vs,kp (.up d) hd a _ e,by rw[b];exact r.aX t (bL UL.flat _)⟩
  ·exact z
 ·rcases dn d hd with ⟨a,b⟩ | z
  ·obtain⟨vs,e,r⟩:=T.dn d hd
   exact⟨vs,kp (.dn d) hd a _ e,by rw[b];exact r.aX t (bL Let.flat _)⟩
  ·exact z
 ·rcases dk d hd with ⟨a,a',b⟩ | z
  ·rw[b]
   exact((T.dk d hd).keep t (kp (.dk d) hd a) (kp (.cp d) hd a')).mono hk
  ·exact z
 ·rcases hl with ⟨a,b⟩ | z
  ·rw[b]
   exact T.hl.keep t fun x hx=>kp (.h x) hx (a x)
  ·exact z
theorem cF.keep(T:cF c H B n m S k)(t:b7 H H')(kp:∀x:Tb,x.ok n m->∀o,H (B x)=some o->H' (B x)=some o):cF c H' B n m S k :=
 T.but t (fun _=>False) (fun x hx _=>kp x hx) (Nat.le_refl _) id id id id (.inl ⟨id,rfl⟩) (fun _ _=>.inl ⟨id,rfl⟩) (fun _ _=>.inl ⟨id,rfl⟩) (fun _ _=>.inl ⟨id,id,rfl⟩) (.inl ⟨fun _=>id,rfl⟩)
theorem cF.same(T:cF c H B n m S k)(s:bZ H H'):cF c H' B n m S k:=T.keep (bc s) fun x _ o e=>s _ o e
theorem cF.new{a:Addr}{o:HO}(T:cF c H B n m S k)(h:H a=none):cF c (upd H a o) B n m S k:=T.same (aB h)
theorem cF.more(T:cF c H B n m S k)(h:k<=k'):cF c H B n m S k':={T with dk:=fun d hd=>(T.dk d hd).mono h}
theorem TF.wr{x:Tb}(hx:x.ok n m){o:HO}:TF H (upd H (B x) o) B n m:=⟨fun b u e hn=>by rw[aq (hn x hx)];exact e,Lv.upd⟩
theorem cF.atq(T:cF c H B n m S k){x:Tb}(hx:x.ok n m){o:HO}:b7 H (upd H (B x) o):=fun b xs e=>by rw[aq (T.tne hx e)];exact e
theorem cF.kp1(T:cF c H B n m S k){x:Tb}(hx:x.ok n m){o:HO}:∀y:Tb,y.ok n m->¬y=x->∀u,H (B y)=some u->upd H (B x) o (B y)=some u:=fun y hy hn u e=>by
 rw[aq fun z=>hn (T.inj y x hy hx z)];exact e
theorem cF.amO(T:cF c H B n m S k){vs:List V}{l:List RE}(r:aH H vs (l.map RE.d)):cF c (upd H (B .row) (.lst vs)) B n m {S with row:=l} k :=
 have t:=T.atq (x:=.row) trivial
 T.but t (·=.row) (T.kp1 (x:=.row) trivial) (Nat.le_refl _) nofun nofun nofun nofun (.inr ⟨vs,aj,r.aX t (bL RE.flat _)⟩)
  (fun d _=>.inl ⟨nofun,rfl⟩) (fun d _=>.inl ⟨nofun,rfl⟩) (fun d _=>.inl ⟨nofun,nofun,rfl⟩) (.inl ⟨fun _=>nofun,rfl⟩)
theorem cF.agg(T:cF c H B n m S k){d:Nat}(hd:d<n){vs:List V}{l:List UL}(r:aH H vs (l.map UL.d)):cF c (upd H (B (.up d)) (.lst vs)) B n m {S with up:=aF S.up d l} k :=
 have t:=T.atq (x:=.up d) hd
 T.but t (·=.up d) (T.kp1 (x:=.up d) hd) (Nat.le_refl _) nofun nofun nofun nofun (.inl ⟨nofun,rfl⟩)
  (fun e _=>by
    by_cases y:e=d
    ·subst y;exact .inr ⟨vs,aj,by dsimp only;rw[aL];exact r.aX t (bL UL.flat _)⟩
    ·exact .inl ⟨fun z=>y (by cases z;rfl),aY _ _ y⟩)
  (fun d _=>.inl ⟨nofun,rfl⟩) (fun d _=>.inl ⟨nofun,nofun,rfl⟩) (.inl ⟨fun _=>nofun,rfl⟩)
theorem cF.ak1(T:cF c H B n m S k){d:Nat}(hd:d<n){vs:List V}{l:List Let}(r:aH H vs (l.map Let.d)):cF c (upd H (B (.dn d)) (.lst vs)) B n m {S with dn:=aF S.dn d l} k :=
 have t:=T.atq (x:=.dn d) hd
 T.but t (·=.dn d) (T.kp1 (x:=.dn d) hd) (Nat.le_refl _) nofun nofun nofun nofun (.inl ⟨nofun,rfl⟩)
  (fun d _=>.inl ⟨nofun,rfl⟩)
  (fun e _=>by
    by_cases y:e=d
    ·subst y;exact .inr ⟨vs,aj,by dsimp only;rw[aL];exact r.aX t (bL Let.flat _)⟩
    ·exact .inl ⟨fun z=>y (by cases z;rfl),aY _ _ y⟩)
  (fun d _=>.inl ⟨nofun,nofun,rfl⟩) (.inl ⟨fun _=>nofun,rfl⟩)
theorem cF.jX(T:cF c H B n m S k){d:Nat}(hd:d<n){D':DS}(DA:cj c.D H' (B (.dk d)) (B (.cp d)) D' k')(f:DF H H' (B (.dk d)) (B (.cp d)))(hk:k<=k') :
 cF c H' B n m {S with ds:=aF S.ds d D'} k'/\TF H H' B n m:=by
 have t:=f.tups (T.dk d hd)
 refine⟨T.but t (fun x=>x=.dk d\/x=.cp d) (fun x hx hn o e=>f _ o e (fun z=>hn (.inl (T.inj x (.dk d) hx hd z))) fun z=>hn (.inr (T.inj x (.cp d) hx hd z))) hk (fun z=>z.elim nofun nofun) (fun z=>z.elim nofun nofun) (fun z=>z.elim nofun nofun) (fun z=>z.elim nofun nofun)
  (.inl ⟨fun z=>z.elim nofun nofun,rfl⟩) (fun e _=>.inl ⟨fun z=>z.elim nofun nofun,rfl⟩) (fun e _=>.inl ⟨fun z=>z.elim nofun nofun,rfl⟩) (fun e he=>?_) (.inl ⟨fun _ z=>z.elim nofun nofun,rfl⟩),⟨fun b o e hn=>f b o e (hn (.dk d) hd) (hn (.cp d) hd),((f.kept (T.dk d hd) DA)).lv⟩⟩
 by_cases y:e=d
 ·subst y;exact .inr (by dsimp only;rw[aL];exact DA)
 ·exact .inl ⟨fun z=>z.elim (fun z=>y (Tb.dk.inj z)) nofun,fun z=>z.elim nofun (fun z=>y (Tb.cp.inj z)),aY _ _ y⟩
def mvB(B:Tb->Addr)(A:Hb->Addr):Tb->Addr
 | .h x=>A x
 | x=>B x
theorem cF.hall(T:cF c H B n m S k){A:Hb->Addr}{G:Nat->PG}(HA:lN c.H c.P H' A m G)(f:HF H H' (fun x=>B (.h x)) m)(mv:∀x:Hb,x.ok m->A x=B (.h x)\/H (A x)=none)(eh:A .hall=B (.h .hall)) :
 cF c H' (mvB B A) n m {S with pg:=G} k/\TF H H' B n m/\Tv H B (mvB B A) n m:=by
 have t:b7 H H':=f.tups T.hl
 have kp:∀x:Tb,x.ok n m->(∀y:Hb,x≠.h y)->∀o,H (B x)=some o->H' (B x)=some o:=fun x hx hn o e=>f.kp _ o e fun y hy z=>hn y (T.inj x (.h y) hx hy z)
 refine⟨⟨fun x y hx hy e=>?_,?_,kp .mF trivial (by intro y z;cases z) _ T.ds,kp .ups trivial (by intro y z;cases z) _ T.us,kp .downs trivial (by intro y z;cases z) _ T.os,?_,fun d hd=>?_,fun d hd=>?_,fun d hd=>?_,HA⟩,⟨fun b o e hn=>f.kp b o e fun y hy=>hn (.h y) hy,f.lv⟩,fun x hx=>?_⟩
 ·have key:∀(u:Tb) (v:Hb),u.ok n m->(∀y:Hb,u≠.h y)->v.ok m->B u≠A v:=fun u v hu hn hv z=>by
   rcases mv v hv with q | q
   ·rw[q]at z;exact hn v (T.inj u (.h v) hu hv z)
   ·rw[<-z]at q;obtain⟨o,e,_⟩:=T.live u hu;rw[q]at e;cases e
  cases x with
  | h x'=>cases y with
    | h y'=>rw[HA.inj x' y' hx hy e]
    | _=>exact absurd e.symm (key _ x' hy (by intro y z;cases z) hx)
  | _=>cases y with
    | h y'=>exact absurd e (key _ y' hx (by intro y z;cases z) hy)
    | _=>exact T.inj _ _ hx hy e
 ·obtain⟨dx,e⟩:=T.ob
  refine⟨dx,?_⟩
  have:=kp .bA trivial (by intro y z;cases z) _ e
  rw[<-eh]at this
  exact this
 ·obtain⟨vs,e,r⟩:=T.row
  exact⟨vs,kp .row trivial (by intro y z;cases z) _ e,r.aX t (bL RE.flat _)⟩
 ·obtain⟨vs,e,r⟩:=T.up d hd
  exact⟨vs,kp (.up d) hd (by intro y z;cases z) _ e,r.aX t (bL UL.flat _)⟩
 ·obtain⟨vs,e,r⟩:=T.dn d hd
  exact⟨vs,kp (.dn d) hd (by intro y z;cases z) _ e,r.aX t (bL Let.flat _)⟩
 ·exact(T.dk d hd).keep t (kp (.dk d) hd (by intro y z;cases z)) (kp (.cp d) hd (by intro y z;cases z))
 ·cases x with
  | h y=>exact mv y hx
  | _=>exact .inl rfl
end
end gn
namespace PV
open gn (aF aY Rt)
@[simp] theorem aL {α:Type} (f:Nat->α) (i:Nat) (v:α):aF f i v i=v:=gn.aL f i v
inductive Up where
 | ask (w:Bool) | ans (o:Option Int) | gave (x:Int)
 deriving DecidableEq
inductive Dn where
 | lend (w:Bool) (x:Int) | back (r:Bool)
 deriving DecidableEq
def Up.iu:Up->Bool | .ask _=>true | _=>false
def Up.mG:Up->Bool | .ans _=>true | _=>false
def Up.aiJ:Up->Bool | .gave _=>true | _=>false
def Up.isVal:Up->Bool | .gave _=>true | .ans (some _)=>true | _=>false
def Dn.m7:Dn->Bool | .lend _ _=>true | _=>false
def Dn.jZ:Dn->Bool | .back _=>true | _=>false
structure St where
 rt:Nat->Rt
 cp:Nat->Int
 U:Nat->List Up
 D:Nat->List Dn
 wt:Nat->Option Bool
 num:Int
 wr:Option Nat
 rs:List Nat
 q:List (Nat×Bool)
 ms:Nat
 cur:Int
def okU(x y:Up):Prop:=(x.mG=true->y.aiJ=false)/\(x.iu=true->y.isVal=false)
def okD(x y:Dn):Prop:=x.jZ=true->y.m7=false
def eO(v:St)(i:Nat):Prop:=v.rt i≠.no\/∃w x,Dn.lend w x∈v.D i
def R4(v:St)(i:Nat):Prop:=v.rt i=.wr\/∃x,Dn.lend true x∈v.D i
def Val(v:St)(i:Nat):Prop:=∃x∈v.U i,x.isVal=true
structure Inv(v:St)(b:List Nat):Prop where
 nd:b.Nodup
 len:b.length=v.ms
 c1:∀i,(v.D i).countP Dn.jZ+(v.U i).countP Up.mG=if i∈b then 1 else 0
 c3:∀i,(v.U i).countP Up.iu+v.q.countP (fun x=>x.1 == i)+(v.D i).countP Dn.m7=if(v.wt i).isSome then 1 else 0
 ask:∀i w,Up.ask w∈v.U i->v.wt i=some w
 que:∀i w,(i,w)∈v.q->v.wt i=some w
 lnd:∀i w x,Dn.lend w x∈v.D i->v.wt i=some w/\x=v.cur
 pu:∀i,(v.U i).Pairwise okU
 pd:∀i,(v.D i).Pairwise okD
 hold:∀i,eO v i->v.wr=some i\/i∈v.rs
 wri:∀i,R4 v i->v.wr=some i
 ex:v.wr≠none->v.rs=[]
 rnd:v.rs.Nodup
 s0:v.ms=0->v.q=[]
 s1:v.ms≠0->v.q≠[]
 sa:∀a w r,v.q=(a,w)::r->a∉b
 sw:∀a r,v.q=(a,true)::r->∀i,i≠a->eO v i->∃x,Dn.back x∈v.D i
 sr:∀a r,v.q=(a,false)::r->∀i,i≠a->R4 v i->∃x,Dn.back x∈v.D i
 sv:∀a w r,v.q=(a,w)::r->∀i,i≠a->Val v i->i∈b
 sb:∀a w r,v.q=(a,w)::r->∀i x,Dn.back x∈v.D i->x = !w
 gv:∀i x,Up.gave x∈v.U i->x=v.cur/\v.wr=some i/\v.rt i=.no
 av:∀i x,Up.ans (some x)∈v.U i->x=v.cur/\v.wr=some i/\v.rt i≠.wr
 an:∀i o,Up.ans o∈v.U i->v.rt i≠.wr/\∀w x,Dn.lend w x∉v.D i
 vl:∀i,Val v i->(∀w x,Dn.lend w x∉v.D i)/\∀w,(i,w)∉v.q
 v1:∀i,(v.U i).countP Up.isVal<=1
 nm:(∀i,v.rt i≠.wr)->(∀i,¬Val v i)->v.num=v.cur
 cop:∀i,v.rt i≠.no->v.cp i=v.cur
 wt0:∀i,v.wt i=some false->v.rt i=.no
 wt1:∀i,v.wt i=some true->v.rt i≠.wr
def Fd(v:St)(i:Nat)(w:Bool):St:={v with wt:=aF v.wt i (some w),U:=aF v.U i (v.U i++[.ask w])}
def agi(v:St)(i:Nat):St:={v with rt:=aF v.rt i .no,U:=aF v.U i (if v.rt i=.wr then v.U i++[.gave (v.cp i)]else v.U i)}
def awv(v:St)(i:Nat)(x:Int):St:={v with cp:=aF v.cp i x,cur:=x}
def iU(v:St)(i:Nat)(w:Bool)(x:Int)(r:List Dn)(y:Option Int):St :=
 {v with D:=aF v.D i r,rt:=aF v.rt i (if w then .wr else .rd),wt:=aF v.wt i none,cp:=aF v.cp i (y.getD x),cur:=y.getD v.cur}
def gD(v:St)(i:Nat)(l:Bool)(r:List Dn):St :=
 {v with D:=aF v.D i r,U:=aF v.U i (v.U i++[.ans (if v.rt i=.wr then some (v.cp i)else none)]),rt:=aF v.rt i (if v.rt i=.wr then(if l then .rd else .no)else if l then v.rt i else .no)}
section
variable{v:St}{b:List Nat}{i:Nat}
theorem fV{α:Type}{p:α->Bool}{l:List α}(h:l.countP p=0):∀x∈l,p x=false:=by
 intro x hx
 have:=List.countP_eq_zero.mp h x hx
 simpa using this
theorem Inv.atr(I:Inv v b)(h:v.wt i=none):(v.U i).countP Up.iu=0/\v.q.countP (fun x=>x.1 == i)=0/\(v.D i).countP Dn.m7=0:=by
 have:=I.c3 i
 rw[h]at this
 simp only[Option.isSome_none,Bool.false_eq_true,if_false]at this
 lia
theorem Inv.put(I:Inv v b)(h:v.rt i=.wr)(x:Int):Inv (awv v i x) b:=by
 have hw:v.wr=some i:=I.wri i (.inl h)
 have hr:v.rs=[]:=I.ex (by rw[hw];simp)
 have only:∀j,eO v j->j=i:=fun j hj=>by
  rcases I.hold j hj with z | z
  ·rw[hw]at z;exact(Option.some.inj z).symm
  ·rw[hr]at z;simp at z
 have noL:∀j w y,Dn.lend w y∉v.D j:=fun j w y hl=>by
  have e:=only j (.inr ⟨w,y,hl⟩)
  subst e
  have h1:=I.lnd j w y hl
  cases w with
  | false=>have:=I.wt0 j h1.1;rw[h]at this;cases this
  | true=>exact I.wt1 j h1.1 h
 have noV:∀j,¬Val v j:=fun j ⟨u,hu,hv⟩=>by
  cases u with
  | ask w=>simp[Up.isVal]at hv
  | gave y =>
    have:=I.gv j y hu
    have e:j=i:=by have:=this.2.1;rw[hw]at this;exact(Option.some.inj this).symm
    subst e
    rw[h]at this;exact absurd this.2.2 (by simp)
  | ans o =>
    cases o with
    | none=>simp[Up.isVal]at hv
    | some y =>
      have:=I.av j y hu
      have e:j=i:=by have:=this.2.1;rw[hw]at this;exact(Option.some.inj this).symm
      subst e
      exact absurd h this.2.2
 exact {I with
  lnd:=fun j w y hl=>absurd hl (noL j w y)
  gv:=fun j y hg=>absurd ⟨_,hg,rfl⟩ (noV j)
  av:=fun j y hg=>absurd ⟨_,hg,rfl⟩ (noV j)
  nm:=fun z _=>absurd h (z i)
  cop:=fun j hj=>by
   have e:=only j (.inl hj)
   subst e
   simp[awv]}
theorem arB(h:(v.U i).countP Up.iu=0)(w:Bool):Up.ask w∉v.U i:=fun z=>by simpa[Up.iu] using fV h _ z
theorem ajW(h:(v.D i).countP Dn.m7=0)(w:Bool)(x:Int):Dn.lend w x∉v.D i:=fun z=>by simpa[Dn.m7] using fV h _ z
theorem noQ(h:v.q.countP (fun x=>x.1 == i)=0)(w:Bool):(i,w)∉v.q:=fun z=>by simpa using fV h _ z
theorem Inv.aww(I:Inv v b)(h:v.wt i=none)(w:Bool)(h0:w=false->v.rt i=.no)(h1:w=true->v.rt i≠.wr):Inv (Fd v i w) b:=by
 obtain⟨z1,z2,z3⟩:=I.atr h
 have n1:=arB z1
 have n2:=ajW z3
 have n3:=noQ z2
 have hv:∀j,Val (Fd v i w) j↔Val v j:=fun j=>by
  unfold Val Fd aF
  by_cases e:j=i<;>simp[e,Up.isVal]
 have hh:∀j,eO (Fd v i w) j↔eO v j:=fun j=>Iff.rfl
 have hw:∀j,R4 (Fd v i w) j↔R4 v j:=fun j=>Iff.rfl
 refine⟨I.nd,I.len,fun j=>?_,fun j=>?_,fun j w' hj=>?_,fun j w' hj=>?_,fun j w' x hj=>?_,fun j=>?_,I.pd,I.hold,I.wri,I.ex,I.rnd,I.s0,I.s1,I.sa,I.sw,I.sr,fun a w' r e j hj hv'=>I.sv a w' r e j hj ((hv j).mp hv'),I.sb,fun j x hj=>?_,fun j x hj=>?_,fun j o hj=>?_,fun j hj=>I.vl j ((hv j).mp hj),fun j=>?_,fun a c=>I.nm a fun j z=>c j ((hv j).mpr z),I.cop,fun j hj=>?_,fun j hj=>?_⟩
 ·have:=I.c1 j;dsimp only[Fd,aF]at *;grind[Up.iu,Up.mG]
 ·have:=I.c3 j;dsimp only[Fd,aF]at *;grind[Up.iu]
 ·have:=I.ask j w';dsimp only[Fd,aF]at *;grind[Up.iu]
 ·have:=I.que j w';dsimp only[Fd,aF]at *;grind[Up.iu]
 ·have:=I.lnd j w' x;dsimp only[Fd,aF]at *;grind[Up.iu]
 ·have:=I.pu j;dsimp only[Fd,aF]at *;grind[Up.iu,List.pairwise_append,okU,Up.aiJ,Up.isVal]
 ·have:=I.gv j x;dsimp only[Fd,aF]at *;grind[Up.iu]
 ·have:=I.av j x;dsimp only[Fd,aF]at *;grind[Up.iu]
 ·have:=I.an j o;dsimp only[Fd,aF]at *;grind[Up.iu]
 ·have:=I.v1 j;dsimp only[Fd,aF]at *;grind[Up.iu,Up.isVal]
 ·have:=I.wt0 j;dsimp only[Fd,aF]at *;grind[Up.iu]
 ·have:=I.wt1 j;dsimp only[Fd,aF]at *;grind[Up.iu]
theorem ajX{l:List Up}{x:Up}(h:l.Pairwise okU)(hx:∀a∈l,okU a x):(l++[x]).Pairwise okU:=by
 rw[List.pairwise_append]
 exact⟨h,List.pairwise_singleton _ _,fun a ha y hy=>by rw[List.mem_singleton]at hy;subst hy;exact hx a ha⟩
theorem Mj{x:Int}(h:Up.gave x∈v.U i):Val v i:=⟨_,h,rfl⟩
theorem ajY{x:Int}(h:Up.ans (some x)∈v.U i):Val v i:=⟨_,h,rfl⟩
theorem Inv.agj(I:Inv v b)(h:v.rt i=.wr):(v.U i).countP Up.isVal=0:=by
 rw[List.countP_eq_zero]
 intro u hu hv
 cases u with
 | ask w=>simp[Up.isVal]at hv
 | gave y=>have:=(I.gv i y hu).2.2;rw[h]at this;cases this
 | ans o =>
   cases o with
   | none=>simp[Up.isVal]at hv
   | some y=>exact(I.av i y hu).2.2 h
theorem Inv.agk(I:Inv v b)(h:v.rt i=.wr)(w:Bool):Up.ask w∉v.U i:=fun z=>by
 have:=I.ask i w z
 cases w with
 | false=>have:=I.wt0 i this;rw[h]at this;cases this
 | true=>exact I.wt1 i this h
theorem Inv.amT(I:Inv v b)(h:v.rt i=.wr)(w:Bool):(i,w)∉v.q:=fun z=>by
 have:=I.que i w z
 cases w with
 | false=>have:=I.wt0 i this;rw[h]at this;cases this
 | true=>exact I.wt1 i this h
theorem Inv.atu(I:Inv v b)(h:v.rt i=.wr)(w:Bool)(x:Int):Dn.lend w x∉v.D i:=fun z=>by
 have:=(I.lnd i w x z).1
 cases w with
 | false=>have:=I.wt0 i this;rw[h]at this;cases this
 | true=>exact I.wt1 i this h
theorem Inv.lg(I:Inv v b)(h:v.rt i≠.no):Inv (agi v i) b:=by
 by_cases hw:v.rt i=.wr
 ·have a1:=I.agk hw
  have a2:=I.amT hw
  have a3:=I.atu hw
  have a4:=I.agj hw
  have a5:=I.cop i h
  have a6:=I.wri i (.inl hw)
  have a7:∀o,Up.ans o∉v.U i:=fun o z=>(I.an i o z).1 hw
  have e:agi v i={v with rt:=aF v.rt i .no,U:=aF v.U i (v.U i++[.gave (v.cp i)])}:=by simp[agi,hw]
  rw[e]
  have hv:∀j,Val {v with rt:=aF v.rt i .no,U:=aF v.U i (v.U i++[.gave (v.cp i)])} j↔(Val v j\/j=i):=fun j=>by
   unfold Val aF
   by_cases e:j=i
   ·simp[e,Up.isVal]
   ·simp[e]
  have hh:∀j,eO {v with rt:=aF v.rt i .no,U:=aF v.U i (v.U i++[.gave (v.cp i)])} j->eO v j:=fun j=>by
   unfold eO aF
   dsimp only
   by_cases e:j=i
   ·simp[e,hw]
   ·simp[e]
  have hwr:∀j,R4 {v with rt:=aF v.rt i .no,U:=aF v.U i (v.U i++[.gave (v.cp i)])} j->R4 v j:=fun j=>by
   unfold R4 aF
   dsimp only
   by_cases e:j=i
   ·simp[e,hw]
   ·simp[e]
  refine⟨I.nd,I.len,fun j=>?_,fun j=>?_,fun j w' hj=>?_,I.que,I.lnd,fun j=>?_,I.pd,fun j hj=>I.hold j (hh j hj),fun j hj=>I.wri j (hwr j hj),I.ex,I.rnd,I.s0,I.s1,I.sa,fun a r e j hj z=>I.sw a r e j hj (hh j z),fun a r e j hj z=>I.sr a r e j hj (hwr j z),fun a w' r e j hj z=>?_,I.sb,fun j x hj=>?_,fun j x hj=>?_,fun j o hj=>?_,fun j hj=>?_,fun j=>?_,fun z1 z2=>?_,fun j hj=>?_,fun j hj=>?_,fun j hj=>?_⟩
  ·have:=I.c1 j;dsimp only[aF]at *;grind[Up.mG]
  ·have:=I.c3 j;dsimp only[aF]at *;grind[Up.iu]
  ·have:=I.ask j w';dsimp only[aF]at *;grind
  ·by_cases ej:j=i
   ·subst ej
    simp only[aL]
    refine ajX (I.pu j) fun a ha=>?_
    cases a with
    | ask w=>exact absurd ha (a1 w)
    | ans o=>exact absurd ha (a7 o)
    | gave y=>exact⟨fun z=>by simp[Up.mG]at z,fun z=>by simp[Up.iu]at z⟩
   ·simp only[aY _ _ ej];exact I.pu j
  ·rcases (hv j).mp z with q | q
   ·exact I.sv a w' r e j hj q
   ·subst q
    have z2:∃x,Dn.back x∈v.D j:=by
     cases w' with
     | true=>exact I.sw a r e j hj (.inl h)
     | false=>exact I.sr a r e j hj (.inl hw)
    obtain⟨x,hx⟩:=z2
    have h1:=I.c1 j
    have h2:0<(v.D j).countP Dn.jZ:=List.countP_pos_iff.mpr ⟨_,hx,rfl⟩
    by_cases q:j∈b
    ·exact q
    ·rw[if_neg q]at h1;lia
  ·have:=I.gv j x;dsimp only[aF]at *;grind
  ·have:=I.av j x;dsimp only[aF]at *;grind
  ·have:=I.an j o;dsimp only[aF]at *;grind
  ·rcases (hv j).mp hj with q | q
   ·exact I.vl j q
   ·subst q;exact⟨a3,a2⟩
  ·have:=I.v1 j;dsimp only[aF]at *;grind[Up.isVal]
  ·exact absurd ((hv i).mpr (.inr rfl)) (z2 i)
  ·have:=I.cop j;dsimp only[aF]at *;grind
  ·have:=I.wt0 j;dsimp only[aF]at *;grind
  ·have:=I.wt1 j;dsimp only[aF]at *;grind
 ·have e:agi v i={v with rt:=aF v.rt i .no}:=by
   simp only[agi,if_neg hw]
   congr 1
   funext j
   by_cases e:j=i<;>simp[aF,e]
  rw[e]
  have hh:∀j,eO {v with rt:=aF v.rt i .no} j->eO v j:=fun j=>by
   unfold eO aF
   dsimp only
   by_cases e:j=i
   ·subst e
    simp only[if_true]
    rintro(z | z)
    ·exact absurd rfl z
    ·exact .inr z
   ·simp[e]
  have hwr:∀j,R4 {v with rt:=aF v.rt i .no} j->R4 v j:=fun j=>by
   unfold R4 aF
   dsimp only
   by_cases e:j=i
   ·subst e
    simp only[if_true]
    rintro(z | z)
    ·cases z
    ·exact .inr z
   ·simp[e]
  exact {I with
   hold:=fun j hj=>I.hold j (hh j hj)
   wri:=fun j hj=>I.wri j (hwr j hj)
   sw:=fun a r e j hj z=>I.sw a r e j hj (hh j z)
   sr:=fun a r e j hj z=>I.sr a r e j hj (hwr j z)
   gv:=fun j x hj=>by have:=I.gv j x hj;dsimp only[aF];grind
   av:=fun j x hj=>by have:=I.av j x hj;dsimp only[aF];grind
   an:=fun j o hj=>by have:=I.an j o hj;dsimp only[aF];grind
   nm:=fun z1 z2=>I.nm (fun j hj=>by have:=z1 j;dsimp only[aF]at this;grind) z2
   cop:=fun j hj=>by have:=I.cop j;dsimp only[aF]at hj;grind
   wt0:=fun j hj=>by have:=I.wt0 j hj;dsimp only[aF];grind
   wt1:=fun j hj=>by have:=I.wt1 j hj;dsimp only[aF];grind}
theorem Inv.acg(I:Inv v b){w:Bool}{x:Int}{r:List Dn}(hD:v.D i=.lend w x::r):(∀w' x',Dn.lend w' x'∉r)/\v.wt i=some w/\x=v.cur/\(∀w',Up.ask w'∉v.U i)/\(∀w',(i,w')∉v.q):=by
 have m:Dn.lend w x∈v.D i:=by rw[hD];simp
 have h1:=I.lnd i w x m
 have h3:=I.c3 i
 rw[h1.1,hD,List.countP_cons]at h3
 simp only[Option.isSome_some,if_true,Dn.m7]at h3
 have z1:r.countP Dn.m7=0:=by lia
 have z2:(v.U i).countP Up.iu=0:=by lia
 have z3:v.q.countP (fun x=>x.1 == i)=0:=by lia
 exact⟨fun w' x' z=>by simpa[Dn.m7] using fV z1 _ z,h1.1,h1.2,arB z2,noQ z3⟩
theorem Inv.amU(I:Inv v b){w:Bool}{x:Int}{r:List Dn}(hD:v.D i=.lend w x::r)(y:Option Int)(hy:y.isSome->w=true):Inv (iU v i w x r y) b:=by
 obtain⟨n1,n2,n3,n4,n5⟩:=I.acg hD
 have m:Dn.lend w x∈v.D i:=by rw[hD];simp
 have hH:eO v i:=.inr ⟨w,x,m⟩
 have noV:¬Val v i:=fun z=>(I.vl i z).1 w x m
 have noA:∀o,Up.ans o∉v.U i:=fun o z=>(I.an i o z).2 w x m
 have only:w=true->∀j,eO v j->j=i:=fun hw j hj=>by
  subst hw
  have h1:=I.wri i (.inr ⟨x,m⟩)
  have h2:=I.ex (by rw[h1];simp)
  rcases I.hold j hj with z | z
  ·rw[h1]at z;exact(Option.some.inj z).symm
  ·rw[h2]at z;simp at z
 have amV:w=true->∀j,¬Val v j:=fun hw j hj=>by
  subst hw
  have h1:=I.wri i (.inr ⟨x,m⟩)
  obtain⟨u,hu,hv⟩:=id hj
  have e:j=i:=by
   cases u with
   | ask w=>simp[Up.isVal]at hv
   | gave z=>have:=(I.gv j z hu).2.1;rw[h1]at this;exact(Option.some.inj this).symm
   | ans o =>
     cases o with
     | none=>simp[Up.isVal]at hv
     | some z=>have:=(I.av j z hu).2.1;rw[h1]at this;exact(Option.some.inj this).symm
  subst e
  exact noV hj
 have cur':y.isSome->∀j,(∀w' x',Dn.lend w' x'∈v.D j->j=i)/\¬Val v j:=fun q j=>⟨fun w' x' z=>only (hy q) j (.inr ⟨w',x',z⟩),amV (hy q) j⟩
 have hv:∀j,Val (iU v i w x r y) j↔Val v j:=fun j=>Iff.rfl
 have hh:∀j,eO (iU v i w x r y) j->eO v j:=fun j hj=>by
  by_cases e:j=i
  ·subst e;exact hH
  ·unfold eO iU at hj
   simp only[aY _ _ e]at hj
   exact hj
 have hwr:∀j,R4 (iU v i w x r y) j->R4 v j:=fun j hj=>by
  by_cases e:j=i
  ·subst e
   unfold R4 iU at hj
   simp only[aL]at hj
   cases w with
   | true=>exact .inr ⟨x,m⟩
   | false =>
     rcases hj with z | ⟨x',z⟩
     ·simp at z
     ·exact absurd z (n1 _ _)
  ·unfold R4 iU at hj
   simp only[aY _ _ e]at hj
   exact hj
 have hbk:∀j,(∃l,Dn.back l∈v.D j)->∃l,Dn.back l∈(iU v i w x r y).D j:=fun j ⟨z,hz⟩=>by
  by_cases e:j=i
  ·subst e
   rw[hD]at hz
   refine⟨z,?_⟩
   simp only[iU,aL]
   simpa using hz
  ·exact⟨z,by simpa only[iU,aY _ _ e] using hz⟩
 refine⟨I.nd,I.len,fun j=>?_,fun j=>?_,fun j w' hj=>?_,fun j w' hj=>?_,fun j w' x' hj=>?_,I.pu,fun j=>?_,fun j hj=>I.hold j (hh j hj),fun j hj=>I.wri j (hwr j hj),I.ex,I.rnd,I.s0,I.s1,I.sa,
  fun a r' e j hj z=>hbk j (I.sw a r' e j hj (hh j z)),fun a r' e j hj z=>hbk j (I.sr a r' e j hj (hwr j z)),I.sv,fun a w' r' e j x' hj=>?_,fun j x' hj=>?_,fun j x' hj=>?_,fun j o hj=>?_,fun j hj=>?_,I.v1,fun z1 z2=>?_,fun j hj=>?_,fun j hj=>?_,fun j hj=>?_⟩
 ·have:=I.c1 j;dsimp only[iU,aF]at *;grind[Dn.jZ]
 ·have:=I.c3 j;dsimp only[iU,aF]at *;grind[Dn.m7]
 ·have:=I.ask j w';dsimp only[iU,aF]at *;grind
 ·have:=I.que j w';dsimp only[iU,aF]at *;grind
 ·have:=I.lnd j w' x';have:=cur';dsimp only[iU,aF]at *;cases y<;>grind
 ·have:=I.pd j;dsimp only[iU,aF]at *;grind
 ·have:=I.sb a w' r' e j x';dsimp only[iU,aF]at *;grind
 ·have:=I.gv j x' hj;have:=Mj hj;have:=cur';dsimp only[iU,aF]at *;cases y<;>grind
 ·have:=I.av j x' hj;have:=ajY hj;have:=cur';dsimp only[iU,aF]at *;cases y<;>grind
 ·have:=I.an j o hj;dsimp only[iU,aF]at *;grind
 ·have:=I.vl j hj;dsimp only[iU,aF]at *;grind
 ·cases y with
  | none =>
    refine I.nm (fun j hj=>?_) z2
    have:=z1 j
    dsimp only[iU,aF]at this
    by_cases e:j=i
    ·subst e
     cases w with
     | false=>have:=I.wt0 j n2;rw[hj]at this;cases this
     | true=>exact I.wt1 j n2 hj
    ·rw[if_neg e]at this;exact this hj
  | some z =>
    have:=hy rfl
    have:=z1 i
    dsimp only[iU,aF]at this
    simp_all
 ·have h1:=I.cop j
  have:=only
  dsimp only[iU,aF]at *
  cases y with
  | none=>grind
  | some z =>
    have hw:=hy rfl
    by_cases e:j=i
    ·simp[e]
    ·rw[if_neg e]at hj
     exact absurd (only hw j (.inl hj)) e
 ·have:=I.wt0 j;dsimp only[iU,aF]at *;grind
 ·have:=I.wt1 j;dsimp only[iU,aF]at *;grind
theorem Inv.atw(I:Inv v b){l:Bool}{r:List Dn}(hD:v.D i=.back l::r):Inv (gD v i l r) b:=by
 have m:Dn.back l∈v.D i:=by rw[hD];simp
 have h1:=I.c1 i
 have ib:i∈b:=by
  by_cases q:i∈b
  ·exact q
  ·rw[if_neg q,hD,List.countP_cons]at h1;simp[Dn.jZ]at h1
 have h1':r.countP Dn.jZ=0/\(v.U i).countP Up.mG=0:=by
  rw[if_pos ib,hD,List.countP_cons]at h1
  simp only[Dn.jZ,if_true]at h1
  lia
 have nL:∀w x,Dn.lend w x∉r:=fun w x z=>by
  have:=I.pd i
  rw[hD,List.pairwise_cons]at this
  have:=this.1 _ z rfl
  simp[Dn.m7]at this
 have hq:v.q≠[]:=I.s1 fun z=>by
  have:=I.len
  rw[z]at this
  rw[List.length_eq_zero_iff.mp this]at ib
  simp at ib
 obtain⟨⟨a,w⟩,rest,eq⟩:=List.exists_cons_of_ne_nil hq
 have ia:i≠a:=fun z=>I.sa a w rest eq (z▸ib)
 have el:l = !w:=I.sb a w rest eq i l m
 have nA:=fun o=>(fun z=>by simpa[Up.mG] using fV h1'.2 _ z:Up.ans o∉v.U i)
 have hh:∀j,eO (gD v i l r) j->eO v j/\(j=i->l=true):=fun j hj=>by
  unfold eO gD at hj
  dsimp only[aF]at hj
  unfold eO
  grind
 have hwr:∀j,R4 (gD v i l r) j->R4 v j/\j≠i:=fun j hj=>by
  unfold R4 gD at hj
  dsimp only[aF]at hj
  unfold R4
  grind
 have hv:∀j,Val (gD v i l r) j->Val v j\/(j=i/\v.rt i=.wr):=fun j ⟨u,hu,hv⟩=>by
  unfold gD at hu
  dsimp only[aF]at hu
  by_cases e:j=i
  ·subst e
   rw[if_pos rfl,List.mem_append]at hu
   rcases hu with z | z
   ·exact .inl ⟨u,z,hv⟩
   ·rw[List.mem_singleton]at z
    subst z
    by_cases q:v.rt j=.wr
    ·exact .inr ⟨rfl,q⟩
    ·rw[if_neg q]at hv;simp[Up.isVal]at hv
  ·rw[if_neg e]at hu
   exact .inl ⟨u,hu,hv⟩
 have hv':∀j,Val v j->Val (gD v i l r) j:=fun j ⟨u,hu,hv⟩=>⟨u,by
  unfold gD
  dsimp only[aF]
  by_cases e:j=i
  ·subst e;rw[if_pos rfl];exact List.mem_append_left _ hu
  ·rw[if_neg e];exact hu,hv⟩
 have hbk:∀j,j≠i->(∃l,Dn.back l∈v.D j)->∃l',Dn.back l'∈(gD v i l r).D j:=fun j e ⟨z,hz⟩=>⟨z,by simpa only[gD,aY _ _ e] using hz⟩
 have wv:=I.agj (i:=i)
 have wq:=I.amT (i:=i)
 have wa:=I.agk (i:=i)
 have wc:=I.cop i
 have ww:=I.wri i
 refine⟨I.nd,I.len,fun j=>?_,fun j=>?_,fun j w' hj=>?_,I.que,fun j w' x' hj=>?_,fun j=>?_,fun j=>?_,fun j hj=>I.hold j (hh j hj).1,fun j hj=>I.wri j (hwr j hj).1,I.ex,I.rnd,I.s0,I.s1,I.sa,
  fun a' r' e j hj z=>?_,fun a' r' e j hj z=>hbk j (hwr j z).2 (I.sr a' r' e j hj (hwr j z).1),fun a' w' r' e j hj z=>?_,fun a' w' r' e j x' hj=>?_,fun j x' hj=>?_,fun j x' hj=>?_,fun j o hj=>?_,fun j hj=>?_,fun j=>?_,fun z1 z2=>?_,fun j hj=>?_,fun j hj=>?_,fun j hj=>?_⟩
 ·have:=I.c1 j;dsimp only[gD,aF]at *;grind[Dn.jZ,Up.mG]
 ·have:=I.c3 j;dsimp only[gD,aF]at *;grind[Dn.m7,Up.iu]
 ·have:=I.ask j w';dsimp only[gD,aF]at *;grind
 ·have:=I.lnd j w' x';dsimp only[gD,aF]at *;grind
 ·by_cases ej:j=i
  ·subst ej
   simp only[gD,aL]
   refine ajX (I.pu j) fun y hy=>⟨fun _=>rfl,fun z=>?_⟩
   cases y with
   | ask w =>
     by_cases q:v.rt j=.wr
     ·exact absurd hy (wa q w)
     ·rw[if_neg q];rfl
   | ans o=>simp[Up.iu]at z
   | gave o=>simp[Up.iu]at z
  ·simp only[gD,aY _ _ ej];exact I.pu j
 ·have:=I.pd j;dsimp only[gD,aF]at *;grind
 ·have e':=e
  rw[show(gD v i l r).q=v.q from rfl,eq]at e'
  injection e' with e1 e2
  injection e1 with e1 e3
  have hji:j≠i:=fun q=>by
   have:=(hh j z).2 q
   rw[el,e3]at this
   simp at this
  exact hbk j hji (I.sw a' r' e j hj (hh j z).1)
 ·rcases hv j z with q | ⟨q,_⟩
  ·exact I.sv a' w' r' e j hj q
  ·rw[q];exact ib
 ·have:=I.sb a' w' r' e j x';dsimp only[gD,aF]at *;grind
 ·have:=I.gv j x';dsimp only[gD,aF]at *;grind
 ·have:=I.av j x';have:=wc;have:=ww;dsimp only[gD,aF]at *;unfold R4 at ww;grind
 ·have:=I.an j o;dsimp only[gD,aF]at *;grind
 ·rcases hv j hj with q | ⟨q,q2⟩
  ·have:=I.vl j q;dsimp only[gD,aF]at *;grind
  ·subst q
   refine⟨fun w' x' z=>?_,wq q2⟩
   simp only[gD,aL]at z
   exact nL w' x' z
 ·by_cases ej:j=i
  ·subst ej
   simp only[gD,aL,List.countP_append]
   by_cases q:v.rt j=.wr
   ·rw[wv q];simp[List.countP_cons,q,Up.isVal]
   ·have:=I.v1 j;rw[if_neg q];simpa[List.countP_cons,Up.isVal] using this
  ·simp only[gD,aY _ _ ej];exact I.v1 j
 ·have niw:v.rt i≠.wr:=fun q=>z2 i ⟨.ans (some (v.cp i)),by simp[gD,q],rfl⟩
  refine I.nm (fun j hj=>?_) fun j z=>z2 j (hv' j z)
  by_cases e:j=i
  ·subst e;exact niw hj
  ·have:=z1 j
   simp only[gD,aY _ _ e]at this
   exact this hj
 ·have:=I.cop j;dsimp only[gD,aF]at *;grind
 ·have:=I.wt0 j;dsimp only[gD,aF]at *;grind
 ·have:=I.wt1 j;dsimp only[gD,aF]at *;grind
end
structure Pre(v:St):Prop where
 ms:v.ms=0
 c1:∀i,(∀x,Dn.back x∉v.D i)/\∀o,Up.ans o∉v.U i
 c3:∀i,(v.U i).countP Up.iu+v.q.countP (fun x=>x.1 == i)+(v.D i).countP Dn.m7=if(v.wt i).isSome then 1 else 0
 ask:∀i w,Up.ask w∈v.U i->v.wt i=some w
 que:∀i w,(i,w)∈v.q->v.wt i=some w
 lnd:∀i w x,Dn.lend w x∈v.D i->v.wt i=some w/\x=v.cur
 pu:∀i,(v.U i).Pairwise okU
 hold:∀i,eO v i->v.wr=some i\/i∈v.rs
 wri:∀i,R4 v i->v.wr=some i
 ex:v.wr≠none->v.rs=[]
 rnd:v.rs.Nodup
 gv:∀i x,Up.gave x∈v.U i->x=v.cur/\v.wr=some i/\v.rt i=.no
 vl:∀i,Val v i->(∀w x,Dn.lend w x∉v.D i)/\∀w,(i,w)∉v.q
 v1:∀i,(v.U i).countP Up.isVal<=1
 nm:(∀i,v.rt i≠.wr)->(∀i,¬Val v i)->v.num=v.cur
 cop:∀i,v.rt i≠.no->v.cp i=v.cur
 wt0:∀i,v.wt i=some false->v.rt i=.no
 wt1:∀i,v.wt i=some true->v.rt i≠.wr
section
variable{v:St}{b:List Nat}{i a:Nat}{w:Bool}{rest:List (Nat×Bool)}
theorem m8{α:Type}{p:α->Bool}{l:List α}(h:∀x∈l,p x=false):l.countP p=0:=by
 rw[List.countP_eq_zero];intro x hx;simp[h x hx]
theorem Pre.inv(I:Pre v)(hq:v.q=[]):Inv v []:=by
 have z1:∀i,(v.D i).countP Dn.jZ=0:=fun i=>m8 fun x hx=>by
  cases x with
  | lend w x=>rfl
  | back r=>exact absurd hx ((I.c1 i).1 r)
 have z2:∀i,(v.U i).countP Up.mG=0:=fun i=>m8 fun x hx=>by
  cases x with
  | ans o=>exact absurd hx ((I.c1 i).2 o)
  | ask w=>rfl
  | gave x=>rfl
 refine⟨List.nodup_nil,I.ms.symm,fun i=>by rw[z1,z2];simp,I.c3,I.ask,I.que,I.lnd,I.pu,fun i=>?_,I.hold,I.wri,I.ex,I.rnd,fun _=>hq,fun z=>absurd I.ms z,fun a w r e=>(by rw[hq]at e;cases e),fun a r e=>(by rw[hq]at e;cases e),fun a r e=>(by rw[hq]at e;cases e),fun a w r e=>(by rw[hq]at e;cases e),fun a w r e=>(by rw[hq]at e;cases e),
  I.gv,fun i x hx=>absurd hx ((I.c1 i).2 _),fun i o hx=>absurd hx ((I.c1 i).2 _),I.vl,I.v1,I.nm,I.cop,I.wt0,I.wt1⟩
 rw[List.pairwise_iff_forall_sublist]
 intro x y hxy hb
 cases x with
 | lend w x=>simp[Dn.jZ]at hb
 | back r=>exact absurd (hxy.subset (by simp)) ((I.c1 i).1 r)
def kO(v:St)(a:Nat)(w:Bool)(rest:List (Nat×Bool)):St :=
 {v with q:=rest,D:=aF v.D a (v.D a++[.lend w v.num]),wr:=if w then some a else none,rs:=if w then []else(let r:=v.rs++v.wr.toList;if a∈r then r else r++[a])}
theorem Pre.lend(I:Pre v)(hq:v.q=(a,w)::rest)(h1:w=true->∀i,i≠a->¬eO v i)(h0:w=false->∀i,i≠a->¬R4 v i)(hv:∀i,i≠a->¬Val v i):Pre (kO v a w rest):=by
 have ma:(a,w)∈v.q:=by rw[hq];simp
 have wa:=I.que a w ma
 have nV:∀i,¬Val v i:=fun i z=>by
  by_cases e:i=a
  ·subst e;exact(I.vl i z).2 w ma
  ·exact hv i e z
 have ra:v.rt a≠.wr:=by
  cases w with
  | false=>rw[I.wt0 a wa];simp
  | true=>exact I.wt1 a wa
 have cnt:=I.c3 a
 have cq:v.q.countP (fun x=>x.1 == a)=1+rest.countP (fun x=>x.1 == a):=by rw[hq,List.countP_cons];simp;lia
 rw[wa,cq]at cnt
 simp only[Option.isSome_some,if_true]at cnt
 have nL:∀w x,Dn.lend w x∉v.D a:=ajW (by lia)
 have nWr:∀i,v.rt i≠.wr:=fun i z=>by
  by_cases e:i=a
  ·subst e;exact ra z
  ·cases w with
   | true=>exact h1 rfl i e (.inl (by rw[z];simp))
   | false=>exact h0 rfl i e (.inl z)
 have num:v.num=v.cur:=I.nm nWr nV
 have nWL:∀i x,Dn.lend true x∉v.D i:=fun i x z=>by
  by_cases e:i=a
  ·subst e;exact nL _ _ z
  ·cases w with
   | true=>exact h1 rfl i e (.inr ⟨true,x,z⟩)
   | false=>exact h0 rfl i e (.inr ⟨x,z⟩)
 have mem:∀j w' x',Dn.lend w' x'∈(kO v a w rest).D j->Dn.lend w' x'∈v.D j\/(j=a/\w'=w/\x'=v.num):=fun j w' x' z=>by
  dsimp only[kO,aF]at z;grind
 have hh:∀j,eO (kO v a w rest) j->eO v j\/j=a:=fun j hj=>by
  rcases hj with z | ⟨w',x',z⟩
  ·exact .inl (.inl z)
  ·rcases mem j w' x' z with q | q
   ·exact .inl (.inr ⟨w',x',q⟩)
   ·exact .inr q.1
 have azH:∀j,(v.wr=some j\/j∈v.rs)\/j=a->w=false->j∈(kO v a w rest).rs:=fun j hj hw=>by
  subst hw
  dsimp only[kO]
  rcases hj with (z | z) | z<;>grind
 refine⟨I.ms,fun j=>?_,fun j=>?_,I.ask,fun j w' hj=>I.que j w' (by rw[hq];exact List.mem_cons_of_mem _ hj),fun j w' x' hj=>?_,I.pu,fun j hj=>?_,fun j hj=>?_,fun z=>?_,?_,fun j x hj=>?_,fun j hj=>absurd hj (nV j),I.v1,fun _ _=>num,I.cop,I.wt0,I.wt1⟩
 ·have:=I.c1 j;dsimp only[kO,aF]at *;grind
 ·have:=I.c3 j
  have:v.q.countP (fun x=>x.1 == j)=(if a=j then 1 else 0)+rest.countP (fun x=>x.1 == j):=by
   rw[hq,List.countP_cons]
   by_cases e:a=j<;>simp[e];lia
  dsimp only[kO,aF]at *
  grind[Dn.m7]
 ·rcases mem j w' x' hj with q | ⟨q1,q2,q3⟩
  ·exact I.lnd j w' x' q
  ·subst q1 q2 q3;exact⟨wa,num⟩
 ·cases w with
  | true =>
    left
    rcases hh j hj with z | z
    ·by_cases e:j=a
     ·subst e;rfl
     ·exact absurd z (h1 rfl j e)
    ·subst z;rfl
  | false =>
    right
    refine azH j ?_ rfl
    rcases hh j hj with z | z
    ·exact .inl (I.hold j z)
    ·exact .inr z
 ·rcases hj with z | ⟨x',z⟩
  ·exact absurd z (nWr j)
  ·rcases mem j true x' z with q | ⟨q1,q2,q3⟩
   ·exact absurd q (nWL j x')
   ·subst q1 q2;rfl
 ·cases w with
  | true=>rfl
  | false=>exact absurd rfl z
 ·cases w with
  | true=>exact List.nodup_nil
  | false =>
    dsimp only[kO]
    have:=I.rnd
    have:=I.ex
    cases hw:v.wr with
    | none=>simp;split<;>grind
    | some j =>
      have e:=I.ex (by rw[hw];simp)
      rw[e]
      simp only[List.nil_append,Option.toList_some,Bool.false_eq_true,if_false]
      by_cases q:a=j
      ·simp[q]
      ·have q':¬j=a:=fun z=>q z.symm
       simp[q,q']
 ·exact absurd (Mj hj) (nV j)
def cN(v:St)(a:Nat)(w:Bool):List Nat:=(v.wr.toList.filter fun d=>decide (d≠a))++(if w then v.rs.filter fun d=>decide (d≠a)else [])
def lJ(v:St)(a:Nat)(w:Bool):St:={v with ms:=(cN v a w).length,D:=fun i=>if i∈cN v a w then v.D i++[.back (!w)]else v.D i}
theorem agl{j:Nat}:j∈cN v a w↔j≠a/\(v.wr=some j\/(w=true/\j∈v.rs)):=by
 unfold cN
 cases w<;>simp<;>grind
theorem Pre.Xh(I:Pre v):(cN v a w).Nodup:=by
 unfold cN
 have h1:=I.rnd
 cases hw:v.wr with
 | none =>
   cases w with
   | false=>simp
   | true=>simpa using h1.sublist List.filter_sublist
 | some j =>
   have e:=I.ex (by rw[hw];simp)
   rw[e]
   cases w<;>simp<;>(by_cases q:j=a<;>simp[q,List.filter_cons])
theorem Pre.bid(I:Pre v)(hq:v.q=(a,w)::rest)(hb:cN v a w≠[]):Inv (lJ v a w) (cN v a w):=by
 have bm:=fun j => @agl v a w j
 have nd:=I.Xh (a:=a) (w:=w)
 have hlen:(cN v a w).length≠0:=fun z=>hb (List.length_eq_zero_iff.mp z)
 generalize hB:cN v a w=B at *
 have eD:∀j,(lJ v a w).D j=if j∈B then v.D j++[.back (!w)]else v.D j:=fun j=>by simp[lJ,hB]
 have mL:∀j w' x',Dn.lend w' x'∈(lJ v a w).D j↔Dn.lend w' x'∈v.D j:=fun j w' x'=>by rw[eD];split<;>simp
 have mB:∀j x',Dn.back x'∈(lJ v a w).D j↔j∈B/\x' = !w:=fun j x'=>by
  have:=(I.c1 j).1 x'
  rw[eD]
  by_cases e:j∈B<;>simp[e,this]
 have hh:∀j,eO (lJ v a w) j↔eO v j:=fun j=>by unfold eO;simp only[mL];rfl
 have hwr:∀j,R4 (lJ v a w) j↔R4 v j:=fun j=>by unfold R4;simp only[mL];rfl
 have z1:∀i,(v.D i).countP Dn.jZ=0:=fun i=>m8 fun x hx=>by
  cases x with
  | lend w x=>rfl
  | back r=>exact absurd hx ((I.c1 i).1 r)
 have z2:∀i,(v.U i).countP Up.mG=0:=fun i=>m8 fun x hx=>by
  cases x with
  | ans o=>exact absurd hx ((I.c1 i).2 o)
  | ask w=>rfl
  | gave x=>rfl
 have qe:∀a' w' r',v.q=(a',w')::r'->a'=a/\w'=w:=fun a' w' r' e=>by rw[hq]at e;injection e with e _;injection e with e1 e2;exact⟨e1.symm,e2.symm⟩
 have em:(lJ v a w).ms=B.length:=by simp[lJ,hB]
 refine⟨nd,em.symm,fun j=>?_,fun j=>?_,I.ask,I.que,fun j w' x' hj=>I.lnd j w' x' ((mL j w' x').mp hj),I.pu,fun j=>?_,fun j hj=>I.hold j ((hh j).mp hj),fun j hj=>I.wri j ((hwr j).mp hj),I.ex,I.rnd,fun z=>absurd (em.symm.trans z) hlen,fun _=>by rw[show(lJ v a w).q=v.q from rfl,hq];simp,fun a' w' r' e=>?_,
  fun a' r' e j hj z=>?_,fun a' r' e j hj z=>?_,fun a' w' r' e j hj z=>?_,fun a' w' r' e j x' hj=>?_,I.gv,fun j x' hj=>absurd hj ((I.c1 j).2 _),fun j o hj=>absurd hj ((I.c1 j).2 _),fun j hj=>?_,I.v1,I.nm,I.cop,I.wt0,I.wt1⟩
 ·rw[eD]
  show _+(v.U j).countP _=_
  rw[z2]
  by_cases e:j∈B<;>simp[e,z1,Dn.jZ]
 ·have:=I.c3 j
  rw[eD]
  show(v.U j).countP _+v.q.countP _+_=if(v.wt j).isSome then 1 else 0
  rw[<-this]
  by_cases e:j∈B<;>simp[e,Dn.m7]
 ·rw[eD]
  have p:(v.D j).Pairwise okD:=by
   rw[List.pairwise_iff_forall_sublist]
   intro x y hxy hb
   cases x with
   | lend w x=>simp[Dn.jZ]at hb
   | back r=>exact absurd (hxy.subset (by simp)) ((I.c1 j).1 r)
  split
  ·rw[List.pairwise_append]
   exact⟨p,List.pairwise_singleton _ _,fun x _ y hy _=>by rw[List.mem_singleton]at hy;subst hy;rfl⟩
  ·exact p
 ·obtain⟨e1,e2⟩:=qe a' w' r' e
  subst e1
  intro z
  exact((bm a').mp z).1 rfl
 ·obtain⟨e1,e2⟩:=qe a' true r' e
  subst e1 e2
  exact⟨_,(mB j _).mpr ⟨(bm j).mpr ⟨hj,by rcases I.hold j ((hh j).mp z)with q | q;exact .inl q;exact .inr ⟨rfl,q⟩⟩,rfl⟩⟩
 ·obtain⟨e1,e2⟩:=qe a' false r' e
  subst e1 e2
  exact⟨_,(mB j _).mpr ⟨(bm j).mpr ⟨hj,.inl (I.wri j ((hwr j).mp z))⟩,rfl⟩⟩
 ·obtain⟨e1,e2⟩:=qe a' w' r' e
  subst e1
  obtain⟨u,hu,hv⟩:=z
  refine(bm j).mpr ⟨hj,.inl ?_⟩
  cases u with
  | ask w=>simp[Up.isVal]at hv
  | gave y=>exact(I.gv j y hu).2.1
  | ans o=>exact absurd hu ((I.c1 j).2 o)
 ·obtain⟨e1,e2⟩:=qe a' w' r' e
  rw[e2]
  exact((mB j x').mp hj).2
 ·have:=I.vl j hj
  exact⟨fun w' x' z=>this.1 w' x' ((mL j w' x').mp z),this.2⟩
theorem Pre.awx(I:Pre v)(e:v.q=(a,w)::rest)(hb:cN v a w=[]):Pre (kO v a w rest):=by
 have none:∀j,j≠a->¬(v.wr=some j\/(w=true/\j∈v.rs)):=fun j hj z=>by
  have:j∈cN v a w:=agl.mpr ⟨hj,z⟩
  rw[hb]at this;simp at this
 refine I.lend e (fun hw j hj z=>none j hj ?_) (fun hw j hj z=>none j hj (.inl (I.wri j z))) (fun j hj z=>none j hj (.inl ?_))
 ·rcases I.hold j z with q | q
  ·exact .inl q
  ·exact .inr ⟨hw,q⟩
 ·obtain⟨u,hu,hv⟩:=z
  cases u with
  | ask w=>simp[Up.isVal]at hv
  | gave y=>exact(I.gv j y hu).2.1
  | ans o=>exact absurd hu ((I.c1 j).2 o)
def Fe(v:St)(i:Nat)(x:Int)(r:List Up):St:={v with num:=x,wr:=if v.wr=some i then none else v.wr,U:=aF v.U i r}
def sO(v:St)(i:Nat)(w:Bool)(r:List Up):St:={v with q:=v.q++[(i,w)],U:=aF v.U i r}
def pL(v:St)(i:Nat)(o:Option Int)(r:List Up):St:={v with num:=o.getD v.num,ms:=v.ms - 1,U:=aF v.U i r}
theorem Inv.gave(I:Inv v b){x:Int}{r:List Up}(hU:v.U i=.gave x::r):Inv (Fe v i x r) b:=by
 have m:Up.gave x∈v.U i:=by rw[hU];simp
 obtain⟨g1,g2,g3⟩:=I.gv i x m
 have hV:=Mj m
 have g4:=I.vl i hV
 have ers:=I.ex (by rw[g2];simp)
 have nH:∀j,¬eO v j:=fun j hj=>by
  have:j=i:=by
   rcases I.hold j hj with z | z
   ·rw[g2]at z;exact(Option.some.inj z).symm
   ·rw[ers]at z;simp at z
  subst this
  rcases hj with z | ⟨w,y,z⟩
  ·exact z g3
  ·exact g4.1 w y z
 have nW:∀j,¬R4 v j:=fun j hj=>nH j (by
  rcases hj with z | ⟨y,z⟩
  ·exact .inl (by rw[z];simp)
  ·exact .inr ⟨true,y,z⟩)
 have v1:=I.v1 i
 rw[hU,List.countP_cons]at v1
 simp only[Up.isVal,if_true]at v1
 have nVi:∀y∈r,y.isVal=false:=fV (by lia)
 have amV:∀j,Val v j->j=i:=fun j ⟨u,hu,hv⟩=>by
  cases u with
  | ask w=>simp[Up.isVal]at hv
  | gave z=>have:=(I.gv j z hu).2.1;rw[g2]at this;exact(Option.some.inj this).symm
  | ans o =>
    cases o with
    | none=>simp[Up.isVal]at hv
    | some z=>have:=(I.av j z hu).2.1;rw[g2]at this;exact(Option.some.inj this).symm
 have nV:∀j,¬Val (Fe v i x r) j:=fun j ⟨u,hu,hv⟩=>by
  by_cases e:j=i
  ·subst e
   simp only[Fe,aL]at hu
   rw[nVi u hu]at hv;cases hv
  ·simp only[Fe,aY _ _ e]at hu
   exact e (amV j ⟨u,hu,hv⟩)
 refine⟨I.nd,I.len,fun j=>?_,fun j=>?_,fun j w' hj=>?_,I.que,I.lnd,fun j=>?_,I.pd,fun j hj=>absurd hj (nH j),fun j hj=>absurd hj (nW j),fun z=>?_,I.rnd,I.s0,I.s1,I.sa,fun a r e j hj z=>absurd z (nH j),fun a r e j hj z=>absurd z (nW j),fun a w' r' e j hj z=>absurd z (nV j),I.sb,fun j x' hj=>absurd (Mj hj) (nV j),fun j x' hj=>absurd (ajY hj) (nV j),fun j o hj=>?_,fun j hj=>absurd hj (nV j),fun j=>?_,fun _ _=>g1,I.cop,I.wt0,I.wt1⟩
 ·have:=I.c1 j;dsimp only[Fe,aF]at *;grind[Up.mG]
 ·have:=I.c3 j;dsimp only[Fe,aF]at *;grind[Up.iu]
 ·have:=I.ask j w';dsimp only[Fe,aF]at *;grind
 ·have:=I.pu j;dsimp only[Fe,aF]at *;grind
 ·simp only[Fe,g2,if_true]at z;exact absurd rfl z
 ·have:=I.an j o;dsimp only[Fe,aF]at *;grind
 ·have:=I.v1 j;dsimp only[Fe,aF]at *;grind
theorem Inv.pre(I:Inv v b)(h:v.ms=0):Pre v:=by
 have hb:b=[]:=List.length_eq_zero_iff.mp (I.len.trans h)
 subst hb
 refine⟨h,fun i=>⟨fun x hx=>?_,fun o ho=>?_⟩,I.c3,I.ask,I.que,I.lnd,I.pu,I.hold,I.wri,I.ex,I.rnd,I.gv,I.vl,I.v1,I.nm,I.cop,I.wt0,I.wt1⟩
 ·have h1:=I.c1 i
  have h2:0<(v.D i).countP Dn.jZ:=List.countP_pos_iff.mpr ⟨_,hx,rfl⟩
  rw[if_neg (by simp)]at h1
  lia
 ·have h1:=I.c1 i
  have h2:0<(v.U i).countP Up.mG:=List.countP_pos_iff.mpr ⟨_,ho,rfl⟩
  rw[if_neg (by simp)]at h1
  lia
theorem Inv.asked(I:Inv v b){r:List Up}(hU:v.U i=.ask w::r):(v.ms=0->Pre (sO v i w r))/\(v.ms≠0->Inv (sO v i w r) b):=by
 unfold sO
 have m:Up.ask w∈v.U i:=by rw[hU];simp
 have wi:=I.ask i w m
 have pui:=I.pu i
 rw[hU,List.pairwise_cons]at pui
 have nVr:∀y∈r,y.isVal=false:=fun y hy=>(pui.1 y hy).2 rfl
 have nVi:¬Val v i:=fun⟨u,hu,hv⟩=>by
  rw[hU,List.mem_cons]at hu
  rcases hu with z | z
  ·subst z;simp[Up.isVal]at hv
  ·rw[nVr u z]at hv;cases hv
 have hv:∀j,Val {v with q:=v.q++[(i,w)],U:=aF v.U i r} j↔Val v j:=fun j=>by
  unfold Val
  dsimp only[aF]
  by_cases e:j=i
  ·subst e
   simp only[if_true]
   constructor
   ·rintro⟨u,hu,hv⟩;exact⟨u,by rw[hU];exact List.mem_cons_of_mem _ hu,hv⟩
   ·intro z;exact absurd z nVi
  ·simp[e]
 refine⟨fun h0=>?_,fun h0=>?_⟩
 ·have P:=I.pre h0
  have hq:=I.s0 h0
  ·refine⟨h0,fun j=>?_,fun j=>?_,fun j w' hj=>?_,fun j w' hj=>?_,P.lnd,fun j=>?_,P.hold,P.wri,P.ex,P.rnd,fun j x hj=>?_,fun j hj=>?_,fun j=>?_,fun a c=>P.nm a fun j z=>c j ((hv j).mpr z),P.cop,P.wt0,P.wt1⟩
   ·have:=P.c1 j;dsimp only[aF]at *;grind
   ·have:=P.c3 j;dsimp only[aF]at *;grind[Up.iu]
   ·have:=P.ask j w';dsimp only[aF]at *;grind
   ·have:=P.que j w';dsimp only[aF]at *;grind
   ·have:=P.pu j;dsimp only[aF]at *;grind
   ·have:=P.gv j x;dsimp only[aF]at *;grind
   ·have hj':=(hv j).mp hj
    refine⟨(P.vl j hj').1,fun w' z=>?_⟩
    have:=(P.vl j hj').2 w'
    dsimp only at z
    rw[List.mem_append]at z
    rcases z with z | z
    ·exact this z
    ·rw[List.mem_singleton]at z
     injection z with z1 z2
     subst z1
     exact nVi hj'
   ·have:=P.v1 j;dsimp only[aF]at *;grind
 ·have hq:=I.s1 h0
  obtain⟨⟨a,w0⟩,rest,eq⟩:=List.exists_cons_of_ne_nil hq
  have hd:∀a' w' r',v.q++[(i,w)]=(a',w')::r'->v.q=(a',w')::rest:=fun a' w' r' e=>by
   rw[eq,List.cons_append]at e
   injection e with e1 e2
   rw[eq,e1]
  refine⟨I.nd,I.len,fun j=>?_,fun j=>?_,fun j w' hj=>?_,fun j w' hj=>?_,I.lnd,fun j=>?_,I.pd,I.hold,I.wri,I.ex,I.rnd,fun z=>absurd z h0,fun _=>by simp,fun a' w' r' e=>I.sa a' w' rest (hd a' w' r' e),fun a' r' e=>I.sw a' rest (hd a' true r' e),fun a' r' e=>I.sr a' rest (hd a' false r' e),fun a' w' r' e j hj z=>I.sv a' w' rest (hd a' w' r' e) j hj ((hv j).mp z),fun a' w' r' e=>I.sb a' w' rest (hd a' w' r' e),fun j x hj=>?_,fun j x hj=>?_,fun j o hj=>?_,fun j hj=>?_,fun j=>?_,fun a c=>I.nm a fun j z=>c j ((hv j).mpr z),I.cop,I.wt0,I.wt1⟩
  ·have:=I.c1 j;dsimp only[aF]at *;grind[Up.mG]
  ·have:=I.c3 j;dsimp only[aF]at *;grind[Up.iu]
  ·have:=I.ask j w';dsimp only[aF]at *;grind
  ·have:=I.que j w';dsimp only[aF]at *;grind
  ·have:=I.pu j;dsimp only[aF]at *;grind
  ·have:=I.gv j x;dsimp only[aF]at *;grind
  ·have:=I.av j x;dsimp only[aF]at *;grind
  ·have:=I.an j o;dsimp only[aF]at *;grind
  ·have hj':=(hv j).mp hj
   refine⟨(I.vl j hj').1,fun w' z=>?_⟩
   have:=(I.vl j hj').2 w'
   dsimp only at z
   rw[List.mem_append]at z
   rcases z with z | z
   ·exact this z
   ·rw[List.mem_singleton]at z
    injection z with z1 z2
    subst z1
    exact nVi hj'
  ·have:=I.v1 j;dsimp only[aF]at *;grind
theorem Inv.answered(I:Inv v b){o:Option Int}{r:List Up}(hU:v.U i=.ans o::r):(v.ms - 1=0->∃a w rest,v.q=(a,w)::rest/\Pre (kO (pL v i o r) a w rest))/\(v.ms - 1≠0->∃b',Inv (pL v i o r) b'):=by
 have m:Up.ans o∈v.U i:=by rw[hU];simp
 have h1:=I.c1 i
 have ib:i∈b:=by
  by_cases q:i∈b
  ·exact q
  ·rw[if_neg q,hU,List.countP_cons]at h1;simp[Up.mG]at h1
 have h2:(v.D i).countP Dn.jZ=0/\r.countP Up.mG=0:=by
  rw[if_pos ib,hU,List.countP_cons]at h1
  simp only[Up.mG,if_true]at h1
  lia
 have nB:∀x,Dn.back x∉v.D i:=fun x z=>by simpa[Dn.jZ] using fV h2.1 _ z
 have nA:∀o,Up.ans o∉r:=fun o z=>by simpa[Up.mG] using fV h2.2 _ z
 obtain⟨a1,a2⟩:=I.an i o m
 have pui:=I.pu i
 rw[hU,List.pairwise_cons]at pui
 have nG:∀y∈r,y.isVal=false:=fun y hy=>by
  have:=(pui.1 y hy).1 rfl
  cases y with
  | ask w=>rfl
  | gave x=>simp[Up.aiJ]at this
  | ans o=>exact absurd hy (nA o)
 have hlen:=I.len
 have hpos:0<b.length:=List.length_pos_iff.mpr fun z=>by rw[z]at ib;simp at ib
 have hms:v.ms≠0:=by lia
 obtain⟨⟨a,w⟩,rest,eq⟩:=List.exists_cons_of_ne_nil (I.s1 hms)
 have ia:i≠a:=fun z=>I.sa a w rest eq (z▸ib)
 have el:(b.erase i).length=v.ms - 1:=by rw[List.length_erase_of_mem ib,hlen]
 have nde:(b.erase i).Nodup:=I.nd.sublist List.erase_sublist
 have me:∀j,j∈b.erase i↔j≠i/\j∈b:=fun j=>by rw[I.nd.mem_erase_iff]
 have azI:∀x,o=some x->x=v.cur/\v.wr=some i:=fun x e=>by subst e;exact⟨(I.av i x m).1,(I.av i x m).2.1⟩
 have hv:∀j,Val (pL v i o r) j↔Val v j/\j≠i:=fun j=>by
  unfold Val
  dsimp only[pL,aF]
  by_cases e:j=i
  ·subst e
   simp only[if_true]
   constructor
   ·rintro⟨u,hu,hv⟩;rw[nG u hu]at hv;cases hv
   ·rintro⟨_,z⟩;exact absurd rfl z
  ·simp[e]
 have hnum:(∀j,v.rt j≠.wr)->(∀j,¬Val (pL v i o r) j)->(pL v i o r).num=v.cur:=fun z1 z2=>by
  cases o with
  | some x=>exact(azI x rfl).1
  | none =>
    refine I.nm z1 fun j hj=>?_
    by_cases e:j=i
    ·subst e
     obtain⟨u,hu,hv'⟩:=hj
     rw[hU,List.mem_cons]at hu
     rcases hu with q | q
     ·subst q;simp[Up.isVal]at hv'
     ·rw[nG u q]at hv';cases hv'
    ·exact z2 j ((hv j).mpr ⟨hj,e⟩)
 have J:v.ms - 1≠0->Inv (pL v i o r) (b.erase i):=fun hm=>by
  refine⟨nde,el,fun j=>?_,fun j=>?_,fun j w' hj=>?_,I.que,I.lnd,fun j=>?_,I.pd,I.hold,I.wri,I.ex,I.rnd,fun z=>absurd z hm,fun _=>I.s1 hms,fun a' w' r' e z=>I.sa a' w' r' e ((me a').mp z).2,I.sw,I.sr,fun a' w' r' e j hj z=>(me j).mpr ⟨((hv j).mp z).2,I.sv a' w' r' e j hj ((hv j).mp z).1⟩,I.sb,fun j x hj=>?_,fun j x hj=>?_,fun j o' hj=>?_,fun j hj=>I.vl j ((hv j).mp hj).1,fun j=>?_,hnum,I.cop,I.wt0,I.wt1⟩
  ·have:=I.c1 j
   have:=me j
   dsimp only[pL,aF]at *
   grind[Up.mG]
  ·have:=I.c3 j;dsimp only[pL,aF]at *;grind[Up.iu]
  ·have:=I.ask j w';dsimp only[pL,aF]at *;grind
  ·have:=I.pu j;dsimp only[pL,aF]at *;grind
  ·have:=I.gv j x;dsimp only[pL,aF]at *;grind
  ·have:=I.av j x;dsimp only[pL,aF]at *;grind
  ·have:=I.an j o';dsimp only[pL,aF]at *;grind
  ·have:=I.v1 j;dsimp only[pL,aF]at *;grind
 refine⟨fun hm=>?_,fun hm=>⟨_,J hm⟩⟩
 ·have hb:b.erase i=[]:=List.length_eq_zero_iff.mp (el.trans hm)
  have only:∀j,j∈b->j=i:=fun j hj=>by
   by_cases e:j=i
   ·exact e
   ·have:=(me j).mpr ⟨e,hj⟩;rw[hb]at this;simp at this
  have noB:∀j x,Dn.back x∉v.D j:=fun j x z=>by
   by_cases e:j=i
   ·subst e;exact nB x z
   ·have h3:=I.c1 j
    have h4:0<(v.D j).countP Dn.jZ:=List.countP_pos_iff.mpr ⟨_,z,rfl⟩
    rw[if_neg fun q=>e (only j q)]at h3
    lia
  have noA:∀j o',Up.ans o'∉(pL v i o r).U j:=fun j o' z=>by
   by_cases e:j=i
   ·subst e;simp only[pL,aL]at z;exact nA o' z
   ·simp only[pL,aY _ _ e]at z
    have h3:=I.c1 j
    have h4:0<(v.U j).countP Up.mG:=List.countP_pos_iff.mpr ⟨_,z,rfl⟩
    rw[if_neg fun q=>e (only j q)]at h3
    lia
  have P:Pre (pL v i o r):=by
   refine⟨hm,fun j=>⟨noB j,noA j⟩,fun j=>?_,fun j w' hj=>?_,I.que,I.lnd,fun j=>?_,I.hold,I.wri,I.ex,I.rnd,fun j x hj=>?_,fun j hj=>I.vl j ((hv j).mp hj).1,fun j=>?_,hnum,I.cop,I.wt0,I.wt1⟩
   ·have:=I.c3 j;dsimp only[pL,aF]at *;grind[Up.iu]
   ·have:=I.ask j w';dsimp only[pL,aF]at *;grind
   ·have:=I.pu j;dsimp only[pL,aF]at *;grind
   ·have:=I.gv j x;dsimp only[pL,aF]at *;grind
   ·have:=I.v1 j;dsimp only[pL,aF]at *;grind
  have eq':(pL v i o r).q=(a,w)::rest:=eq
  refine⟨a,w,rest,eq,P.lend eq' (fun hw j hj z=>?_) (fun hw j hj z=>?_) fun j hj z=>?_⟩
  ·subst hw
   obtain⟨x,hx⟩:=I.sw a rest eq j hj z
   exact noB j x hx
  ·subst hw
   obtain⟨x,hx⟩:=I.sr a rest eq j hj z
   exact noB j x hx
  ·have:=(hv j).mp z
   exact this.2 (only j (I.sv a w rest eq j hj this.1))
theorem start(x:Int):Inv ⟨fun _=>.no,fun _=>x,fun _=>[],fun _=>[],fun _=>none,x,none,[],[],0,x⟩ []:=by
 refine⟨List.nodup_nil,rfl,fun i=>by simp,fun i=>by simp,?_,?_,?_,?_,?_,?_,?_,?_,?_,?_,?_,?_,?_,?_,?_,?_,?_,?_,?_,?_,?_,?_,?_,?_,?_⟩
 all_goals (try simp[eO,R4,Val])
end
end PV
namespace gn
open PV (St Up Dn)
def R5(p:Nat):UL->Option Up
 | .ask q r=>if q=p then some (.ask (decide (r=.wr)))else none
 | .ans q o=>if q=p then some (.ans o)else none
 | .gave q x=>if q=p then some (.gave x)else none
def dnP(p:Nat):Let->Option Dn
 | .lend q r x=>if q=(p:Int)then some (.lend (decide (r=.wr)) x)else none
 | .back q r=>if q=(p:Int)then some (.back (decide (r=.rd)))else none
def wsP(p:Nat):Option W->Option Bool
 | some w=>if w.pg=(p:Int)then some w.m5 else none
 | none=>none
def qP(q:List (Nat×Rt)):List (Nat×Bool):=q.map fun x=>(x.1,decide (x.2=.wr))
def pj(ds:Nat->DS)(up:Nat->List UL)(dn:Nat->List Let)(g:PG)(p:Nat)(c:Int):St :=
 ⟨fun i=>(ds i).rt p,fun i=>(ds i).nm p,fun i=>(up i).filterMap (R5 p),fun i=>(dn i).filterMap (dnP p),fun i=>wsP p (ds i).ws,g.num,g.wr,g.rd,qP g.ask,g.miss.toNat,c⟩
theorem m9{α β:Type}(f:Nat->α)(i:Nat)(v:α)(F:α->β):(fun j=>F (aF f i v j))=aF (fun j=>F (f j)) i (F v):=by funext j;unfold aF;split<;>rfl
theorem aiL{p:Nat}{l:UL}(h:l.pg≠p):R5 p l=none:=by cases l<;>exact if_neg h
theorem amW{p:Nat}{l:Let}(h:l.pg≠(p:Int)):dnP p l=none:=by cases l<;>exact if_neg h
theorem ajZ{p:Nat}:∀(ls:List (Nat×Let)) (dn:Nat->List Let),(∀q∈ls,q.2.pg≠(p:Int))->(fun i=>(post dn ls i).filterMap (dnP p))=fun i=>(dn i).filterMap (dnP p)
 | [],_,_=>rfl
 | x::ls,dn,h=>by
   rw[tQ,ajZ ls _ fun q hq=>h q (List.mem_cons_of_mem _ hq),m9]
   rw[List.filterMap_append,List.filterMap_cons,amW (h x (by simp)),List.filterMap_nil,List.append_nil]
   exact dX _ _
section
variable{ds:Nat->DS}{up:Nat->List UL}{dn:Nat->List Let}{g:PG}{p:Nat}{c:Int}
theorem aj0{a:Nat}{r:Rt}{q:List (Nat×Rt)}(h:g.ask=(a,r)::q):PV.kO (pj ds up dn g p c) a (decide (r=.wr)) (qP q)=pj ds up (post dn (g.dO p)) g.lent p c:=by
 unfold PV.kO pj PG.dO PG.lent
 rw[h]
 dsimp only
 rw[tQ]
 unfold post
 simp only[List.foldl_nil]
 rw[m9,List.filterMap_append]
 by_cases e:r=.wr
 ·simp[e,lB,dnP]
 ·simp[e,kI,dnP]
theorem Xi{a:Nat}{r:Rt}{q:List (Nat×Rt)}(h:g.ask=(a,r)::q)(hr:r=.rd\/r=.wr):g.cN p=(PV.cN (pj ds up dn g p c) a (decide (r=.wr))).map fun d=>(d,.back p (low r)):=by
 unfold PG.cN PV.cN pj oO oR
 rw[h]
 dsimp only
 rw[List.map_append]
 congr 1
 ·cases hw:g.wr with
  | none=>rfl
  | some w =>
    by_cases e:w=a
    ·simp[e]
    ·simp[e]
 ·by_cases e:r=.wr
  ·simp[e,low]
  ·simp[e]
theorem Xj(l:Rt):∀(b:List Nat) (dn:Nat->List Let),b.Nodup->(fun i=>(post dn (b.map fun d=>(d,Let.back p l)) i).filterMap (dnP p))=fun i=>if i∈b then(dn i).filterMap (dnP p)++[.back (decide (l=.rd))]else(dn i).filterMap (dnP p)
 | [],dn,_=>by funext i;simp[post]
 | x::b,dn,h=>by
   rw[List.nodup_cons]at h
   rw[List.map_cons,tQ,Xj l b _ h.2]
   funext i
   by_cases e:i=x
   ·subst e
    rw[if_neg h.1,aL,if_pos (by simp),List.filterMap_append]
    simp[dnP]
   ·rw[aY _ _ e]
    simp[e]
theorem atx{a:Nat}{r:Rt}{q:List (Nat×Rt)}(h:g.ask=(a,r)::q)(hr:r=.rd\/r=.wr)(nd:(PV.cN (pj ds up dn g p c) a (decide (r=.wr))).Nodup):PV.lJ (pj ds up dn g p c) a (decide (r=.wr))=pj ds up (post dn (g.cN p)) {g with miss:=(g.cN p).length} p c:=by
 rw[Xi (ds:=ds) (up:=up) (dn:=dn) (c:=c) h hr]
 unfold PV.lJ
 generalize PV.cN (pj ds up dn g p c) a (decide (r=.wr))=b at nd
 have hl:decide (low r=.rd) = !decide (r=.wr):=by rcases hr with e | e<;>subst e<;>rfl
 unfold pj
 rw[Xj _ b dn nd,hl]
 simp
theorem Xk:∀(k:Nat) (g:PG) (dn:Nat->List Let),g.ask.length=k->(∀x∈g.ask,x.2=.rd\/x.2=.wr)->PV.Pre (pj ds up dn g p c)->∃b,PV.Inv (pj ds up (post dn (g.serve p).2) (g.serve p).1 p c) b
 | 0,g,dn,h,hr,I=>by
   have e:g.ask=[]:=List.length_eq_zero_iff.mp h
   rw[yp e]
   exact⟨[],I.inv (by show qP g.ask=[];rw[e];rfl)⟩
 | k+1,g,dn,h,hr,I=>by
   have e:g.ask≠[]:=fun z=>by rw[z]at h;simp at h
   obtain⟨⟨a,r⟩,q,e1⟩:=List.exists_cons_of_ne_nil e
   have h1:=hr (a,r) (by rw[e1];simp)
   have e2:(pj ds up dn g p c).q=(a,decide (r=.wr))::qP q:=by show qP g.ask=_;rw[e1];rfl
   by_cases hb:g.cN p=[]
   ·rw[uc e hb]
    have J:=I.awx e2 (List.map_eq_nil_iff.mp ((Xi (ds:=ds) (up:=up) (dn:=dn) (c:=c) e1 h1).symm.trans hb))
    rw[aj0 e1]at J
    dsimp only
    rw[jW]
    refine Xk k g.lent _ (by rw[PG.yo,h];rfl) (fun x hx=>hr x ?_) J
    unfold PG.lent at hx
    rw[e1]at hx ⊢
    dsimp only at hx
    split at hx<;>exact List.mem_cons_of_mem _ hx
   ·rw[yq e hb]
    have J:=I.bid e2 fun z=>hb (by rw[Xi (ds:=ds) (up:=up) (dn:=dn) (c:=c) e1 h1,z];rfl)
    rw[atx e1 h1 I.Xh]at J
    exact⟨_,J⟩
end
def agn(x:Int->Int)(e:RE):Int->Int:=if e.put then fun q=>if q=e.pg then e.num else x q else x
def lD(x:Int->Int)(row:List RE):Int->Int:=row.foldl agn x
def zR:(Int->Int)->List RE->Prop
 | _,[]=>True
 | x,e::r=>(e.put=false->e.num=x e.pg)/\zR (agn x e) r
theorem vP{e:RE}:∀(row:List RE) (x:Int->Int),zR x row->(e.put=false->e.num=lD x row e.pg)->zR x (row++[e])
 | [],_,_,h=>⟨h,trivial⟩
 | y::r,x,h,h'=>⟨h.1,vP r _ h.2 h'⟩
theorem mH(x:Int->Int)(row:List RE)(e:RE):lD x (row++[e])=agn (lD x row) e:=by unfold lD;rw[List.foldl_append];rfl
def TS.pv(S:TS)(x:Int->Int)(p:Nat):St:=pj S.ds S.up S.dn (S.pg p) p (lD x S.row p)
structure Xl(n m:Nat)(x:Int->Int)(S:TS):Prop where
 pv:∀p,p<m->∃b,PV.Inv (S.pv x p) b
 wk:zR x S.row
 rg:∀e∈S.row,e.dk<n/\∃q:Nat,q<m/\e.pg=(q:Int)
section
variable{n m d p:Nat}{x:Int->Int}{S:TS}
theorem zT(S:TS)(d:Nat)(z:DS×List Ev×List UL)(x:Int->Int)(p:Nat):(S.jX d z).pv x p={S.pv x p with rt:=aF (S.pv x p).rt d (z.1.rt p),cp:=aF (S.pv x p).cp d (z.1.nm p),U:=aF (S.pv x p).U d ((S.pv x p).U d++z.2.2.filterMap (R5 p)),wt:=aF (S.pv x p).wt d (wsP p z.1.ws),cur:=lD x (dg S.row d z.2.1) p}:=by
 unfold TS.jX TS.pv pj
 dsimp only
 rw[m9 S.ds d z.1 (fun y=>y.rt p),m9 S.ds d z.1 (fun y=>y.nm p),m9 S.ds d z.1 (fun y=>wsP p y.ws),m9,List.filterMap_append]
theorem HX{z:DS×List Ev×List UL}(h1:z.1.rt p=(S.ds d).rt p)(h2:z.1.nm p=(S.ds d).nm p)(h3:z.2.2.filterMap (R5 p)=[])(h4:wsP p z.1.ws=wsP p (S.ds d).ws)(h5:lD x (dg S.row d z.2.1) p=lD x S.row p):(S.jX d z).pv x p=S.pv x p:=by
 rw[zT,h1,h2,h3,h4,h5,List.append_nil]
 show({S.pv x p with rt:=aF (S.pv x p).rt d ((S.pv x p).rt d),cp:=aF (S.pv x p).cp d ((S.pv x p).cp d),U:=aF (S.pv x p).U d ((S.pv x p).U d),wt:=aF (S.pv x p).wt d ((S.pv x p).wt d),cur:=(S.pv x p).cur}:St)=_
 rw[dX,dX,dX,dX]
theorem amX{w:W}(h:w.pg≠(p:Int)):wsP p (some w)=none:=if_neg h
theorem ac1{row:List RE}{e:RE}(h:∀e∈row,e.dk<n/\∃q:Nat,q<m/\e.pg=(q:Int))(h1:e.dk<n)(h2:∃q:Nat,q<m/\e.pg=(q:Int)):∀y∈row++[e],y.dk<n/\∃q:Nat,q<m/\y.pg=(q:Int):=fun y hy=>by
 rcases List.mem_append.mp hy with z | z
 ·exact h y z
 ·rw[List.mem_singleton.mp z];exact⟨h1,h2⟩
theorem aj1{e:RE}{y:Int->Int}{q:Int}(h:q≠e.pg):agn y e q=y q:=by unfold agn;split<;>simp[h]
theorem Xl.want{w:W}(C:Xl n m x S)(hd:d<n)(hp:p<m)(hw:w.pg=(p:Int))(h0:(S.ds d).ws=none):Xl n m x (S.jX d ((S.ds d).gZ w p)):=by
 obtain⟨b,I⟩:=C.pv p hp
 have other:∀p',p'≠p->((p':Int)≠(p:Int)):=fun p' h z=>h (by lia)
 unfold DS.gZ
 split
 ·rename_i hok
  cases w with
  | look q =>
    have hq:q=(p:Int):=hw
    subst hq
    have hrt:(S.ds d).rt p≠.no:=fun z=>by simp[DS.ok,W.need,W.pg,Rt.k,z]at hok
    refine⟨fun p' hp'=>?_,vP _ _ C.wk fun _=>?_,ac1 C.rg hd ⟨p,hp,rfl⟩⟩
    ·rw[HX rfl rfl rfl rfl (by unfold dg;rw[List.map_singleton,mH];rfl)]
     exact C.pv p' hp'
    ·exact I.cop d hrt
  | put q y =>
    have hq:q=(p:Int):=hw
    subst hq
    have hrt:(S.ds d).rt p=.wr:=by
     cases e:(S.ds d).rt p<;>simp[DS.ok,W.need,W.pg,Rt.k,e]at hok ⊢
    refine⟨fun p' hp'=>?_,vP _ _ C.wk fun z=>(by cases z),ac1 C.rg hd ⟨p,hp,rfl⟩⟩
    by_cases e:p'=p
    ·subst e
     refine⟨b,?_⟩
     have J:=I.put (i:=d) hrt y
     rw[zT]
     dsimp only
     unfold dg
     rw[List.map_singleton,mH]
     show PV.Inv {S.pv x p' with rt:=aF (S.pv x p').rt d (((S.ds d).hold p' ((S.ds d).rt p') y).rt p'),cp:=aF (S.pv x p').cp d (((S.ds d).hold p' ((S.ds d).rt p') y).nm p'),U:=aF (S.pv x p').U d ((S.pv x p').U d++[]),wt:=aF (S.pv x p').wt d ((S.pv x p').wt d),cur:=if(p':Int)=p' then y else lD x S.row p'} b
     rw[DS.qj,DS.vH,List.append_nil,dX,dX,if_pos rfl]
     show PV.Inv {S.pv x p' with rt:=aF (S.pv x p').rt d ((S.pv x p').rt d),cp:=aF (S.pv x p').cp d y,cur:=y} b
     rw[dX]
     exact J
    ·rw[HX (DS.qu _ _ _ (other p' e)) (DS.qw _ _ _ (other p' e)) rfl rfl (by unfold dg;rw[List.map_singleton,mH];exact aj1 (other p' e))]
     exact C.pv p' hp'
 ·rename_i hok
  refine⟨fun p' hp'=>?_,by show zR x (S.row++[]);rw[List.append_nil];exact C.wk,by show ∀e∈S.row++[],_;rw[List.append_nil];exact C.rg⟩
  by_cases e:p'=p
  ·subst e
   have hwt:(S.pv x p').wt d=none:=by show wsP p' (S.ds d).ws=none;rw[h0];rfl
   have J:=I.aww (i:=d) hwt w.m5 (fun z=>?_) (fun z=>?_)
   ·refine⟨b,?_⟩
    rw[zT]
    dsimp only
    unfold dg
    rw[List.map_nil,List.append_nil]
    show PV.Inv {S.pv x p' with rt:=aF (S.pv x p').rt d ((S.pv x p').rt d),cp:=aF (S.pv x p').cp d ((S.pv x p').cp d),U:=aF (S.pv x p').U d ((S.pv x p').U d++[UL.ask p' w.need].filterMap (R5 p')),wt:=aF (S.pv x p').wt d (wsP p' (some w))} b
    rw[dX,dX]
    have e1:[UL.ask p' w.need].filterMap (R5 p')=[.ask w.m5]:=by cases w<;>simp[R5,W.need,W.m5]
    have e2:wsP p' (some w)=some w.m5:=if_pos hw
    rw[e1,e2]
    exact J
   ·cases w with
    | put q y=>cases z
    | look q =>
      have hq:q=(p':Int):=hw
      subst hq
      show(S.ds d).rt p'=.no
      cases e:(S.ds d).rt p'<;>simp[DS.ok,W.need,W.pg,Rt.k,e]at hok ⊢
   ·cases w with
    | look q=>cases z
    | put q y =>
      have hq:q=(p':Int):=hw
      subst hq
      intro (e:(S.ds d).rt p'=.wr)
      simp[DS.ok,W.need,W.pg,Rt.k,e]at hok
  ·rw[HX rfl rfl (by rw[List.filterMap_cons,aiL (Ne.symm e)];rfl) (by show wsP p' (some w)=wsP p' (S.ds d).ws;rw[h0,amX (by rw[hw];exact(other p' e).symm)];rfl) (by unfold dg;rw[List.map_nil,List.append_nil])]
   exact C.pv p' hp'
theorem Xl.lg(C:Xl n m x S)(hd:d<n)(hp:p<m)(h0:(S.ds d).rt p≠.no):Xl n m x (S.lg d p):=by
 obtain⟨b,I⟩:=C.pv p hp
 have other:∀p',p'≠p->((p':Int)≠(p:Int)):=fun p' h z=>h (by lia)
 unfold TS.lg
 refine⟨fun p' hp'=>?_,by show zR x (S.row++[]);rw[List.append_nil];exact C.wk,by show ∀e∈S.row++[],_;rw[List.append_nil];exact C.rg⟩
 by_cases e:p'=p
 ·subst e
  have J:=I.lg (i:=d) h0
  refine⟨b,?_⟩
  rw[zT]
  dsimp only
  unfold dg
  rw[List.map_nil,List.append_nil,DS.qj,DS.vH]
  show PV.Inv {S.pv x p' with rt:=aF (S.pv x p').rt d .no,cp:=aF (S.pv x p').cp d ((S.pv x p').cp d),U:=aF (S.pv x p').U d ((S.pv x p').U d++(if(S.ds d).rt p'=.wr then [UL.gave p' ((S.ds d).nm p')]else []).filterMap (R5 p')),wt:=aF (S.pv x p').wt d ((S.pv x p').wt d)} b
  rw[dX,dX]
  have e1:(S.pv x p').U d++(if(S.ds d).rt p'=.wr then [UL.gave p' ((S.ds d).nm p')]else []).filterMap (R5 p')=if(S.pv x p').rt d=.wr then(S.pv x p').U d++[.gave ((S.pv x p').cp d)]else(S.pv x p').U d:=by
   show _=if(S.ds d).rt p'=.wr then(S.pv x p').U d++[.gave ((S.ds d).nm p')]else _
   split<;>simp[R5]
  rw[e1]
  exact J
 ·rw[HX (DS.qu _ _ _ (other p' e)) (DS.qw _ _ _ (other p' e)) (by dsimp only;split<;>simp[R5,Ne.symm e]) rfl (by unfold dg;rw[List.map_nil,List.append_nil])]
  exact C.pv p' hp'
theorem aj2(S:TS)(d:Nat)(r:List Let)(x:Int->Int)(p:Nat):({S with dn:=aF S.dn d r}:TS).pv x p={S.pv x p with D:=aF (S.pv x p).D d (r.filterMap (dnP p))}:=by
 unfold TS.pv pj
 dsimp only
 rw[m9]
theorem arD{r:List Let}{l:Let}(e:S.dn d=l::r)(h:l.pg≠(p:Int)):({S with dn:=aF S.dn d r}:TS).pv x p=S.pv x p:=by
 rw[aj2]
 have:r.filterMap (dnP p)=(S.pv x p).D d:=by show _=(S.dn d).filterMap (dnP p);rw[e,List.filterMap_cons,amW h]
 rw[this,dX]
theorem Xl.Ie{l:Let}{r:List Let}(C:Xl n m x S)(hd:d<n)(e:S.dn d=l::r)(hp:p<m)(hl:l.pg=(p:Int))(hn:l.nice):Xl n m x (S.Ie d l r):=by
 obtain⟨b,I⟩:=C.pv p hp
 have other:∀p',p'≠p->((p':Int)≠(p:Int)):=fun p' h z=>h (by lia)
 unfold TS.Ie
 cases l with
 | lend q y k =>
   have hq:q=(p:Int):=hl
   subst hq
   have hD:(S.pv x p).D d=.lend (decide (y=.wr)) k::r.filterMap (dnP p):=by show(S.dn d).filterMap (dnP p)=_;rw[e,List.filterMap_cons];simp[dnP]
   obtain⟨_,hwt,hk,_,_⟩:=I.acg hD
   obtain⟨w,hws,hwp,hiw⟩:∃w,(S.ds d).ws=some w/\w.pg=(p:Int)/\w.m5=decide (y=.wr):=by
    have ago:wsP p (S.ds d).ws=some (decide (y=.wr)):=hwt
    cases h:(S.ds d).ws with
    | none=>rw[h]at ago;cases ago
    | some w =>
      rw[h]at ago
      unfold wsP at ago
      dsimp only at ago
      split at ago
      ·rename_i h2;exact⟨w,rfl,h2,Option.some.inj ago⟩
      ·cases ago
   have hok:((S.ds d).hold p y k).ok w:=by
    show w.need.k<=(((S.ds d).hold p y k).rt w.pg).k
    rw[hwp,DS.qj]
    cases w<;>rcases hn with z | z<;>subst z<;>simp[W.need,Rt.k,W.m5]at hiw ⊢
   have ez:(S.ds d).ud (.lend p y k)=(({(S.ds d).hold p y k with ws:=none}:DS).done w,[(w.m5,w.pg,((S.ds d).hold p y k).num w)],[]):=by
    show(((S.ds d).mC p y k).1,((S.ds d).mC p y k).2,([]:List UL))=_
    unfold DS.mC
    rw[hws]
    dsimp only
    rw[if_pos ⟨hwp,hok⟩]
   rw[ez]
   have hc:k=lD x S.row p:=hk
   refine⟨fun p' hp'=>?_,vP _ _ C.wk fun z=>?_,ac1 C.rg hd ⟨p,hp,hwp⟩⟩
   ·by_cases e':p'=p
    ·subst e'
     refine⟨b,?_⟩
     cases w with
     | look q =>
       have J:=I.amU hD none (fun z=>by cases z)
       rw[zT,aj2]
       have er:y=if decide (y=.wr)=true then Rt.wr else Rt.rd:=by rcases hn with z | z<;>subst z<;>rfl
       dsimp only
       unfold dg
       rw[List.map_singleton,mH]
       show PV.Inv {S.pv x p' with D:=aF (S.pv x p').D d (r.filterMap (dnP p')),rt:=aF (S.pv x p').rt d (((S.ds d).hold p' y k).rt p'),cp:=aF (S.pv x p').cp d (((S.ds d).hold p' y k).nm p'),U:=aF (S.pv x p').U d ((S.pv x p').U d++[]),wt:=aF (S.pv x p').wt d none,cur:=lD x S.row p'} b
       rw[DS.qj,DS.vH,List.append_nil,dX]
       unfold PV.iU at J
       rw[<-er]at J
       exact J
     | put q u =>
       have hq:q=(p':Int):=hwp
       subst hq
       have J:=I.amU hD (some u) (fun _=>hiw.symm)
       rw[zT,aj2]
       have er:y=if decide (y=.wr)=true then Rt.wr else Rt.rd:=by rcases hn with z | z<;>subst z<;>rfl
       dsimp only
       unfold dg
       rw[List.map_singleton,mH]
       show PV.Inv {S.pv x p' with D:=aF (S.pv x p').D d (r.filterMap (dnP p')),rt:=aF (S.pv x p').rt d ((((S.ds d).hold p' y k).hold p' (((S.ds d).hold p' y k).rt p') u).rt p'),cp:=aF (S.pv x p').cp d ((((S.ds d).hold p' y k).hold p' (((S.ds d).hold p' y k).rt p') u).nm p'),U:=aF (S.pv x p').U d ((S.pv x p').U d++[]),wt:=aF (S.pv x p').wt d none,cur:=if(p':Int)=p' then u else lD x S.row p'} b
       rw[DS.qj,DS.vH,DS.qj,List.append_nil,dX,if_pos rfl]
       unfold PV.iU at J
       rw[<-er]at J
       exact J
    ·have o:=other p' e'
     rw[HX (S:={S with dn:=aF S.dn d r}) ?_ ?_ rfl ?_ ?_,arD e (Ne.symm o)]
     ·exact C.pv p' hp'
     ·cases w with
      | look q=>exact DS.qu (S.ds d) y k o
      | put q u=>exact(DS.qu _ _ _ (by rw[show q=(p:Int)from hwp];exact o)).trans (DS.qu (S.ds d) y k o)
     ·cases w with
      | look q=>exact DS.qw (S.ds d) y k o
      | put q u=>exact(DS.qw _ _ _ (by rw[show q=(p:Int)from hwp];exact o)).trans (DS.qw (S.ds d) y k o)
     ·show wsP p' (({(S.ds d).hold p y k with ws:=none}:DS).done w).ws=wsP p' (S.ds d).ws
      rw[hws,amX (by rw[hwp];exact Ne.symm o)]
      cases w<;>rfl
     ·unfold dg
      rw[List.map_singleton,mH]
      exact aj1 (by show(p':Int)≠w.pg;rw[hwp];exact o)
   ·cases w with
    | put q u=>cases z
    | look q =>
      have hq:q=(p:Int):=hwp
      subst hq
      show((S.ds d).hold p y k).nm p=_
      rw[DS.vH];exact hc
 | back q y =>
   have hq:q=(p:Int):=hl
   subst hq
   have hD:(S.pv x p).D d=.back (decide (y=.rd))::r.filterMap (dnP p):=by show(S.dn d).filterMap (dnP p)=_;rw[e,List.filterMap_cons];simp[dnP]
   have ez:(S.ds d).ud (.back p y)=((S.ds d).down p y,[],[.ans p ((S.ds d).kY p)]):=rfl
   rw[ez]
   refine⟨fun p' hp'=>?_,by show zR x (S.row++[]);rw[List.append_nil];exact C.wk,by show ∀e∈S.row++[],_;rw[List.append_nil];exact C.rg⟩
   by_cases e':p'=p
   ·subst e'
    refine⟨b,?_⟩
    have J:=I.atw hD
    rw[zT,aj2]
    dsimp only
    unfold dg
    rw[List.map_nil,List.append_nil]
    have e1:((S.ds d).down p' y).rt p'=if(S.ds d).rt p'=.wr then(if decide (y=.rd)=true then Rt.rd else .no)else if decide (y=.rd)=true then(S.ds d).rt p' else .no:=by
     unfold DS.down
     split<;>rename_i h<;>rcases hn with z | z<;>subst z<;>cases e:(S.ds d).rt p'<;>simp[e,Rt.k,DS.qj]at h ⊢
    have e2:((S.ds d).down p' y).nm p'=(S.ds d).nm p':=by unfold DS.down;split<;>simp[DS.vH]
    have e3:((S.ds d).down p' y).ws=(S.ds d).ws:=by unfold DS.down;split<;>rfl
    rw[e1,e2,e3]
    show PV.Inv {S.pv x p' with D:=aF (S.pv x p').D d (r.filterMap (dnP p')),rt:=aF (S.pv x p').rt d (if(S.pv x p').rt d=.wr then(if decide (y=.rd)=true then Rt.rd else .no)else if decide (y=.rd)=true then(S.pv x p').rt d else .no),cp:=aF (S.pv x p').cp d ((S.pv x p').cp d),U:=aF (S.pv x p').U d ((S.pv x p').U d++[UL.ans p' ((S.ds d).kY p')].filterMap (R5 p')),wt:=aF (S.pv x p').wt d ((S.pv x p').wt d)} b
    rw[dX,dX]
    have e4:[UL.ans p' ((S.ds d).kY p')].filterMap (R5 p')=[.ans (if(S.pv x p').rt d=.wr then some ((S.pv x p').cp d)else none)]:=by simp[R5];rfl
    rw[e4]
    exact J
   ·have o:=other p' e'
    rw[HX (S:={S with dn:=aF S.dn d r}) ?_ ?_ ?_ ?_ ?_,arD e (Ne.symm o)]
    ·exact C.pv p' hp'
    ·show((S.ds d).down p y).rt p'=(S.ds d).rt p'
     unfold DS.down;split
     ·rfl
     ·exact DS.qu _ _ _ o
    ·show((S.ds d).down p y).nm p'=(S.ds d).nm p'
     unfold DS.down;split
     ·rfl
     ·exact DS.qw _ _ _ o
    ·rw[List.filterMap_cons,aiL (Ne.symm e')];rfl
    ·show wsP p' ((S.ds d).down p y).ws=wsP p' (S.ds d).ws
     unfold DS.down;split<;>rfl
    ·unfold dg;rw[List.map_nil,List.append_nil]
theorem awA(S:TS)(d q:Nat)(r:List UL)(g:PG)(dn:Nat->List Let)(x:Int->Int)(p:Nat):({S with up:=aF S.up d r,pg:=aF S.pg q g,dn:=dn}:TS).pv x p=pj S.ds (aF S.up d r) dn (aF S.pg q g p) p (lD x S.row p):=rfl
theorem Xl.Xa{l:UL}{r:List UL}(C:Xl n m x S)(e:S.up d=l::r)(hp:l.pg<m)(hr:∀q y,l=.ask q y->y=.rd\/y=.wr)(hq:∀y∈(S.pg l.pg).ask,y.2=.rd\/y.2=.wr)(hm:0<=(S.pg l.pg).miss)(hs:∀y∈((S.pg l.pg).take l.pg d l).2,y.2.pg=(l.pg:Int)):Xl n m x (S.Xa d l r):=by
 refine⟨fun p' hp'=>?_,C.wk,C.rg⟩
 unfold TS.Xa
 rw[awA]
 by_cases e':p'=l.pg
 ·subst e'
  rw[aL]
  obtain⟨b,I⟩:=C.pv l.pg hp
  generalize hg:S.pg l.pg=g at hq hm hs
  have eI:S.pv x l.pg=pj S.ds S.up S.dn g l.pg (lD x S.row l.pg):=by unfold TS.pv;rw[hg]
  rw[eI]at I
  have eU:∀u,R5 l.pg l=some u->(pj S.ds S.up S.dn g l.pg (lD x S.row l.pg)).U d=u::r.filterMap (R5 l.pg):=fun u hu=>by show(S.up d).filterMap _=_;rw[e,List.filterMap_cons,hu]
  have eP:∀g',pj S.ds (aF S.up d r) S.dn g' l.pg (lD x S.row l.pg)={pj S.ds S.up S.dn g' l.pg (lD x S.row l.pg)with U:=aF (pj S.ds S.up S.dn g' l.pg (lD x S.row l.pg)).U d (r.filterMap (R5 l.pg))}:=fun g'=>by unfold pj;dsimp only;rw[m9]
  have m0:(pj S.ds S.up S.dn g l.pg (lD x S.row l.pg)).ms=g.miss.toNat:=rfl
  cases l with
  | ask p y =>
    obtain⟨J1,J2⟩:=I.asked (eU (.ask (decide (y=.wr))) (by simp[R5,UL.pg]))
    have hy:=hr p y rfl
    have ea:PV.sO (pj S.ds S.up S.dn g p (lD x S.row p)) d (decide (y=.wr)) (r.filterMap (R5 p))=pj S.ds (aF S.up d r) S.dn {g with ask:=g.ask++[(d,y)]} p (lD x S.row p):=by
     rw[show(p:Nat)=(UL.ask p y).pg from rfl,eP];unfold PV.sO pj qP;simp
    show ∃b,PV.Inv (pj S.ds (aF S.up d r) (post S.dn (if g.ask=[]then PG.serve {g with ask:=[(d,y)]} p else({g with ask:=g.ask++[(d,y)]},[])).2) (if g.ask=[]then PG.serve {g with ask:=[(d,y)]} p else({g with ask:=g.ask++[(d,y)]},[])).1 p (lD x S.row p)) b
    by_cases h0:g.ask=[]
    ·rw[if_pos h0]
     refine Xk _ _ _ rfl (fun z hz=>by rw[List.mem_singleton.mp hz];exact hy) ?_
     have:(pj S.ds S.up S.dn g p (lD x S.row p)).ms=0:=Classical.byContradiction fun z=>I.s1 z (by show qP g.ask=[];rw[h0];rfl)
     have J:=J1 this
     rw[show(UL.ask p y).pg=p from rfl,ea,h0]at J
     exact J
    ·rw[if_neg h0]
     have:(pj S.ds S.up S.dn g p (lD x S.row p)).ms≠0:=fun z=>h0 (List.map_eq_nil_iff.mp (I.s0 z))
     have J:=J2 this
     rw[show(UL.ask p y).pg=p from rfl,ea]at J
     exact⟨_,J⟩
  | ans p o =>
    obtain⟨J1,J2⟩:=I.answered (eU (.ans o) (by simp[R5,UL.pg]))
    have ea:PV.pL (pj S.ds S.up S.dn g p (lD x S.row p)) d o (r.filterMap (R5 p))=pj S.ds (aF S.up d r) S.dn {g with num:=o.getD g.num,miss:=g.miss - 1} p (lD x S.row p):=by
     rw[show(p:Nat)=(UL.ans p o).pg from rfl,eP]
     unfold PV.pL pj
     have:(g.miss - 1).toNat=g.miss.toNat - 1:=by lia
     simp[this]
    rw[show(UL.ans p o).pg=p from rfl]at *
    rw[ea]at J1 J2
    generalize hg2:({g with num:=o.getD g.num,miss:=g.miss - 1}:PG)=g2 at *
    have hpos:g.miss≠0:=fun z=>by
     have h1:=I.c1 d
     have h2:=I.len
     rw[m0,z]at h2
     rw[List.length_eq_zero_iff.mp h2,eU (.ans o) (by simp[R5,UL.pg]),List.countP_cons]at h1
     simp[PV.Up.mG]at h1
    show ∃b,PV.Inv (pj S.ds (aF S.up d r) (post S.dn (g.take p d (.ans p o)).2) (g.take p d (.ans p o)).1 p (lD x S.row p)) b
    unfold PG.take
    dsimp only
    rw[hg2]
    by_cases h0:g.miss - 1=0
    ·rw[if_pos h0]
     obtain⟨a,w,rest,e1,J⟩:=J1 (by rw[m0];lia)
     have eq2:g2.ask=g.ask:=by rw[<-hg2]
     obtain⟨⟨a',y⟩,q,e2⟩:∃z q,g2.ask=z::q:=by
      have e1':qP g.ask=(a,w)::rest:=e1
      rw[<-eq2]at e1'
      cases h:g2.ask with
      | nil=>rw[h]at e1';cases e1'
      | cons z q=>exact⟨z,q,rfl⟩
     have e3:(a',decide (y=Rt.wr))::qP q=(a,w)::rest:=by
      have e1':qP g.ask=(a,w)::rest:=e1
      rw[<-eq2,e2]at e1'
      exact e1'
     injection e3 with e4 e5
     injection e4 with e6 e7
     subst e6 e7 e5
     rw[aj0 e2]at J
     dsimp only
     rw[jW]
     refine Xk _ _ _ rfl (fun z hz=>hq z ?_) J
     rw[<-eq2]
     unfold PG.lent at hz
     rw[e2]at hz ⊢
     dsimp only at hz
     split at hz<;>exact List.mem_cons_of_mem _ hz
    ·rw[if_neg h0]
     exact J2 (by rw[m0];lia)
  | gave p y =>
    have J:=I.gave (eU (.gave y) (by simp[R5,UL.pg]))
    refine⟨b,?_⟩
    rw[show(UL.gave p y).pg=p from rfl]at *
    show PV.Inv (pj S.ds (aF S.up d r) S.dn {g with num:=y,wr:=if g.wr=some d then none else g.wr} p (lD x S.row p)) b
    rw[eP]
    exact J
 ·rw[aY _ _ e']
  have o:∀y∈((S.pg l.pg).take l.pg d l).2,y.2.pg≠(p':Int):=fun y hy z=>e' (by have:=hs y hy;lia)
  have:pj S.ds (aF S.up d r) (post S.dn ((S.pg l.pg).take l.pg d l).2) (S.pg p') p' (lD x S.row p')=S.pv x p':=by
   unfold TS.pv pj
   rw[ajZ _ _ o,m9]
   have:r.filterMap (R5 p')=(S.up d).filterMap (R5 p'):=by rw[e,List.filterMap_cons,aiL (Ne.symm e')]
   rw[this,dX (fun j=>(S.up j).filterMap (R5 p'))]
  rw[this]
  exact C.pv p' hp'
theorem Xl.step(C:Xl n m x S)(I:jx n m S)(y:cC):Xl n m x (S.step n m y).1:=by
 cases y with
 | up d =>
   simp only[TS.step]
   split
   ·rename_i h
    have hd:d.toNat<n:=by unfold inR at h;lia
    unfold TS.upD
    cases e:S.up d.toNat with
    | nil=>exact C
    | cons l r =>
      obtain⟨_,hp,_,ho⟩:=I.take hd e
      have hc:=I.ct l.pg hp
      exact C.Xa e hp (I.up _ hd l (by rw[e];simp)).2 (fun z hz=>((I.pn l.pg hp).q z hz).2) (by lia) fun z hz=>(ho z hz).2.1
   ·exact C
 | down d =>
   simp only[TS.step]
   split
   ·rename_i h
    have hd:d.toNat<n:=by unfold inR at h;lia
    unfold TS.Xb
    cases e:S.dn d.toNat with
    | nil=>exact C
    | cons l r =>
      obtain⟨p,hp,h1,h2⟩:=I.dn _ hd l (by rw[e];simp)
      exact C.Ie hd e hp h1 h2
   ·exact C
 | rest d p =>
   simp only[TS.step]
   split
   ·rename_i h
    split
    ·rename_i h2
     split
     ·exact C
     ·rename_i h3
      have ep:((p.toNat:Nat):Int)=p:=by unfold inR at h2;lia
      exact C.lg (by unfold inR at h;lia) (by unfold inR at h2;lia) (by rw[ep];exact h3)
    ·exact C
   ·exact C
 | look d p =>
   simp only[TS.step]
   split
   ·rename_i h
    split
    ·rename_i h2
     unfold TS.wish
     split
     ·exact C
     ·rename_i h3
      exact C.want (by unfold inR at h;lia) (by unfold inR at h2;lia) (by show p=_;unfold inR at h2;lia) h3
    ·exact C
   ·exact C
 | put d p x =>
   simp only[TS.step]
   split
   ·rename_i h
    split
    ·rename_i h2
     unfold TS.wish
     split
     ·exact C
     ·rename_i h3
      exact C.want (by unfold inR at h;lia) (by unfold inR at h2;lia) (by show p=_;unfold inR at h2;lia) h3
    ·exact C
   ·exact C
end
end gn
namespace gn
open PySem L2
def top(i:Nat):Stmt:=PySem.Challenge.pw_copydesks_k02_whole_one_row.main.body.getD i (.Pass ⟨0,0,0,0⟩)
abbrev aj3:Stmt:=top 0
abbrev zU:Stmt:=top 12
abbrev qX:Stmt:=top 13
abbrev wZ:Stmt:=top 14
abbrev w6:Stmt:=top 15
abbrev xf:Stmt:=top 16
abbrev Ff:Stmt:=top 19
abbrev uh:Stmt:=top 20
abbrev Fg:Stmt:=inClass (top 21) 0
abbrev qY:Stmt:=inClass (top 21) 1
abbrev zV:Stmt:=inClass (top 21) 2
abbrev Fi:Stmt:=inClass (top 21) 3
abbrev Fj:Stmt:=inClass (top 21) 4
abbrev Fl:Stmt:=inClass (top 21) 5
abbrev xg:Stmt:=inClass (top 21) 6
abbrev um:Stmt:=inClass (top 21) 7
abbrev pM:Stmt:=inClass (top 21) 8
abbrev uo:Stmt:=inClass (top 21) 9
abbrev jz:Stmt:=inClass (top 21) 10
abbrev Fo:Stmt:=inClass (top 21) 11
abbrev pN:Stmt:=inClass (top 23) 0
abbrev j0:Stmt:=inClass (top 23) 1
abbrev iZ:Stmt:=inClass (top 23) 2
abbrev jA:Stmt:=inClass (top 23) 3
abbrev nj:Stmt:=inClass (top 23) 4
abbrev gP:Stmt:=inClass (top 23) 5
abbrev pO:Stmt:=inClass (top 23) 6
abbrev jB:Stmt:=inClass (top 23) 7
abbrev j6:Stmt:=inClass (top 23) 8
abbrev Fp:Stmt:=inClass (top 24) 0
abbrev Fq:Stmt:=inClass (top 24) 1
abbrev Ft:Stmt:=inClass (top 28) 0
abbrev uq:Stmt:=inClass (top 28) 1
abbrev nu:Stmt:=inClass (top 28) 2
abbrev nC:Stmt:=inClass (top 28) 3
abbrev ur:Stmt:=inClass (top 28) 4
abbrev xj:Stmt:=inClass (top 28) 5
abbrev ux:Stmt:=inClass (top 28) 6
abbrev qZ:Stmt:=inClass (top 28) 7
abbrev nD:Stmt:=inClass (top 28) 8
abbrev lq:Stmt:=inClass (top 28) 9
abbrev pP:Stmt:=inClass (top 28) 10
abbrev vQ:Stmt:=inClass (top 28) 11
abbrev yx:Stmt:=inClass (top 28) 12
abbrev qx:Stmt:=inClass (top 28) 13
abbrev Fv:Stmt:=top 30
abbrev zW:Stmt:=top 31
abbrev Xm:Stmt:=top 32
abbrev Qw:Stmt:=top 34
abbrev aiM:Stmt:=top 35
abbrev Xn:Stmt:=top 36
abbrev Fw:Stmt:=top 37
abbrev ac2:Stmt:=top 38
abbrev zX:Stmt:=top 39
abbrev Qx:Stmt:=top 40
abbrev Fx:Stmt:=top 41
abbrev JN:Stmt:=top 42
abbrev xm:Stmt:=top 43
abbrev xn:Stmt:=top 44
abbrev uy:Stmt:=top 45
abbrev zY:Stmt:=top 46
abbrev uz:Stmt:=top 47
abbrev rm:Stmt:=top 48
abbrev zZ:Stmt:=top 49
abbrev uA:Stmt:=top 50
abbrev amY:Stmt:=top 51
theorem aaA:bC ["page","right"] ["page","right"] (aP zU):=⟨rfl,rfl,rfl,by decide +kernel,rfl,by decide +kernel,by decide +kernel⟩
theorem Qy:bC ["page","number"] ["page","number"] (aP qX):=⟨rfl,rfl,rfl,by decide +kernel,rfl,by decide +kernel,by decide +kernel⟩
theorem Xo:bC ["page","number"] ["page","number"] (aP wZ):=⟨rfl,rfl,rfl,by decide +kernel,rfl,by decide +kernel,by decide +kernel⟩
theorem Xp:bC ["page","right","number"] ["page","right","number"] (aP w6):=⟨rfl,rfl,rfl,by decide +kernel,rfl,by decide +kernel,by decide +kernel⟩
theorem Xq:bC ["page","right"] ["page","right"] (aP xf):=⟨rfl,rfl,rfl,by decide +kernel,rfl,by decide +kernel,by decide +kernel⟩
theorem ac3:bC ["right","needed"] ["right","needed"] (aP Ff):=⟨rfl,rfl,rfl,by decide +kernel,rfl,by decide +kernel,by decide +kernel⟩
theorem Ua:bC ["wish"] ["wish"] (aP uh):=⟨rfl,rfl,rfl,by decide +kernel,rfl,by decide +kernel,by decide +kernel⟩
theorem ac4:bC ["self"] ["self"] (aP Fg):=⟨rfl,rfl,rfl,by decide +kernel,rfl,by decide +kernel,by decide +kernel⟩
theorem Qz:bC ["self","page"] ["self","page"] (aP qY):=⟨rfl,rfl,rfl,by decide +kernel,rfl,by decide +kernel,by decide +kernel⟩
theorem aaB:bC ["self"] ["self"] (aP zV):=⟨rfl,rfl,rfl,by decide +kernel,rfl,by decide +kernel,by decide +kernel⟩
theorem ac5:bC ["self","wish"] ["self","wish"] (aP Fi):=⟨rfl,rfl,rfl,by decide +kernel,rfl,by decide +kernel,by decide +kernel⟩
theorem ac6:bC ["self","letter"] ["self","letter"] (aP Fj):=⟨rfl,rfl,rfl,by decide +kernel,rfl,by decide +kernel,by decide +kernel⟩
theorem Ml:bC ["self","page","number"] ["self","page"] (aP Fl):=⟨rfl,rfl,rfl,by decide +kernel,rfl,by decide +kernel,by decide +kernel⟩
theorem Xr:bC ["self","wish"] ["self","wish"] (aP xg):=⟨rfl,rfl,rfl,by decide +kernel,rfl,by decide +kernel,by decide +kernel⟩
theorem BV:bC ["self","wish","page"] ["self","wish"] (aP um):=⟨rfl,rfl,rfl,by decide +kernel,rfl,by decide +kernel,by decide +kernel⟩
theorem vR:bC ["self","page","right","number","wish"] ["self","page","right","number"] (aP pM):=⟨rfl,rfl,rfl,by decide +kernel,rfl,by decide +kernel,by decide +kernel⟩
theorem BW:bC ["self","page","right","number"] ["self","page","right"] (aP uo):=⟨rfl,rfl,rfl,by decide +kernel,rfl,by decide +kernel,by decide +kernel⟩
theorem z6:bC ["self","page"] ["self","page"] (aP jz):=⟨rfl,rfl,rfl,by decide +kernel,rfl,by decide +kernel,by decide +kernel⟩
theorem ac7:bC ["self","page","right","number"] ["self","page","right","number"] (aP Fo):=⟨rfl,rfl,rfl,by decide +kernel,rfl,by decide +kernel,by decide +kernel⟩
theorem Mm:bC ["self","page","number"] ["self","page","number"] (aP pN):=⟨rfl,rfl,rfl,by decide +kernel,rfl,by decide +kernel,by decide +kernel⟩
theorem De:bC ["self","desk","right"] ["self","desk","right"] (aP j0):=⟨rfl,rfl,rfl,by decide +kernel,rfl,by decide +kernel,by decide +kernel⟩
theorem xq:bC ["self","number"] ["self","number"] (aP iZ):=⟨rfl,rfl,rfl,by decide +kernel,rfl,by decide +kernel,by decide +kernel⟩
theorem z7:bC ["self","desk","number"] ["self","desk","number"] (aP jA):=⟨rfl,rfl,rfl,by decide +kernel,rfl,by decide +kernel,by decide +kernel⟩
theorem lQ:bC ["self","sent","bids"] ["self"] (aP nj):=⟨rfl,rfl,rfl,by decide +kernel,rfl,by decide +kernel,by decide +kernel⟩
theorem eG:bC ["self","asking","right","bids"] ["self"] (aP gP):=⟨rfl,rfl,rfl,by decide +kernel,rfl,by decide +kernel,by decide +kernel⟩
theorem vU:bC ["self","first"] ["self"] (aP pO):=⟨rfl,rfl,rfl,by decide +kernel,rfl,by decide +kernel,by decide +kernel⟩
theorem z8:bC ["self","desk"] ["self","desk"] (aP jB):=⟨rfl,rfl,rfl,by decide +kernel,rfl,by decide +kernel,by decide +kernel⟩
theorem Df:bC ["self","desk"] ["self","desk"] (aP j6):=⟨rfl,rfl,rfl,by decide +kernel,rfl,by decide +kernel,by decide +kernel⟩
theorem ac8:bC ["self","numbers"] ["self","numbers"] (aP Fp):=⟨rfl,rfl,rfl,by decide +kernel,rfl,by decide +kernel,by decide +kernel⟩
theorem Mp:bC ["self","desk","letter","loans"] ["self","desk","letter"] (aP Fq):=⟨rfl,rfl,rfl,by decide +kernel,rfl,by decide +kernel,by decide +kernel⟩
theorem ac9:bC ["self","count","numbers"] ["self","count","numbers"] (aP Ft):=⟨rfl,rfl,rfl,by decide +kernel,rfl,by decide +kernel,by decide +kernel⟩
theorem lK:bC ["self","deed","word","desk","page"] ["self","deed"] (aP uq):=⟨rfl,rfl,rfl,by decide +kernel,rfl,by decide +kernel,by decide +kernel⟩
theorem JP:bC ["self","desk"] ["self","desk"] (aP nu):=⟨rfl,rfl,rfl,by decide +kernel,rfl,by decide +kernel,by decide +kernel⟩
theorem JQ:bC ["self","page"] ["self","page"] (aP nC):=⟨rfl,rfl,rfl,by decide +kernel,rfl,by decide +kernel,by decide +kernel⟩
theorem BX:bC ["self","desk","page","done"] ["self","desk","page"] (aP ur):=⟨rfl,rfl,rfl,by decide +kernel,rfl,by decide +kernel,by decide +kernel⟩
theorem Fy:bC ["self","desk","page","number","done"] ["self","desk","page","number"] (aP xj):=⟨rfl,rfl,rfl,by decide +kernel,rfl,by decide +kernel,by decide +kernel⟩
theorem Ub:bC ["self","desk","page"] ["self","desk","page"] (aP ux):=⟨rfl,rfl,rfl,by decide +kernel,rfl,by decide +kernel,by decide +kernel⟩
theorem jb:bC ["self","desk","letter","pairs","receiver","sent"] ["self","desk"] (aP qZ):=⟨rfl,rfl,rfl,by decide +kernel,rfl,by decide +kernel,by decide +kernel⟩
theorem uB:bC ["self","desk","letter"] ["self","desk"] (aP nD):=⟨rfl,rfl,rfl,by decide +kernel,rfl,by decide +kernel,by decide +kernel⟩
theorem Fz:bC ["self","road"] ["self","road"] (aP lq):=⟨rfl,rfl,rfl,by decide +kernel,rfl,by decide +kernel,by decide +kernel⟩
theorem jK:bC ["self","desk","told","word","page","number"] ["self","desk","told"] (aP pP):=⟨rfl,rfl,rfl,by decide +kernel,rfl,by decide +kernel,by decide +kernel⟩
theorem ada:bC ["town","deed"] ["town","deed"] (aP Fv):=⟨rfl,rfl,rfl,by decide +kernel,rfl,by decide +kernel,by decide +kernel⟩
theorem xr:bC ["count","numbers","deeds","town","deed"] ["count","numbers","deeds"] (aP zW):=⟨rfl,rfl,rfl,by decide +kernel,rfl,by decide +kernel,by decide +kernel⟩
theorem ak5:bC ["count","numbers","deeds"] ["count","numbers","deeds"] (aP Xm):=⟨rfl,rfl,rfl,by decide +kernel,rfl,by decide +kernel,by decide +kernel⟩
theorem aiN:bC ["_law_found"] ["_law_found"] (aP Qw):=⟨rfl,rfl,rfl,by decide +kernel,rfl,by decide +kernel,by decide +kernel⟩
theorem apf:bC ["_law_script","_law_k"] ["_law_script","_law_k"] (aP aiM):=⟨rfl,rfl,rfl,by decide +kernel,rfl,by decide +kernel,by decide +kernel⟩
theorem yz:bC ["_law_found","_law_due","_law_left","_law_right","_law_one","_law_two"] ["_law_found","_law_due"] (aP Xn):=⟨rfl,rfl,rfl,by decide +kernel,rfl,by decide +kernel,by decide +kernel⟩
theorem sU:bC ["_law_count","_law_numbers","_law_town","_law_number","_law_shelf"] ["_law_count","_law_numbers"] (aP Fw):=⟨rfl,rfl,rfl,by decide +kernel,rfl,by decide +kernel,by decide +kernel⟩
theorem qy:bC ["_law_town","_law_page","_law_shelf","_law_desk","_law_right","_law_bids","_law_one","_law_low"] ["_law_town","_law_page"] (aP ac2):=⟨rfl,rfl,rfl,by decide +kernel,rfl,by decide +kernel,by decide +kernel⟩
theorem lE:bC ["_law_town","_law_page","_law_shelf","_law_desk","_law_right","_law_letter"] ["_law_town","_law_page"] (aP zX):=⟨rfl,rfl,rfl,by decide +kernel,rfl,by decide +kernel,by decide +kernel⟩
theorem Xu:bC ["_law_town","_law_page","_law_shelf"] ["_law_town","_law_page"] (aP Qx):=⟨rfl,rfl,rfl,by decide +kernel,rfl,by decide +kernel,by decide +kernel⟩
theorem z9:bC ["_law_town","_law_desk","_law_letter","_law_shelf"] ["_law_town","_law_desk"] (aP Fx):=⟨rfl,rfl,rfl,by decide +kernel,rfl,by decide +kernel,by decide +kernel⟩
theorem agp:bC ["_law_right","_law_wish"] ["_law_right","_law_wish"] (aP JN):=⟨rfl,rfl,rfl,by decide +kernel,rfl,by decide +kernel,by decide +kernel⟩
theorem FJ:bC ["_law_town","_law_desk","_law_wish","_law_number"] ["_law_town","_law_desk","_law_wish"] (aP xm):=⟨rfl,rfl,rfl,by decide +kernel,rfl,by decide +kernel,by decide +kernel⟩
theorem gQ:bC ["_law_town","_law_desk","_law_letter","_law_page","_law_held","_law_wish","_law_number"] ["_law_town","_law_desk"] (aP xn):=⟨rfl,rfl,rfl,by decide +kernel,rfl,by decide +kernel,by decide +kernel⟩
theorem BZ:bC ["_law_town","_law_deed","_law_desk"] ["_law_town","_law_deed"] (aP uy):=⟨rfl,rfl,rfl,by decide +kernel,rfl,by decide +kernel,by decide +kernel⟩
theorem jw:bC ["_law_town","_law_deed","_law_word","_law_desk","_law_right","_law_wish","_law_number"] ["_law_town","_law_deed"] (aP zY):=⟨rfl,rfl,rfl,by decide +kernel,rfl,by decide +kernel,by decide +kernel⟩
theorem rn:bC ["_law_cell","_law_pages","_law_far","_law_some"] ["_law_cell","_law_pages"] (aP uz):=⟨rfl,rfl,rfl,by decide +kernel,rfl,by decide +kernel,by decide +kernel⟩
theorem cU:bC ["_law_count","_law_cell","_law_last","_law_flush","_law_desk","_law_deeds"] ["_law_count","_law_cell"] (aP rm):=⟨rfl,rfl,rfl,by decide +kernel,rfl,by decide +kernel,by decide +kernel⟩
theorem cu:bC ["_law_cells","_law_count","_law_pages","_law_words","_law_asked","_law_k","_law_rest","_law_salt","_law_far","_law_word","_law_desk","_law_page","_law_odd","_law_number","_law_much"] ["_law_cells","_law_count","_law_pages"] (aP zZ):=⟨rfl,rfl,rfl,by decide +kernel,rfl,by decide +kernel,by decide +kernel⟩
theorem fC:bC ["_law_found","_law_count","_law_numbers","_law_now","_law_one","_law_part","_law_word","_law_desk","_law_page","_law_number"] ["_law_found","_law_count","_law_numbers"] (aP uA):=⟨rfl,rfl,rfl,by decide +kernel,rfl,by decide +kernel,by decide +kernel⟩
theorem rA:bC ["_law_script","_law_head","_law_count","_law_pages","_law_numbers","_law_asked","_law_ones","_law_handed","_law_found","_law_town","_law_deed"] ["_law_script"] (aP amY):=⟨rfl,rfl,rfl,by decide +kernel,rfl,by decide +kernel,by decide +kernel⟩
set_option genInjectivity false in
set_option genSizeOf false in
structure JR where
 bu:Addr
 bj:Addr
 bf:Addr
 aN:Addr
 aV:Addr
 aJ:Addr
 bK:Addr
 aD:Addr
 ie:Addr
 bz:Addr
 Aa:Addr
 agq:FuncData
 iw:Addr
 xu:FuncData
 fD:Addr
 pQ:FuncData
 gF:Addr
 uC:FuncData
 gG:Addr
 uD:FuncData
 gH:Addr
 uE:FuncData
 jf:Addr
 Ab:FuncData
 fW:Addr
 rB:FuncData
 iy:Addr
 Ac:FuncData
 dY:Addr
 pR:FuncData
 gA:Addr
 xx:FuncData
 iz:Addr
 Ad:FuncData
 iB:Addr
 Ae:FuncData
 iC:Addr
 Af:FuncData
 fL:Addr
 uF:FuncData
 eQ:Addr
 rC:FuncData
 dG:Addr
 nF:FuncData
 eV:Addr
 rD:FuncData
 cH:Addr
 jl:FuncData
 iD:Addr
 Ag:FuncData
 dH:Addr
 nJ:FuncData
 cO:Addr
 jC:FuncData
 cA:Addr
 iT:FuncData
 cI:Addr
 jm:FuncData
 du:Addr
 lR:FuncData
 bV:Addr
 gB:FuncData
 dI:Addr
 nM:FuncData
 cJ:Addr
 jn:FuncData
 cP:Addr
 jD:FuncData
 iG:Addr
 Ai:FuncData
 iH:Addr
 Aj:FuncData
 iI:Addr
 Ak:FuncData
 eX:Addr
 rE:FuncData
 dw:Addr
 lU:FuncData
 dB:Addr
 lV:FuncData
 eY:Addr
 rF:FuncData
 fM:Addr
 uG:FuncData
 eZ:Addr
 rG:FuncData
 dZ:Addr
 pU:FuncData
 dC:Addr
 lW:FuncData
 cR:Addr
 j7:FuncData
 dJ:Addr
 nO:FuncData
 dN:Addr
 uH:FuncData
 eE:Addr
 vV:FuncData
 cY:Addr
 oU:FuncData
 jg:Addr
 Al:FuncData
 iJ:Addr
 xF:FuncData
 qz:Addr
 QB:FuncData
 mJ:Addr
 JS:FuncData
 FN:Addr
 adb:FuncData
 qC:Addr
 QC:FuncData
 jh:Addr
 Am:FuncData
 vW:Addr
 Xv:FuncData
 iK:Addr
 xG:FuncData
 mK:Addr
 JT:FuncData
 ji:Addr
 An:FuncData
 j8:Addr
 FP:FuncData
 gJ:Addr
 uI:FuncData
 gK:Addr
 uJ:FuncData
 fX:Addr
 rH:FuncData
 iM:Addr
 xH:FuncData
 fY:Addr
 rJ:FuncData
 fG:Addr
 pW:FuncData
 iQ:Addr
 xJ:FuncData
 fZ:Addr
 rK:FuncData
 Xw:Addr
 aiO:FuncData
 sV:Addr
structure Txt(K:PySem.W.Frag)(w:World)(mg:Str->Option Value)(t:JR):Prop where
 arE:Exc K t.bu [.type "ValueError",.type "Exception",.type "BaseException",.type "object"]
 arF:mg "CopyError"=some (.ref t.bu)
 Xx:Exc K t.bj [.ref t.bu,.type "ValueError",.type "Exception",.type "BaseException",.type "object"]
 agr:mg "NoDesk"=some (.ref t.bj)
 Mq:Exc K t.bf [.ref t.bu,.type "ValueError",.type "Exception",.type "BaseException",.type "object"]
 ags:mg "NoPage"=some (.ref t.bf)
 yC:Exc K t.aN [.ref t.bu,.type "ValueError",.type "Exception",.type "BaseException",.type "object"]
 ach:mg "Waiting"=some (.ref t.aN)
 yD:Exc K t.aV [.ref t.bu,.type "ValueError",.type "Exception",.type "BaseException",.type "object"]
 agt:mg "NoCopy"=some (.ref t.aV)
 lX:Exc K t.aJ [.ref t.bu,.type "ValueError",.type "Exception",.type "BaseException",.type "object"]
 Xy:mg "NoLetter"=some (.ref t.aJ)
 avp:Mf K t.bj
 rP:PySem.W.kitOne K (.ref t.bj) (.ref t.bu)=some true
 fc:t.bj≠t.bu
 yE:PySem.W.kitOne K (.ref t.bj) (.ref t.bj)=some true
 yF:PySem.W.kitOne K (.ref t.bj) (.ref t.bf)=some false
 pX:t.bj≠t.bf
 vX:PySem.W.kitOne K (.ref t.bj) (.ref t.aN)=some false
 nP:t.bj≠t.aN
 yG:PySem.W.kitOne K (.ref t.bj) (.ref t.aV)=some false
 pY:t.bj≠t.aV
 uK:PySem.W.kitOne K (.ref t.bj) (.ref t.aJ)=some false
 lY:t.bj≠t.aJ
 qD:PySem.W.kitOne K (.ref t.bj) (.type "ValueError")=some true
 avq:Mf K t.bf
 rQ:PySem.W.kitOne K (.ref t.bf) (.ref t.bu)=some true
 gj:t.bf≠t.bu
 yH:PySem.W.kitOne K (.ref t.bf) (.ref t.bj)=some false
 yI:t.bf≠t.bj
 yJ:PySem.W.kitOne K (.ref t.bf) (.ref t.bf)=some true
 vY:PySem.W.kitOne K (.ref t.bf) (.ref t.aN)=some false
 nQ:t.bf≠t.aN
 yK:PySem.W.kitOne K (.ref t.bf) (.ref t.aV)=some false
 pZ:t.bf≠t.aV
 uL:PySem.W.kitOne K (.ref t.bf) (.ref t.aJ)=some false
 lZ:t.bf≠t.aJ
 qF:PySem.W.kitOne K (.ref t.bf) (.type "ValueError")=some true
 aty:Mf K t.aN
 qG:PySem.W.kitOne K (.ref t.aN) (.ref t.bu)=some true
 iR:t.aN≠t.bu
 vZ:PySem.W.kitOne K (.ref t.aN) (.ref t.bj)=some false
 v5:t.aN≠t.bj
 v7:PySem.W.kitOne K (.ref t.aN) (.ref t.bf)=some false
 v8:t.aN≠t.bf
 uM:PySem.W.kitOne K (.ref t.aN) (.ref t.aN)=some true
 v9:PySem.W.kitOne K (.ref t.aN) (.ref t.aV)=some false
 nR:t.aN≠t.aV
 rR:PySem.W.kitOne K (.ref t.aN) (.ref t.aJ)=some false
 lr:t.aN≠t.aJ
 oW:PySem.W.kitOne K (.ref t.aN) (.type "ValueError")=some true
 avr:Mf K t.aV
 rT:PySem.W.kitOne K (.ref t.aV) (.ref t.bu)=some true
 lu:t.aV≠t.bu
 yL:PySem.W.kitOne K (.ref t.aV) (.ref t.bj)=some false
 yM:t.aV≠t.bj
 yN:PySem.W.kitOne K (.ref t.aV) (.ref t.bf)=some false
 yO:t.aV≠t.bf
 wg:PySem.W.kitOne K (.ref t.aV) (.ref t.aN)=some false
 wj:t.aV≠t.aN
 yP:PySem.W.kitOne K (.ref t.aV) (.ref t.aV)=some true
 uN:PySem.W.kitOne K (.ref t.aV) (.ref t.aJ)=some false
 mj:t.aV≠t.aJ
 qH:PySem.W.kitOne K (.ref t.aV) (.type "ValueError")=some true
 arG:Mf K t.aJ
 oX:PySem.W.kitOne K (.ref t.aJ) (.ref t.bu)=some true
 oY:t.aJ≠t.bu
 uO:PySem.W.kitOne K (.ref t.aJ) (.ref t.bj)=some false
 uP:t.aJ≠t.bj
 uQ:PySem.W.kitOne K (.ref t.aJ) (.ref t.bf)=some false
 uR:t.aJ≠t.bf
 rW:PySem.W.kitOne K (.ref t.aJ) (.ref t.aN)=some false
 rY:t.aJ≠t.aN
 uT:PySem.W.kitOne K (.ref t.aJ) (.ref t.aV)=some false
 uU:t.aJ≠t.aV
 qI:PySem.W.kitOne K (.ref t.aJ) (.ref t.aJ)=some true
 nT:PySem.W.kitOne K (.ref t.aJ) (.type "ValueError")=some true
 dF:Cls K t.bK
 ade:Mk K t.bK t.iy
 atz:mg "Desk"=some (.ref t.bK)
 dU:g8 K t.bK "copies"
 jo:g8 K t.bK "wish"
 aR:Cls K t.aD
 Ao:Mk K t.aD t.dH
 agu:mg "PageLoans"=some (.ref t.aD)
 gb:g8 K t.aD "page"
 fj:g8 K t.aD "number"
 b8:g8 K t.aD "writer"
 cZ:g8 K t.aD "readers"
 di:g8 K t.aD "asked"
 eF:g8 K t.aD "awaited"
 aiP:Cls K t.ie
 adf:Mk K t.ie t.iG
 atA:mg "Hall"=some (.ref t.ie)
 qm:g8 K t.ie "pages"
 dM:Cls K t.bz
 adg:Mk K t.bz t.iI
 atB:mg "Town"=some (.ref t.bz)
 jq:g8 K t.bz "page_count"
 sW:g8 K t.bz "hall"
 gM:g8 K t.bz "desks"
 gO:g8 K t.bz "roads_up"
 gU:g8 K t.bz "roads_down"
 qJ:g8 K t.bz "row"
 ayv:jM K "_wall" "_wall" aj3 t.Aa t.agq
 ayw:Binds K t.agq ["k"] []
 ayx:mg "_wall"=some (.ref t.Aa)
 Mr:jM K "ask_letter" "ask_letter" zU t.iw t.xu
 adh:Binds K t.xu ["page","right"] []
 adi:mg "ask_letter"=some (.ref t.iw)
 Ca:jM K "answer_letter" "answer_letter" qX t.fD t.pQ
 Uc:Binds K t.pQ ["page","number"] []
 Ud:mg "answer_letter"=some (.ref t.fD)
 Io:jM K "gave_letter" "gave_letter" wZ t.gF t.uC
 aaC:Binds K t.uC ["page","number"] []
 aaD:mg "gave_letter"=some (.ref t.gF)
 Ip:jM K "lend_letter" "lend_letter" w6 t.gG t.uD
 aaE:Binds K t.uD ["page","right","number"] []
 aaF:mg "lend_letter"=some (.ref t.gG)
 xK:jM K "back_letter" "back_letter" xf t.gH t.uE
 Ir:Binds K t.uE ["page","right"] []
 Iu:mg "back_letter"=some (.ref t.gH)
 FQ:jM K "is_enough" "is_enough" Ff t.jf t.Ab
 R6:Binds K t.Ab ["right","needed"] []
 R7:mg "is_enough"=some (.ref t.jf)
 uV:jM K "right_needed" "right_needed" uh t.fW t.rB
 FT:Binds K t.rB ["wish"] []
 FW:mg "right_needed"=some (.ref t.fW)
 agv:jM K "__init__" "Desk.__init__" Fg t.iy t.Ac
 agw:Binds K t.Ac ["self"] []
 Ue:jM K "right_of" "Desk.right_of" qY t.dY t.pR
 ju:Binds K t.pR ["self","page"] []
 jc:Meth K t.bK "right_of" t.dY
 adk:jM K "waits" "Desk.waits" zV t.gA t.xx
 adl:Binds K t.xx ["self"] []
 aaG:Meth K t.bK "waits" t.gA
 agx:jM K "want" "Desk.want" Fi t.iz t.Ad
 R8:Binds K t.Ad ["self","wish"] []
 Ms:Meth K t.bK "want" t.iz
 agy:jM K "take" "Desk.take" Fj t.iB t.Ae
 agz:Binds K t.Ae ["self","letter"] []
 adm:Meth K t.bK "take" t.iB
 agA:jM K "rest" "Desk.rest" Fl t.iC t.Af
 agB:Binds K t.Af ["self","page"] []
 adn:Meth K t.bK "rest" t.iC
 aaH:jM K "may_do" "Desk.may_do" xg t.fL t.uF
 Iv:Binds K t.uF ["self","wish"] []
 FZ:Meth K t.bK "may_do" t.fL
 Xz:jM K "do_wish" "Desk.do_wish" um t.eQ t.rC
 Ga:Binds K t.rC ["self","wish"] []
 Cd:Meth K t.bK "do_wish" t.eQ
 QD:jM K "take_loan" "Desk.take_loan" pM t.dG t.nF
 QF:Binds K t.nF ["self","page","right","number"] []
 Mt:Meth K t.bK "take_loan" t.dG
 XC:jM K "go_down" "Desk.go_down" uo t.eV t.rD
 XD:Binds K t.rD ["self","page","right"] []
 Ug:Meth K t.bK "go_down" t.eV
 Dg:jM K "number_to_tell" "Desk.number_to_tell" jz t.cH t.jl
 oZ:Binds K t.jl ["self","page"] []
 nU:Meth K t.bK "number_to_tell" t.cH
 agC:jM K "hold" "Desk.hold" Fo t.iD t.Ag
 wu:Binds K t.Ag ["self","page","right","number"] []
 sX:Meth K t.bK "hold" t.iD
 QG:jM K "__init__" "PageLoans.__init__" pN t.dH t.nJ
 QH:Binds K t.nJ ["self","page","number"] []
 Gb:jM K "take_ask" "PageLoans.take_ask" j0 t.cO t.jC
 Gd:Binds K t.jC ["self","desk","right"] []
 Dh:Meth K t.aD "take_ask" t.cO
 yQ:jM K "take_answer" "PageLoans.take_answer" iZ t.cA t.iT
 yR:Binds K t.iT ["self","number"] []
 xM:Meth K t.aD "take_answer" t.cA
 Di:jM K "take_gave" "PageLoans.take_gave" jA t.cI t.jm
 Dj:Binds K t.jm ["self","desk","number"] []
 Aq:Meth K t.aD "take_gave" t.cI
 Mu:jM K "serve" "PageLoans.serve" nj t.du t.lR
 wy:Binds K t.lR ["self"] []
 uW:Meth K t.aD "serve" t.du
 uX:jM K "bids_for_first" "PageLoans.bids_for_first" gP t.bV t.gB
 uY:Binds K t.gB ["self"] []
 sY:Meth K t.aD "bids_for_first" t.bV
 QJ:jM K "lend" "PageLoans.lend" pO t.dI t.nM
 yS:Binds K t.nM ["self"] []
 wz:Meth K t.aD "lend" t.dI
 Dk:jM K "let_write" "PageLoans.let_write" jB t.cJ t.jn
 Dl:Binds K t.jn ["self","desk"] []
 Ar:Meth K t.aD "let_write" t.cJ
 Ge:jM K "let_read" "PageLoans.let_read" j6 t.cP t.jD
 Gf:Binds K t.jD ["self","desk"] []
 Dm:Meth K t.aD "let_read" t.cP
 agD:jM K "__init__" "Hall.__init__" Fp t.iG t.Ai
 agE:Binds K t.Ai ["self","numbers"] []
 agF:jM K "take" "Hall.take" Fq t.iH t.Aj
 agG:Binds K t.Aj ["self","desk","letter"] []
 ado:Meth K t.ie "take" t.iH
 agH:jM K "__init__" "Town.__init__" Ft t.iI t.Ak
 agI:Binds K t.Ak ["self","count","numbers"] []
 XF:jM K "do_deed" "Town.do_deed" uq t.eX t.rE
 XH:Binds K t.rE ["self","deed"] []
 Uh:Meth K t.bz "do_deed" t.eX
 Mw:jM K "check_desk" "Town.check_desk" nu t.dw t.lU
 Mx:Binds K t.lU ["self","desk"] []
 JV:Meth K t.bz "check_desk" t.dw
 My:jM K "check_page" "Town.check_page" nC t.dB t.lV
 Mz:Binds K t.lV ["self","page"] []
 JW:Meth K t.bz "check_page" t.dB
 XJ:jM K "look_at" "Town.look_at" ur t.eY t.rF
 XM:Binds K t.rF ["self","desk","page"] []
 Ui:Meth K t.bz "look_at" t.eY
 aaI:jM K "put_on" "Town.put_on" xj t.fM t.uG
 aaJ:Binds K t.uG ["self","desk","page","number"] []
 XN:Meth K t.bz "put_on" t.fM
 XQ:jM K "give_up" "Town.give_up" ux t.eZ t.rG
 XR:Binds K t.rG ["self","desk","page"] []
 Uj:Meth K t.bz "give_up" t.eZ
 Uk:jM K "bring_up" "Town.bring_up" qZ t.dZ t.pU
 Ul:Binds K t.pU ["self","desk"] []
 QK:Meth K t.bz "bring_up" t.dZ
 MF:jM K "bring_down" "Town.bring_down" nD t.dC t.lW
 MJ:Binds K t.lW ["self","desk"] []
 JX:Meth K t.bz "bring_down" t.dC
 Ig:jM K "first_letter" "Town.first_letter" lq t.cR t.j7
 rZ:Binds K t.j7 ["self","road"] []
 qK:Meth K t.bz "first_letter" t.cR
 QL:jM K "carry_out" "Town.carry_out" pP t.dJ t.nO
 p6:Binds K t.nO ["self","desk","told"] []
 nY:Meth K t.bz "carry_out" t.dJ
 aj4:jM K "all_rights" "Town.all_rights" vQ t.dN t.uH
 aj5:Binds K t.uH ["self"] []
 aiQ:Meth K t.bz "all_rights" t.dN
 ak6:jM K "rights_of" "Town.rights_of" yx t.eE t.vV
 ak7:Binds K t.vV ["self","desk"] []
 aj6:Meth K t.bz "rights_of" t.eE
 agJ:jM K "waiting_desks" "Town.waiting_desks" qx t.cY t.oU
 agK:Binds K t.oU ["self"] []
 afG:Meth K t.bz "waiting_desks" t.cY
 R9:jM K "answer_of" "answer_of" Fv t.jg t.Al
 agL:Binds K t.Al ["town","deed"] []
 agM:mg "answer_of"=some (.ref t.jg)
 MK:jM K "town_after" "town_after" zW t.iJ t.xF
 adp:Binds K t.xF ["count","numbers","deeds"] []
 adq:mg "town_after"=some (.ref t.iJ)
 agN:jM K "row_of" "row_of" Xm t.qz t.QB
 amZ:Binds K t.QB ["count","numbers","deeds"] []
 am0:mg "row_of"=some (.ref t.qz)
 QM:jM K "_law_whole" "_law_whole" Qw t.mJ t.JS
 aci:Binds K t.JS ["_law_found"] []
 acj:mg "_law_whole"=some (.ref t.mJ)
 XS:jM K "_law_at" "_law_at" aiM t.FN t.adb
 adt:Binds K t.adb ["_law_script","_law_k"] []
 adu:mg "_law_at"=some (.ref t.FN)
 MN:jM K "_law_same" "_law_same" Xn t.qC t.QC
 XX:Binds K t.QC ["_law_found","_law_due"] []
 X3:mg "_law_same"=some (.ref t.qC)
 Sd:jM K "_law_town_of" "_law_town_of" Fw t.jh t.Am
 agO:Binds K t.Am ["_law_count","_law_numbers"] []
 agP:mg "_law_town_of"=some (.ref t.jh)
 aj7:jM K "_law_bid" "_law_bid" ac2 t.vW t.Xv
 apg:Binds K t.Xv ["_law_town","_law_page"] []
 aph:mg "_law_bid"=some (.ref t.vW)
 Av:jM K "_law_lend_out" "_law_lend_out" zX t.iK t.xG
 MP:Binds K t.xG ["_law_town","_law_page"] []
 MT:mg "_law_lend_out"=some (.ref t.iK)
 QQ:jM K "_law_serve" "_law_serve" Qx t.mK t.JT
 ack:Binds K t.JT ["_law_town","_law_page"] []
 acn:mg "_law_serve"=some (.ref t.mK)
 Sg:jM K "_law_came_up" "_law_came_up" Fx t.ji t.An
 agQ:Binds K t.An ["_law_town","_law_desk"] []
 agR:mg "_law_came_up"=some (.ref t.ji)
 JZ:jM K "_law_enough" "_law_enough" JN t.j8 t.FP
 X4:Binds K t.FP ["_law_right","_law_wish"] []
 X5:mg "_law_enough"=some (.ref t.j8)
 xN:jM K "_law_fulfilled" "_law_fulfilled" xm t.gJ t.uI
 Iw:Binds K t.uI ["_law_town","_law_desk","_law_wish"] []
 Iz:mg "_law_fulfilled"=some (.ref t.gJ)
 IK:jM K "_law_came_down" "_law_came_down" xn t.gK t.uJ
 aaK:Binds K t.uJ ["_law_town","_law_desk"] []
 aaL:mg "_law_came_down"=some (.ref t.gK)
 Gg:jM K "_law_refusal_of" "_law_refusal_of" uy t.fX t.rH
 X6:Binds K t.rH ["_law_town","_law_deed"] []
 X7:mg "_law_refusal_of"=some (.ref t.fX)
 M8:jM K "_law_answered" "_law_answered" zY t.iM t.xH
 adv:Binds K t.xH ["_law_town","_law_deed"] []
 adw:mg "_law_answered"=some (.ref t.iM)
 Gh:jM K "_law_numbers_of" "_law_numbers_of" uz t.fY t.rJ
 X8:Binds K t.rJ ["_law_cell","_law_pages"] []
 Yb:mg "_law_numbers_of"=some (.ref t.fY)
 Ce:jM K "_law_first_deeds" "_law_first_deeds" rm t.fG t.pW
 Um:Binds K t.pW ["_law_count","_law_cell"] []
 Uo:mg "_law_first_deeds"=some (.ref t.fG)
 M9:jM K "_law_asked_of" "_law_asked_of" zZ t.iQ t.xJ
 adx:Binds K t.xJ ["_law_cells","_law_count","_law_pages"] []
 ady:mg "_law_asked_of"=some (.ref t.iQ)
 Gi:jM K "_law_row_walked" "_law_row_walked" uA t.fZ t.rK
 Yc:Binds K t.rK ["_law_found","_law_count","_law_numbers"] []
 Yd:mg "_law_row_walked"=some (.ref t.fZ)
 awB:jM K "law" "law" amY t.Xw t.aiO
 aBi:Binds K t.aiO ["_law_script"] []
 aBj:mg "law"=some (.ref t.Xw)
 QR:∃u,mg "NONE"=some (.str "none" u)
 aiR:∃u,mg "READ"=some (.str "read" u)
 Wv:∃u,mg "WRITE"=some (.str "write" u)
 aj8:mg "RANKS"=some (.ref t.sV)
 aj9:KDict K w t.sV [("none",V.int 0),("read",V.int 1),("write",V.int 2)]
 am1:∃u,mg "DONE"=some (.str "done" u)
 aka:∃u,mg "WAITS"=some (.str "waits" u)
 wA:mg "len"=none
 agS:mg "enumerate"=none
 nZ:mg "range"=none
 d9:mg "isinstance"=none
 Nb:mg "int"=none
 atD:mg "bool"=none
 Gj:mg "list"=none
 Ww:mg "tuple"=none
 am2:mg "str"=none
end gn
namespace gn
open PySem L2
theorem agT(r:Rt):([("none",V.int 0),("read",V.int 1),("write",V.int 2)]:List (Str×V)).lookup r.s=some (.int r.k):=by cases r<;>rfl
theorem ak8{kvs:List (Key×V)}{k j:Key}:fQ (yj kvs k) j=if j=k then none else fQ kvs j:=by
 induction kvs with
 | nil=>simp[yj,fQ]
 | cons p r ih =>
   by_cases e:p.1=k
   ·rw[akT e,ih]
    by_cases ej:j=k
    ·rw[if_pos ej,if_pos ej]
    ·rw[if_neg ej,if_neg ej]
     have:p.1≠j:=fun z=>ej (z.symm.trans e)
     simp[fQ,List.find?_cons,this]
   ·rw[akU e]
    by_cases ej:j=k
    ·rw[if_pos ej]
     subst ej
     rw[if_pos rfl]at ih
     simp only[fQ,List.find?_cons,e,decide_false]at ih ⊢
     exact ih
    ·rw[if_neg ej]at ih ⊢
     by_cases ep:p.1=j
     ·simp[fQ,List.find?_cons,ep]
     ·simp only[fQ,List.find?_cons,ep,decide_false]at ih ⊢
      exact ih
section
variable{P:Program}{w:World}{K:PySem.W.Frag}{mg:Str->Option Value}{base:Heap}{t:JR}
theorem aaM(T:Txt K w mg t):dj P w K mg base oM 1 t.iw t.xu ["page","right"] (af9 "ask"):=by
 refine T.Mr.ok aaA (fun vs H Q E h=>?_) (fun cdv A outer s H vs Q E hr h=>?_)
 ·obtain⟨x,y,rfl,_⟩:=h;rfl
 ·obtain⟨x,y,rfl,k⟩:=h
  refine⟨_,(aA (aZ (cg (aa aC (aa (pv 0) (aa (pv 1) ao)))))),?_⟩
  try dsimp only[dD,Cx.kZ]
  exact⟨_,rfl,_,rfl,zz3,fun a ha=>k a ha⟩
theorem QS(T:Txt K w mg t):dj P w K mg base oM 1 t.fD t.pQ ["page","number"] (af9 "answer"):=by
 refine T.Ca.ok Qy (fun vs H Q E h=>?_) (fun cdv A outer s H vs Q E hr h=>?_)
 ·obtain⟨x,y,rfl,_⟩:=h;rfl
 ·obtain⟨x,y,rfl,k⟩:=h
  refine⟨_,(aA (aZ (cg (aa aC (aa (pv 0) (aa (pv 1) ao)))))),?_⟩
  try dsimp only[dD,Cx.kZ]
  exact⟨_,rfl,_,rfl,zz3,fun a ha=>k a ha⟩
theorem Ye(T:Txt K w mg t):dj P w K mg base oM 1 t.gF t.uC ["page","number"] (af9 "gave"):=by
 refine T.Io.ok Xo (fun vs H Q E h=>?_) (fun cdv A outer s H vs Q E hr h=>?_)
 ·obtain⟨x,y,rfl,_⟩:=h;rfl
 ·obtain⟨x,y,rfl,k⟩:=h
  refine⟨_,(aA (aZ (cg (aa aC (aa (pv 0) (aa (pv 1) ao)))))),?_⟩
  try dsimp only[dD,Cx.kZ]
  exact⟨_,rfl,_,rfl,zz3,fun a ha=>k a ha⟩
theorem Nf(T:Txt K w mg t):dj P w K mg base oM 1 t.jf t.Ab ["right","needed"] amD:=by
 refine T.FQ.ok ac3 (fun vs H Q E h=>?_) (fun cdv A outer s H vs Q E hr h=>?_)
 ·obtain⟨x,y,rfl,_⟩:=h;rfl
 ·obtain⟨r,n,rfl,k⟩:=h
  refine⟨_,(aA (aZ (mV Ls (ajJ (by rfl) T.aj8 T.aj9 (pv 0) (fun _ _=>rfl)) (ajJ (by rfl) T.aj8 T.aj9 (pv 1) (fun _ _=>rfl)) (aW _)))),?_⟩
  try dsimp only[dD,Cx.kZ]
  exact⟨_,rfl,_,_,rfl,agT r,_,rfl,_,_,rfl,agT n,_,_,rfl,rfl,k⟩
theorem Cg(T:Txt K w mg t):dj P w K mg base oM 1 t.fW t.rB ["wish"] (asS K):=by
 refine T.uV.ok Ua (fun vs H Q E h=>?_) (fun cdv A outer s H vs Q E hr h=>?_)
 ·obtain⟨x,y,rfl,_⟩:=h;rfl
 ·obtain⟨a,w,rfl,ha,k⟩:=h
  refine⟨_,(aA (aZ (qp (aQ cQ (aO bB (pv 0) az (fun _ _=>rfl)) aC (aW _)) (ir (by rfl) T.Wv) (ir (by rfl) T.aiR)))),?_⟩
  try dsimp only[dD,Cx.kZ]
  cases w with
  | look p =>
    refine zt rfl (cW.of ha) rfl ⟨rfl,_,rfl,?_⟩
    rw[dm (by decide +kernel)]
    exact wY k
  | put p n =>
    refine zt rfl (cW.of ha) rfl ⟨rfl,_,rfl,?_⟩
    rw[fJ]
    exact qt k
theorem adz(T:Txt K w mg t):dj P w K mg base oM 1 t.iy t.Ac ["self"] (asT t.bK):=by
 refine T.agv.ok ac4 (fun vs H Q E h=>?_) (fun cdv A outer s H vs Q E hr h=>?_)
 ·obtain⟨x,y,rfl,_⟩:=h;rfl
 ·obtain⟨p,dx,rfl,hp,k⟩:=h
  refine⟨_,(ak (gk (pv 0) amo (by rfl))
   (aA (gk (pv 0) tV (by rfl)))),?_⟩
  try dsimp only[dD,Cx.kZ]
  show let Z1:L2.TS:=_;let Z2:L2.TS:=_;let D0:Ends:=_;(aU Z1 (Z2)) D0 _ _
  intro Z1 Z2 D0
  intro d hd
  have npd:p≠d:=aG hp hd
  refine⟨_,rfl,p,t.bK,dx,[],rfl,(by rw[aq npd];exact hp),T.dF,T.dU,(by show 0<1000;decide),_,rfl,p,t.bK,dx,_,rfl,aj,T.dF,T.jo,(by show 1<1000;decide),?_⟩
  refine k d _ hd ⟨⟨dx,.non,aj,rfl⟩,⟨[],by rw[aq npd.symm,aq npd.symm,aj],Nat.le_refl _,fun n=>rfl⟩⟩ fun b o e hb=>?_
  rw[aq hb,aq hb,aq (aG e hd)]
  exact e
theorem jd(T:Txt K w mg t):dj P w K mg base oM 1 t.dY t.pR ["self","page"] (ao1 t.bK):=by
 refine T.Ue.ok Qz (fun vs H Q E h=>?_) (fun cdv A outer s H vs Q E hr h=>?_)
 ·obtain⟨p,d,S,c,n,rfl,_⟩:=h;rfl
 ·obtain⟨p,d,S,c,n,rfl,DA,k⟩:=h
  have hu:=lA hr
  obtain⟨⟨dx,v,h1,_⟩,⟨kvs,h2,h3,h4⟩⟩:=id DA
  refine⟨_,(aA (aZ (qp (wW (asy hu (pv 1) (cL (pv 0) (by rfl)))) (aO bB (bH hu (cL (pv 0) (by rfl)) (pv 1) (fun _ _=>rfl)) az (fun _ _=>rfl)) (ir (by rfl) T.QR)))),?_⟩
  try dsimp only[dD,Cx.kZ]
  refine⟨_,rfl,_,rfl,p,_,dx,_,_,rfl,h1,T.dF,T.dU,jU _ _,d,_,rfl,Ib.k (k:=Sum.inl n) h2,_,rfl,?_⟩
  have h5:=h4 n
  unfold t8 at h5
  split at h5
  ·rename_i e
   rw[h5]
   refine wY ?_
   rw[e]at k
   exact k
  ·rename_i e
   obtain⟨tt,e1,e2⟩:=h5
   rw[e1]
   refine qt ?_
   exact⟨_,rfl,p,_,dx,_,_,rfl,h1,T.dF,T.dU,jU _ _,_,rfl,d,.ref tt,rfl,(by rw[<-e1];exact Ib.k (k:=Sum.inl n) h2),tt,_,0,_,rfl,rfl,cW.of e2,rfl,k⟩
theorem W.at1(w:W):Ql w.vs 1=some (.int w.pg):=by cases w<;>rfl
theorem W.at0(w:W):Ql w.vs 0=some (.str w.tag):=by cases w<;>rfl
theorem Gk(T:Txt K w mg t):dj P w K mg base oM 2 t.fL t.uF ["self","wish"] (awn t.bK):=by
 refine T.aaH.ok Xr (fun vs H Q E h=>?_) (fun cdv A outer s H vs Q E hr h=>?_)
 ·obtain⟨p,d,S,c,a,w,rfl,_⟩:=h;rfl
 ·obtain⟨p,d,S,c,a,w,rfl,DA,ha,k⟩:=h
  have hu:=lA hr
  obtain⟨⟨dx,v,h1,_⟩,_⟩:=id DA
  refine⟨_,(aA (aZ (cB (Nf T) (hr.mono (by decide):bQ 1 _) (by rfl) T.R7 T.FQ.kp T.R6 .nil bW (aa (cD (pv 0) T.dF T.jc (jd T) (hr.mono (by decide):bQ 1 _) T.ju .nil bW (aa (aO bB (pv 1) az (fun _ _=>rfl)) ao)) (aa (cB (Cg T) (hr.mono (by decide):bQ 1 _) (by rfl) T.FW T.uV.kp T.FT .nil bW (aa (pv 1) ao)) ao))))),?_⟩
  try dsimp only[dD,Cx.kZ]
  exact⟨_,rfl,p,dx,_,rfl,h1,fH _ _ (by decide +kernel) (by decide +kernel),zt rfl (cW.of ha) (W.at1 w) ⟨p,d,S,c,w.pg,rfl,DA,_,rfl,a,w,rfl,ha,S.rt w.pg,w.need,rfl,k⟩⟩
theorem n6(T:Txt K w mg t):dj P w K mg base oM 2 t.cH t.jl ["self","page"] (asU t.bK):=by
 refine T.Dg.ok z6 (fun vs H Q E h=>?_) (fun cdv A outer s H vs Q E hr h=>?_)
 ·obtain⟨p,d,S,c,n,rfl,_⟩:=h;rfl
 ·obtain⟨p,d,S,c,n,rfl,DA,k⟩:=h
  have hu:=lA hr
  obtain⟨⟨dx,v,h1,_⟩,⟨kvs,h2,h3,h4⟩⟩:=id DA
  refine⟨_,(aA (aZ (qp (aQ cQ (cD (pv 0) T.dF T.jc (jd T) (hr.mono (by decide):bQ 1 _) T.ju .nil bW (aa (pv 1) ao)) (ir (by rfl) T.Wv) (aW _)) (aO bB (bH hu (cL (pv 0) (by rfl)) (pv 1) (fun _ _=>rfl)) az (fun _ _=>rfl)) tV))),?_⟩
  try dsimp only[dD,Cx.kZ]
  refine⟨_,rfl,p,dx,_,rfl,h1,fH _ _ (by decide +kernel) (by decide +kernel),_,rfl,p,d,S,c,n,rfl,DA,rfl,_,rfl,?_⟩
  unfold DS.tell at k
  by_cases e:S.rt n=.wr
  ·have h5:=h4 n
   unfold t8 at h5
   rw[e,if_neg (by intro z;cases z)]at h5
   rw[if_pos e]at k
   rw[e]
   obtain⟨tt,e1,e2⟩:=h5
   refine qt ?_
   exact⟨_,rfl,p,_,dx,_,_,rfl,h1,T.dF,T.dU,jU _ _,_,rfl,d,.ref tt,rfl,(by rw[<-e1];exact Ib.k (k:=Sum.inl n) h2),tt,_,1,_,rfl,rfl,cW.of e2,rfl,k⟩
  ·rw[if_neg e]at k
   exact aM (oN (x:="write") (q:=.wr) rfl e) k
theorem sZ(T:Txt K w mg t):dj P w K mg base oM 1 t.iD t.Ag ["self","page","right","number"] (asV t.bK):=by
 refine T.agC.ok ac7 (fun vs H Q E h=>?_) (fun cdv A outer s H vs Q E hr h=>?_)
 ·obtain⟨p,d,S,c,n,r,k,v,rfl,_⟩:=h;rfl
 ·obtain⟨p,d,S,c,n,r,z,v,rfl,DA,hc,hv,k⟩:=h
  have hu:=lA hr
  have npd:=DA.npd
  obtain⟨⟨dx,u,h1,hw⟩,⟨kvs,h2,h3,h4⟩⟩:=id DA
  refine⟨_,(aA (bU (aQ cQ (pv 2) (ir (by rfl) T.QR) (aW _)) (aA (bO (amq (cL (pv 0) (by rfl)) (pv 1) tV ⟨rfl,rfl,rfl,rfl⟩))) (aA (lG hu (cL (pv 0) (by rfl)) (pv 1) (cg (aa (pv 2) (aa (pv 3) ao))) (by rfl))))),?_⟩
  try dsimp only[dD,Cx.kZ]
  show let Z1:L2.TS:=_;let Z2:L2.TS:=_;let Z3:L2.TS:=cT _ Z1 Z2;let D0:Ends:=_;(Z3) D0 _ _
  intro Z1 Z2 Z3 D0
  refine⟨_,rfl,rfl,_,rfl,?_⟩
  by_cases e:r=.no
  ·subst e
   refine qt ?_
   have fin:∀kvs',kvs'.length<=c->(∀j:Int,fQ kvs' (Sum.inl j:Key)=if(Sum.inl j:Key)=Sum.inl n then none else fQ kvs (Sum.inl j:Key))->Q V.non (upd H d (.dK kvs')):=fun kvs' hl hval=>by
    have ts:b7 H (upd H d (.dK kvs')):=fun b xs e=>by rw[aq (jr e h2 (by intro z;cases z))];exact e
    refine k _ ⟨⟨dx,u,by rw[aq npd];exact h1,hw.aX ts⟩,⟨kvs',aj,Nat.le_succ_of_le hl,fun j=>?_⟩⟩ fun b o e hp hd=>by rw[aq hd];exact e
    rw[hval j]
    by_cases ej:j=n
    ·subst ej
     rw[DS.qj,DS.vH,if_pos rfl]
     unfold t8
     rw[if_pos rfl]
    ·have:=(h4 j).aX ts
     rw[if_neg (fun z=>ej (Sum.inl.inj z)),DS.qu _ _ _ ej,DS.qw _ _ _ ej]
     exact this
   refine⟨_,rfl,p,_,dx,_,_,rfl,h1,T.dF,T.dU,jU _ _,d,rfl,.inl ⟨kvs,.inl h2⟩,_,rfl,kvs,Sum.inl n,h2,rfl,fun v' hv'=>?_,fun hn=>?_⟩
   ·exact fin _ (Nat.le_trans (afW _ _) h3) fun j=>ak8
   ·have q:=fin kvs h3 fun j=>by
     by_cases ej:(Sum.inl j:Key)=Sum.inl n
     ·rw[if_pos ej,ej];exact hn
     ·rw[if_neg ej]
    have eq:upd H d (.dK kvs)=H:=by
     funext b
     by_cases hb:b=d
     ·rw[hb,aj,h2]
     ·rw[aq hb]
    rw[eq]at q
    exact q
  ·refine aM (oN (x:="none") (q:=.no) rfl e) ?_
   have hv':v=.int z:=hv.resolve_left e
   subst hv'
   refine⟨_,rfl,_,rfl,vA,fun tt htt=>?_⟩
   have ntd:d≠tt:=aG h2 htt
   have ntp:p≠tt:=aG h1 htt
   refine⟨_,rfl,p,_,dx,_,_,rfl,(by rw[aq ntp];exact h1),T.dF,T.dU,jU _ _,_,rfl,d,_,rfl,aip.k (k:=Sum.inl n) (by rw[aq ntd];exact h2) (Nat.lt_of_le_of_lt (Nat.le_trans h3 hc) (by decide)),?_⟩
   have ts:b7 H (upd (upd H tt (.tup [.str r.s,.int z])) d (.dK (putK kvs (Sum.inl n) (.ref tt)))):=fun b xs e=>by
    rw[aq (jr e h2 (by intro z;cases z)),aq (aG e htt)]
    exact e
   refine k _ ⟨⟨dx,u,by rw[aq npd,aq ntp];exact h1,hw.aX ts⟩,⟨_,aj,Nat.le_trans (vG _ _ _) (Nat.succ_le_succ h3),fun j=>?_⟩⟩ fun b o e hp hd=>by rw[aq hd,aq (aG e htt)];exact e
   rw[amm]
   by_cases ej:j=n
   ·subst ej
    rw[DS.qj,DS.vH,if_pos rfl]
    unfold t8
    rw[if_neg e]
    exact⟨tt,rfl,by rw[aq ntd.symm,aj]⟩
   ·have:=(h4 j).aX ts
    rw[if_neg (fun z=>ej (Sum.inl.inj z)),DS.qu _ _ _ ej,DS.qw _ _ _ ej]
    exact this
end
end gn
namespace gn
open PySem L2
section
variable{P:Program}{w:World}{K:PySem.W.Frag}{mg:Str->Option Value}{base:Heap}{t:JR}
theorem cj.new{C:Addr}{H:Hp}{p d a:Addr}{o:HO}{S:DS}{c:Nat}(D:cj C H p d S c)(h:H a=none):cj C (upd H a o) p d S c:=D.same (aB h)
theorem cj.copy{C:Addr}{H:Hp}{p d:Addr}{S:DS}{c:Nat}(D:cj C H p d S c){n:Int}(h:S.rt n≠.no):∃kvs tt,H d=some (.dK kvs)/\fQ kvs (Sum.inl n:Key)=some (.ref tt)/\H tt=some (.tup [.str (S.rt n).s,.int (S.nm n)]):=by
 obtain⟨_,⟨kvs,h2,_,h4⟩⟩:=D
 have h5:=h4 n
 unfold t8 at h5
 rw[if_neg h]at h5
 obtain⟨tt,e1,e2⟩:=h5
 exact⟨kvs,tt,h2,e1,e2⟩
theorem DS.awC{S:DS}{w:W}(h:S.ok w):S.rt w.pg≠.no:=fun e=>by
 unfold DS.ok at h
 rw[e]at h
 cases w<;>simp[W.need,Rt.k]at h
theorem DS.api(S:DS)(w:W)(q:Int):(S.done w).rt q=S.rt q:=by
 cases w with
 | look p=>rfl
 | put p n=>show(if q=p then S.rt p else S.rt q)=S.rt q;split<;>simp_all
theorem DS.apj(S:DS)(w:W):(S.done w).nm w.pg=S.num w:=by
 cases w with
 | look p=>rfl
 | put p n=>show(if p=p then n else S.nm p)=n;rw[if_pos rfl]
theorem Ci(T:Txt K w mg t):dj P w K mg base oM 2 t.eQ t.rC ["self","wish"] (azE t.bK):=by
 refine T.Xz.ok BV (fun vs H Q E h=>?_) (fun cdv A outer s H vs Q E hr h=>?_)
 ·obtain⟨p,d,S,c,a,w,rfl,_⟩:=h;rfl
 ·obtain⟨p,d,S,c,a,w,rfl,DA,hc,ha,hok,k⟩:=h
  have hu:=lA hr
  obtain⟨⟨dx,v,h1,_⟩,_⟩:=id DA
  refine⟨_,(ak (bx (i:=2) BV.nd rfl (Or.inl rfl) (aO bB (pv 1) az (fun _ _=>rfl)))
   (ak (bU (aQ cQ (aO bB (pv 1) az (fun _ _=>rfl)) aC (aW _)) (aA (bO (cD (pv 0) T.dF T.sX (sZ T) (hr.mono (by decide):bQ 1 _) T.wu .nil bW (aa (pv 2) (aa (cD (pv 0) T.dF T.jc (jd T) (hr.mono (by decide):bQ 1 _) T.ju .nil bW (aa (pv 2) ao)) (aa (aO bB (pv 1) az (fun _ _=>rfl)) ao)))))) bw)
   (aA (aZ (cg (aa (aO bB (pv 1) az (fun _ _=>rfl)) (aa (pv 2) (aa (aO bB (bH hu (cL (pv 0) (by rfl)) (pv 2) (fun _ _=>rfl)) az (fun _ _=>rfl)) ao)))))))),?_⟩
  try dsimp only[dD,Cx.kZ]
  show let Z1:L2.TS:=_;let Z2:L2.TS:=_;let Z3:L2.TS:=cT _ Z2 bJ;let Z4:L2.TS:=_;let D0:Ends:=_;(aU Z1 (aU Z3 (Z4))) D0 _ _
  intro Z1 Z2 Z3 Z4 D0
  refine zt rfl (cW.of ha) (W.at1 w) (zt rfl (cW.of ha) (W.at0 w) ⟨rfl,_,rfl,?_⟩)
  have fin:∀H1:Hp,cj t.bK H1 p d (S.done w) (c+1)->DF H H1 p d->
   (asa (amb (my (WL (ail K) (jj 1) (tC (.int 0))) (my (jj 2) (my (WL (ail K) (W2 (acN K (jj 0) "copies") (jj 2)) (tC (.int 1))) Ia)))))
     {nx:=fun _ H'=>Q .non H',rt:=Q} [some (.ref p),some (.ref a),some (.int w.pg)] H1:=fun H1 D1 f1=>by
   have ha1:=(f1.tups DA) a _ ha
   obtain⟨⟨zF,v1,g1,_⟩,_⟩:=id D1
   have hno:(S.done w).rt w.pg≠.no:=by rw[DS.api];exact DS.awC hok
   obtain⟨kvs,tt,h2,e1,e2⟩:=D1.copy hno
   refine zt rfl (cW.of ha1) (W.at0 w) ⟨_,rfl,_,rfl,p,_,zF,_,_,rfl,g1,T.dF,T.dU,jU _ _,_,rfl,d,.ref tt,rfl,(by rw[<-e1];exact Ib.k (k:=Sum.inl w.pg) h2),tt,_,1,.int (S.num w),rfl,rfl,cW.of e2,(by rw[DS.apj];rfl),zz3,fun u hu=>?_⟩
   exact k u _ (D1.new hu) (f1.trans (DF.new hu)) aj
  cases w with
  | look q =>
    refine aM (dm (show("look":Str)≠"put" by decide +kernel)) ?_
    exact fin H (DA.mono (Nat.le_succ _)) (DF.refl _ _ _)
  | put q n =>
    refine bG fJ ?_
    refine⟨_,rfl,p,dx,_,rfl,h1,fH _ _ (by decide +kernel) (by decide +kernel),_,rfl,_,rfl,p,dx,_,rfl,h1,fH _ _ (by decide +kernel) (by decide +kernel),_,rfl,p,d,S,c,q,rfl,DA,zt rfl (cW.of ha) rfl ⟨p,d,S,c,q,S.rt q,n,.int n,rfl,DA,hc,.inr rfl,fun H1 D1 f1=>?_⟩⟩
    exact fin H1 D1 f1
theorem Ng(T:Txt K w mg t):dj P w K mg base oM 3 t.dG t.nF ["self","page","right","number"] (asW t.bK):=by
 refine T.QD.ok vR (fun vs H Q E h=>?_) (fun cdv A outer s H vs Q E hr h=>?_)
 ·obtain⟨p,d,S,c,n,r,z,rfl,_⟩:=h;rfl
 ·obtain⟨p,d,S,c,n,r,z,rfl,DA,hc,k⟩:=h
  have hu:=lA hr
  obtain⟨⟨dx,v,h1,_⟩,_⟩:=id DA
  refine⟨_,(ak (bO (cD (pv 0) T.dF T.sX (sZ T) (hr.mono (by decide):bQ 1 _) T.wu .nil bW (aa (pv 1) (aa (pv 2) (aa (pv 3) ao)))))
   (ak (bx (i:=4) vR.nd rfl (Or.inl rfl) (cL (pv 0) (by rfl)))
   (ak (bU (PW.pt (mU (wW (ah6 (pv 4))) (mU (aQ tZ (aO bB (pv 4) az (fun _ _=>rfl)) (pv 1) (aW _)) (lL (qW (jO (cD (pv 0) T.dF T.FZ (Gk T) (hr.mono (by decide):bQ 2 _) T.Iv .nil bW (aa (pv 4) ao)))))))) (aA (aZ (bN ao))) bw)
   (ak (gk (pv 0) tV (by rfl))
   (aA (aZ (bN (aa (cD (pv 0) T.dF T.Cd (Ci T) (hr.mono (by decide):bQ 2 _) T.Ga .nil bW (aa (pv 4) ao)) ao)))))))),?_⟩
  try dsimp only[dD,Cx.kZ]
  show let Z1:L2.TS:=_;let Z2:L2.TS:=_;let Z3:L2.TS:=_;let Z4:L2.TS:=cT _ Z3 bJ;let Z5:L2.TS:=_;let Z6:L2.TS:=_;let D0:Ends:=_;(aU Z1 (aU Z2 (aU Z4 (aU Z5 (Z6))))) D0 _ _
  intro Z1 Z2 Z3 Z4 Z5 Z6 D0
  refine⟨_,rfl,p,dx,_,rfl,h1,fH _ _ (by decide +kernel) (by decide +kernel),_,rfl,_,rfl,_,rfl,p,d,S,c,n,r,z,.int z,rfl,DA,by lia,.inr rfl,fun H1 D1 f1=>?_⟩
  obtain⟨⟨zF,v1,g1,gw⟩,⟨azL,g2,g3,g4⟩⟩:=id D1
  have npd:=D1.npd
  refine⟨_,rfl,p,_,zF,_,_,rfl,g1,T.dF,T.jo,ab8 _ _,?_⟩
  have gw':t7 H1 v1 S.ws:=gw
  have none_:(S.gq n r z).2=[]->(S.gq n r z).1=S.hold n r z->∀l,H1 l=none->Q (.ref l) (upd H1 l (.lst [])):=fun e1 e2 l hl=>by
   refine k _ _ ?_ (f1.trans (DF.new hl)) ?_
   ·rw[e2];exact(D1.new hl).mono (Nat.le_succ _)
   ·rw[e1];exact jV ((f1.kept DA D1).free hl) hl (by simp only[aH])
  cases hws:S.ws with
  | none =>
    rw[hws]at gw'
    have ev:v1=.non:=gw'
    subst ev
    have e:S.gq n r z=(S.hold n r z,[]):=by unfold DS.gq;rw[hws]
    refine⟨_,rfl,_,rfl,?_⟩
    refine bG rfl (qt ?_)
    exact⟨Eo,fun l hl=>none_ (by rw[e]) (by rw[e]) l hl⟩
  | some w =>
    rw[hws]at gw'
    obtain⟨a,ev,ha⟩:=gw'
    subst ev
    refine⟨_,rfl,_,rfl,?_⟩
    refine aM (decide_eq_false fun z=>by cases z) ?_
    refine zt rfl (cW.of ha) (W.at1 w) ⟨_,rfl,rfl,_,rfl,?_⟩
    by_cases epg:w.pg=n
    ·refine aM (by rw[epg];simp) ?_
     refine⟨_,rfl,p,zF,_,rfl,g1,fH _ _ (by decide +kernel) (by decide +kernel),_,rfl,p,d,_,_,a,w,rfl,D1,ha,_,rfl,?_⟩
     by_cases hok:(S.hold n r z).ok w
     ·refine aM (by rw[decide_eq_true hok];rfl) ?_
      refine⟨_,rfl,p,_,zF,_,rfl,g1,T.dF,T.jo,(by rw[af8];show 2<1000;decide),?_⟩
      rw[af7]
      have D2:cj t.bK (upd H1 p (.ins t.bK zF (Dd d .non))) p d ({S.hold n r z with ws:=none}) (c+1):=by
       have ts:b7 H1 (upd H1 p (.ins t.bK zF (Dd d .non))):=fun b xs e=>by rw[aq (jr e g1 (by intro z;cases z))];exact e
       exact⟨⟨zF,.non,aj,rfl⟩,⟨azL,by rw[aq npd.symm];exact g2,g3,fun j=>(g4 j).aX ts⟩⟩
      have f2:DF H1 (upd H1 p (.ins t.bK zF (Dd d .non))) p d:=fun b o e hp hd=>by rw[aq hp];exact e
      have ha2:=(f2.tups D1) a _ ha
      obtain⟨⟨dx2,v2,k1,_⟩,_⟩:=id D2
      refine⟨_,rfl,p,dx2,_,rfl,k1,fH _ _ (by decide +kernel) (by decide +kernel),_,rfl,p,d,_,_,a,w,rfl,D2,by lia,ha2,hok,fun u H3 D3 f3 hu3=>?_⟩
      refine⟨zz1,fun l hl=>?_⟩
      have e:S.gq n r z=(({S.hold n r z with ws:=none}:DS).done w,[.t [.s w.tag,.i w.pg,.i ((S.hold n r z).num w)]]):=by
       unfold DS.gq
       rw[hws]
       dsimp only
       rw[if_pos ⟨epg,hok⟩]
      refine k _ _ ?_ ((f1.trans f2).trans (f3.trans (DF.new hl))) ?_
      ·rw[e];exact D3.new hl
      ·rw[e]
       have k3:=((f1.trans f2).trans f3).kept DA D3
       refine jV (k3.free hl) hl ?_
       simp only[aH,Rep]
       refine⟨_,_,rfl,⟨u,_,rfl,W8 hu3 (k3.tup hu3),_,_,rfl,rfl,_,_,rfl,rfl,_,_,rfl,?_,rfl⟩,rfl⟩
       cases w<;>rfl
     ·refine bG (by rw[decide_eq_false hok];rfl) ?_
      have e:S.gq n r z=(S.hold n r z,[]):=by
       unfold DS.gq
       rw[hws]
       dsimp only
       rw[if_neg fun q=>hok q.2]
      exact⟨Eo,fun l hl=>none_ (by rw[e]) (by rw[e]) l hl⟩
    ·refine bG (by rw[decide_eq_false fun z=>epg (V.int.inj z)];rfl) (qt ?_)
     have e:S.gq n r z=(S.hold n r z,[]):=by
      unfold DS.gq
      rw[hws]
      dsimp only
      rw[if_neg fun q=>epg q.1]
     exact⟨Eo,fun l hl=>none_ (by rw[e]) (by rw[e]) l hl⟩
end
end gn
namespace gn
open PySem L2
section
variable{P:Program}{w:World}{K:PySem.W.Frag}{mg:Str->Option Value}{base:Heap}{t:JR}
theorem am3(H:Hp)(S:DS)(n:Int):Rep H (S.tell n) (W9 (S.tell n)):=by
 unfold DS.tell
 split<;>simp[Rep,W9]
theorem Uq(T:Txt K w mg t):dj P w K mg base oM 3 t.eV t.rD ["self","page","right"] (asY t.bK):=by
 refine T.XC.ok BW (fun vs H Q E h=>?_) (fun cdv A outer s H vs Q E hr h=>?_)
 ·obtain⟨p,d,S,c,n,r,rfl,_⟩:=h;rfl
 ·obtain⟨p,d,S,c,n,r,rfl,DA,hc,k⟩:=h
  have hu:=lA hr
  obtain⟨⟨dx,v,h1,_⟩,_⟩:=id DA
  refine⟨_,(ak (bx (i:=3) BW.nd rfl (Or.inl rfl) (cD (pv 0) T.dF T.nU (n6 T) (hr.mono (by decide):bQ 2 _) T.oZ .nil bW (aa (pv 1) ao)))
   (ak (bU (qW (jO (cB (Nf T) (hr.mono (by decide):bQ 1 _) (by rfl) T.R7 T.FQ.kp T.R6 .nil bW (aa (pv 2) (aa (cD (pv 0) T.dF T.jc (jd T) (hr.mono (by decide):bQ 1 _) T.ju .nil bW (aa (pv 1) ao)) ao))))) (aA (bO (cD (pv 0) T.dF T.sX (sZ T) (hr.mono (by decide):bQ 1 _) T.wu .nil bW (aa (pv 1) (aa (pv 2) (aa (aO bB (bH hu (cL (pv 0) (by rfl)) (pv 1) (fun _ _=>rfl)) az (fun _ _=>rfl)) ao)))))) bw)
   (aA (aZ (cB (QS T) (hr.mono (by decide):bQ 1 _) (by rfl) T.Ud T.Ca.kp T.Uc .nil bW (aa (pv 1) (aa (pv 3) ao))))))),?_⟩
  try dsimp only[dD,Cx.kZ]
  show let Z1:L2.TS:=_;let Z2:L2.TS:=_;let Z3:L2.TS:=cT _ Z2 bJ;let Z4:L2.TS:=_;let D0:Ends:=_;(aU Z1 (aU Z3 (Z4))) D0 _ _
  intro Z1 Z2 Z3 Z4 D0
  refine⟨_,rfl,p,dx,_,rfl,h1,fH _ _ (by decide +kernel) (by decide +kernel),_,rfl,p,d,S,c,n,rfl,DA,?_⟩
  refine⟨_,rfl,_,rfl,p,dx,_,rfl,h1,fH _ _ (by decide +kernel) (by decide +kernel),_,rfl,p,d,S,c,n,rfl,DA,r,S.rt n,rfl,_,rfl,?_⟩
  have fin:∀H1:Hp,cj t.bK H1 p d (S.down n r) (c+1)->DF H H1 p d->∀a,H1 a=none->Q (.ref a) (upd H1 a (.tup [.str "answer",.int n,S.tell n])):=fun H1 D1 f1 a ha=>by
   refine k _ _ ((D1.new ha).mono (Nat.le_succ _)) (f1.trans (DF.new ha)) (ao0 ha ?_)
   simp only[aH]
   exact⟨_,_,rfl,by simp only[Rep],_,_,rfl,by simp only[Rep],_,_,rfl,am3 _ _ _,rfl⟩
  by_cases e:(S.rt n).k<=r.k
  ·refine aM (by rw[decide_eq_true e];rfl) ?_
   exact⟨_,rfl,_,rfl,_,_,rfl,fin H (by unfold DS.down;rw[if_pos e];exact DA.mono (Nat.le_succ _)) (DF.refl _ _ _)⟩
  ·refine bG (by rw[decide_eq_false e];rfl) ?_
   have hno:S.rt n≠.no:=fun z=>by rw[z]at e;cases r<;>simp[Rt.k]at e
   obtain⟨kvs,tt,h2,e1,e2⟩:=DA.copy hno
   refine⟨_,rfl,p,dx,_,rfl,h1,fH _ _ (by decide +kernel) (by decide +kernel),_,rfl,_,rfl,_,rfl,p,_,dx,_,_,rfl,h1,T.dF,T.dU,jU _ _,_,rfl,d,.ref tt,rfl,(by rw[<-e1];exact Ib.k (k:=Sum.inl n) h2),tt,_,1,_,rfl,rfl,cW.of e2,rfl,p,d,S,c,n,r,S.nm n,.int (S.nm n),rfl,DA,by lia,.inr rfl,fun H1 D1 f1=>?_⟩
   exact⟨_,rfl,_,rfl,_,_,rfl,fin H1 (by unfold DS.down;rw[if_neg e];exact D1) f1⟩
theorem adA(T:Txt K w mg t):dj P w K mg base oM 4 t.iB t.Ae ["self","letter"] (asZ t.bK):=by
 refine T.agy.ok ac6 (fun vs H Q E h=>?_) (fun cdv A outer s H vs Q E hr h=>?_)
 ·obtain⟨p,d,S,c,a,l,rfl,_⟩:=h;rfl
 ·obtain⟨p,d,S,c,a,l,rfl,DA,hc,ha,k⟩:=h
  have hu:=lA hr
  obtain⟨⟨dx,v,h1,_⟩,_⟩:=id DA
  refine⟨_,(ak (bU (aQ cQ (aO bB (pv 1) az (fun _ _=>rfl)) aC (aW _)) (aA (aZ (cg (aa (cD (pv 0) T.dF T.Mt (Ng T) (hr.mono (by decide):bQ 3 _) T.QF .nil bW (aa (aO bB (pv 1) az (fun _ _=>rfl)) (aa (aO bB (pv 1) az (fun _ _=>rfl)) (aa (aO bB (pv 1) az (fun _ _=>rfl)) ao)))) (aa (bN ao) ao))))) bw)
   (aA (aZ (cg (aa (bN ao) (aa (bN (aa (cD (pv 0) T.dF T.Ug (Uq T) (hr.mono (by decide):bQ 3 _) T.XD .nil bW (aa (aO bB (pv 1) az (fun _ _=>rfl)) (aa (aO bB (pv 1) az (fun _ _=>rfl)) ao))) ao)) ao)))))),?_⟩
  try dsimp only[dD,Cx.kZ]
  show let Z1:L2.TS:=_;let Z2:L2.TS:=cT _ Z1 bJ;let Z3:L2.TS:=_;let D0:Ends:=_;(aU Z2 (Z3)) D0 _ _
  intro Z1 Z2 Z3 D0
  cases l with
  | lend n r z =>
    refine zt rfl (cW.of ha) rfl ⟨rfl,_,rfl,?_⟩
    refine bG fJ ?_
    refine⟨_,rfl,p,dx,_,rfl,h1,fH _ _ (by decide +kernel) (by decide +kernel),zt rfl (cW.of ha) rfl (zt rfl (cW.of ha) rfl (zt rfl (cW.of ha) rfl ⟨p,d,S,c,n,r,z,rfl,DA,hc,fun v H1 D1 f1 r1=>?_⟩))⟩
    refine⟨Eo,fun l hl=>⟨vA,fun u hu=>?_⟩⟩
    refine k _ _ ((D1.new hl).new hu) (f1.trans ((DF.new hl).trans (DF.new hu))) ?_
    have k1:=f1.kept DA D1
    refine ym ((k1.new hl).free hu) hu ?_
    simp only[aH]
    exact⟨_,_,rfl,r1.mono (vJ (vI hl)),_,_,rfl,jV (k1.free hl) hl (by simp only[aH]),rfl⟩
  | back n r =>
    refine zt rfl (cW.of ha) rfl ⟨rfl,_,rfl,?_⟩
    refine aM (dm (by decide +kernel)) ?_
    refine⟨Eo,fun l hl=>?_⟩
    have D0:=DA.new (o:=.lst []) hl
    obtain⟨⟨dx0,v0,h10,_⟩,_⟩:=id D0
    have ha0:upd H l (.lst []) a=some (.tup (Let.vs (.back n r))):=acX hl a _ ha
    refine⟨_,rfl,p,dx0,_,rfl,h10,fH _ _ (by decide +kernel) (by decide +kernel),zt rfl (cW.of ha0) rfl (zt rfl (cW.of ha0) rfl ⟨p,d,S,c,n,r,rfl,D0,hc,fun v H1 D1 f1 r1=>?_⟩)⟩
    refine⟨zz1,fun l2 hl2=>⟨vA,fun u hu=>?_⟩⟩
    refine k _ _ ((D1.new hl2).new hu) ((DF.new hl).trans (f1.trans ((DF.new hl2).trans (DF.new hu)))) ?_
    have k0:Kept H (upd H l (.lst [])):=(Kept.refl H).new hl
    have k1:Kept H H1:=((DF.new hl).trans f1).kept DA D1
    refine ym ((k1.new hl2).free hu) hu ?_
    simp only[aH]
    have rl:Rep (nw H (upd H l (.lst []))) (.ref l) (.l []):=jV hl hl (by simp only[aH])
    refine⟨_,_,rfl,(rl.mono (vJ (f1.seqs D0))).mono (vJ (vI hl2)),_,_,rfl,jV (k1.free hl2) hl2 ?_,rfl⟩
    simp only[aH]
    refine⟨_,_,rfl,?_,rfl⟩
    simp only[Rep,aH]at r1 ⊢
    obtain⟨b,xs,e1,e2,e3⟩:=r1
    refine⟨b,xs,e1,W8 e2 (k1.tup e2),?_⟩
    obtain⟨v1,q1,e4,e5,v2,q2,e6,e7,v3,q3,e8,e9,e10⟩:=e3
    refine⟨v1,q1,e4,e5,v2,q2,e6,e7,v3,q3,e8,?_,e10⟩
    unfold DS.tell at e9 ⊢
    split
    ·rename_i z;rw[if_pos z]at e9;simpa only[W9,Rep] using e9
    ·rename_i z;rw[if_neg z]at e9;simpa only[W9,Rep] using e9
theorem aaN(T:Txt K w mg t):dj P w K mg base oM 1 t.gA t.xx ["self"] (ao2 t.bK):=by
 refine T.adk.ok aaB (fun vs H Q E h=>?_) (fun cdv A outer s H vs Q E hr h=>?_)
 ·obtain⟨p,d,S,c,rfl,_⟩:=h;rfl
 ·obtain⟨p,d,S,c,rfl,DA,k⟩:=h
  have hu:=lA hr
  obtain⟨⟨dx,v,h1,hw⟩,_⟩:=id DA
  refine⟨_,(aA (aZ (al1 (vD (cL (pv 0) (by rfl)))))),?_⟩
  try dsimp only[dD,Cx.kZ]
  refine⟨_,rfl,p,_,dx,_,_,rfl,h1,T.dF,T.jo,ab8 _ _,?_⟩
  have e:(!decide (v=V.non))=S.ws.isSome:=by
   cases hws:S.ws with
   | none=>rw[hws]at hw;have e:v=.non:=hw;rw[e];rfl
   | some w'=>rw[hws]at hw;obtain⟨a,e,_⟩:=hw;rw[e];rfl
  rw[<-e]at k
  exact k
theorem Nh(T:Txt K w mg t):dj P w K mg base (CX1 P w) 3 t.iz t.Ad ["self","wish"] (apc t.bK t.aN):=by
 refine T.agx.okX ac5 (fun vs H Q E h=>?_) (fun cdv A outer s H vs Q E hr h=>?_)
 ·obtain⟨p,d,S,c,a,w,rfl,_⟩:=h;rfl
 ·obtain⟨p,d,S,c,a,w,rfl,DA,hc,ha,k⟩:=h
  have hu:=lA hr
  obtain⟨⟨dx,v,h1,hw⟩,⟨kvs,h2,h3,h4⟩⟩:=id DA
  have npd:=DA.npd
  refine⟨_,(ak (bU (jO (yh (pv 0) T.dF T.aaG (aaN T) (hr.mono (by decide):bQ 1 _) T.adl .nil bW)) (aA (Eu T.yC (by rfl) T.ach rfl LR (aa aC ao))) bw)
   (ak (bU (jO (cD (pv 0) T.dF T.FZ (Gk T) (hr.mono (by decide):bQ 2 _) T.Iv .nil bW (aa (pv 1) ao))) (aA (aZ (cg (aa (bN (aa (cD (pv 0) T.dF T.Cd (Ci T) (hr.mono (by decide):bQ 2 _) T.Ga .nil bW (aa (pv 1) ao)) ao)) (aa (bN ao) ao))))) bw)
   (ak (gk (pv 0) (pv 1) (by rfl))
   (aA (aZ (cg (aa (bN ao) (aa (bN (aa (cB (aaM T) (hr.mono (by decide):bQ 1 _) (by rfl) T.adi T.Mr.kp T.adh .nil bW (aa (aO bB (pv 1) az (fun _ _=>rfl)) (aa (cB (Cg T) (hr.mono (by decide):bQ 1 _) (by rfl) T.FW T.uV.kp T.FT .nil bW (aa (pv 1) ao)) ao))) ao)) ao)))))))),?_⟩
  try dsimp only[dD,Cx.kZ]
  show let Z1:L2.TS:=_;let Z2:L2.TS:=cT _ Z1 bJ;let Z3:L2.TS:=_;let Z4:L2.TS:=cT _ Z3 bJ;let Z5:L2.TS:=_;let Z6:L2.TS:=_;let D0:Ends:=_;(aU Z2 (aU Z4 (aU Z5 (Z6)))) D0 _ _
  intro Z1 Z2 Z3 Z4 Z5 Z6 D0
  refine⟨_,rfl,p,dx,_,rfl,h1,fH _ _ (by decide +kernel) (by decide +kernel),p,d,S,c,rfl,DA,_,rfl,?_⟩
  cases hws:S.ws with
  | some w' =>
    rw[hws]at hw k
    obtain⟨a',ev,_⟩:=hw
    subst ev
    refine qt ?_
    exact⟨zz1,k⟩
  | none =>
    rw[hws]at hw k
    have ev:v=.non:=hw
    subst ev
    refine wY ?_
    refine⟨_,rfl,p,dx,_,rfl,h1,fH _ _ (by decide +kernel) (by decide +kernel),_,rfl,p,d,S,c,a,w,rfl,DA,ha,_,rfl,?_⟩
    by_cases hok:S.ok w
    ·refine bG (decide_eq_true hok) ?_
     refine⟨_,rfl,p,dx,_,rfl,h1,fH _ _ (by decide +kernel) (by decide +kernel),_,rfl,p,d,S,c,a,w,rfl,DA,by lia,ha,hok,fun u H1 D1 f1 hu1=>?_⟩
     refine⟨zz1,fun l hl=>⟨Eo,fun l2 hl2=>⟨vA,fun z hz=>?_⟩⟩⟩
     refine k _ _ ?_ (f1.trans ((DF.new hl).trans ((DF.new hl2).trans (DF.new hz)))) ?_
     ·unfold DS.want;rw[if_pos hok];exact(((D1.new hl).new hl2).new hz).mono (Nat.le_succ _)
     ·unfold DS.want
      rw[if_pos hok]
      have k1:=f1.kept DA D1
      refine ym (((k1.new hl).new hl2).free hz) hz ?_
      simp only[aH]
      refine⟨_,_,rfl,(jV (k1.free hl) hl ?_).mono (vJ (vI hl2)),_,_,rfl,jV ((k1.new hl).free hl2) hl2 (by simp only[aH]),rfl⟩
      simp only[aH,Rep]
      exact⟨_,_,rfl,⟨u,_,rfl,W8 hu1 (k1.tup hu1),_,_,rfl,rfl,_,_,rfl,rfl,_,_,rfl,rfl,rfl⟩,rfl⟩
    ·refine aM (decide_eq_false hok) ?_
     refine⟨_,rfl,_,rfl,p,_,dx,_,rfl,h1,T.dF,T.jo,(by rw[af8];show 2<1000;decide),?_⟩
     rw[af7]
     have ts:b7 H (upd H p (.ins t.bK dx (Dd d (.ref a)))):=fun b xs e=>by rw[aq (jr e h1 (by intro z;cases z))];exact e
     have ha1:=ts a _ ha
     have D1:cj t.bK (upd H p (.ins t.bK dx (Dd d (.ref a)))) p d {S with ws:=some w} c :=
      ⟨⟨dx,.ref a,aj,a,rfl,ha1⟩,⟨kvs,by rw[aq npd.symm];exact h2,h3,fun j=>(h4 j).aX ts⟩⟩
     have f1:DF H (upd H p (.ins t.bK dx (Dd d (.ref a)))) p d:=fun b o e hp hd=>by rw[aq hp];exact e
     refine⟨Eo,fun l hl=>?_⟩
     have ha2:upd (upd H p (.ins t.bK dx (Dd d (.ref a)))) l (.lst []) a=some (.tup w.vs):=acX hl a _ ha1
     refine zt rfl (cW.of ha2) (W.at1 w) ⟨_,rfl,a,w,rfl,ha2,_,_,rfl,fun z hz=>?_⟩
     refine⟨zz1,fun l2 hl2=>⟨vA,fun y hy=>?_⟩⟩
     refine k _ _ ?_ (f1.trans ((DF.new hl).trans ((DF.new hz).trans ((DF.new hl2).trans (DF.new hy))))) ?_
     ·unfold DS.want;rw[if_neg hok];exact((((D1.new hl).new hz).new hl2).new hy).mono (by lia)
     ·unfold DS.want
      rw[if_neg hok]
      have k1:=f1.kept DA D1
      refine ym ((((k1.new hl).new hz).new hl2).free hy) hy ?_
      simp only[aH]
      refine⟨_,_,rfl,((jV (k1.free hl) hl (by simp only[aH])).mono (vJ (vI hz))).mono (vJ (vI hl2)),_,_,rfl,jV (((k1.new hl).new hz).free hl2) hl2 ?_,rfl⟩
      simp only[aH]
      refine⟨_,_,rfl,ym ((k1.new hl).free hz) hz ?_,rfl⟩
      simp only[aH,Rep]
      exact⟨_,_,rfl,rfl,_,_,rfl,rfl,_,_,rfl,rfl,rfl⟩
theorem adB(T:Txt K w mg t):dj P w K mg base (CX1 P w) 3 t.iC t.Af ["self","page"] (apd t.bK t.aV):=by
 refine T.agA.okX Ml (fun vs H Q E h=>?_) (fun cdv A outer s H vs Q E hr h=>?_)
 ·obtain⟨p,d,S,c,n,rfl,_⟩:=h;rfl
 ·obtain⟨p,d,S,c,n,rfl,DA,hc,k⟩:=h
  have hu:=lA hr
  obtain⟨⟨dx,v,h1,_⟩,_⟩:=id DA
  refine⟨_,(ak (bU (aQ cQ (cD (pv 0) T.dF T.jc (jd T) (hr.mono (by decide):bQ 1 _) T.ju .nil bW (aa (pv 1) ao)) (ir (by rfl) T.QR) (aW _)) (aA (Eu T.yD (by rfl) T.agt rfl LR (aa aC ao))) bw)
   (ak (bx (i:=2) Ml.nd rfl (Or.inl rfl) (cD (pv 0) T.dF T.nU (n6 T) (hr.mono (by decide):bQ 2 _) T.oZ .nil bW (aa (pv 1) ao)))
   (ak (bO (cD (pv 0) T.dF T.sX (sZ T) (hr.mono (by decide):bQ 1 _) T.wu .nil bW (aa (pv 1) (aa (ir (by rfl) T.QR) (aa tV ao)))))
   (aA (aZ (qp (wW (ah6 (pv 2))) (bN ao) (bN (aa (cB (Ye T) (hr.mono (by decide):bQ 1 _) (by rfl) T.aaD T.Io.kp T.aaC .nil bW (aa (pv 1) (aa (pv 2) ao))) ao)))))))),?_⟩
  try dsimp only[dD,Cx.kZ]
  show let Z1:L2.TS:=_;let Z2:L2.TS:=cT _ Z1 bJ;let Z3:L2.TS:=_;let Z4:L2.TS:=_;let Z5:L2.TS:=_;let D0:Ends:=_;(aU Z2 (aU Z3 (aU Z4 (Z5)))) D0 _ _
  intro Z1 Z2 Z3 Z4 Z5 D0
  refine⟨_,rfl,p,dx,_,rfl,h1,fH _ _ (by decide +kernel) (by decide +kernel),_,rfl,p,d,S,c,n,rfl,DA,rfl,_,rfl,?_⟩
  by_cases e:S.rt n=.no
  ·rw[if_pos e]at k
   rw[e]
   refine qt ?_
   exact⟨zz1,k⟩
  ·rw[if_neg e]at k
   refine aM (oN (x:="none") (q:=.no) rfl e) ?_
   refine⟨_,rfl,p,dx,_,rfl,h1,fH _ _ (by decide +kernel) (by decide +kernel),_,rfl,p,d,S,c,n,rfl,DA,?_⟩
   refine⟨_,rfl,p,dx,_,rfl,h1,fH _ _ (by decide +kernel) (by decide +kernel),_,rfl,p,d,S,c,n,.no,S.nm n,.non,rfl,DA,by lia,.inl rfl,fun H1 D1 f1=>?_⟩
   refine⟨_,rfl,_,rfl,?_⟩
   by_cases ew:S.rt n=.wr
   ·have et:S.tell n=.int (S.nm n):=by unfold DS.tell;rw[if_pos ew]
    rw[et]
    refine wY ?_
    refine⟨_,rfl,_,rfl,_,_,rfl,fun z hz=>⟨zz1,fun l hl=>?_⟩⟩
    refine k _ _ (((D1.new hz).new hl).mono (Nat.le_succ _)) (f1.trans ((DF.new hz).trans (DF.new hl))) ?_
    unfold DS.rest
    rw[if_pos ew]
    have k1:=f1.kept DA D1
    refine jV ((k1.new hz).free hl) hl ?_
    simp only[aH]
    refine⟨_,_,rfl,ym (k1.free hz) hz ?_,rfl⟩
    simp only[aH,Rep]
    exact⟨_,_,rfl,rfl,_,_,rfl,rfl,_,_,rfl,rfl,rfl⟩
   ·have et:S.tell n=.non:=by unfold DS.tell;rw[if_neg ew]
    rw[et]
    refine qt ?_
    refine⟨Eo,fun l hl=>?_⟩
    refine k _ _ ((D1.new hl).mono (Nat.le_succ _)) (f1.trans (DF.new hl)) ?_
    unfold DS.rest
    rw[if_neg ew]
    exact jV ((f1.kept DA D1).free hl) hl (by simp only[aH])
end
end gn
namespace gn
open PySem L2
section
variable{P:Program}{w:World}{K:PySem.W.Frag}{mg:Str->Option Value}{base:Heap}{t:JR}
theorem Gm(T:Txt K w mg t):dj P w K mg base oM 1 t.gH t.uE ["page","right"] (af9 "back"):=by
 refine T.xK.ok Xq (fun vs H Q E h=>?_) (fun cdv A outer s H vs Q E hr h=>?_)
 ·obtain⟨x,y,rfl,_⟩:=h;rfl
 ·obtain⟨x,y,rfl,k⟩:=h
  refine⟨_,(aA (aZ (cg (aa aC (aa (pv 0) (aa (pv 1) ao)))))),?_⟩
  try dsimp only[dD,Cx.kZ]
  exact⟨_,rfl,_,rfl,zz3,fun a ha=>k a ha⟩
theorem Yg(T:Txt K w mg t):dj P w K mg base oM 1 t.gG t.uD ["page","right","number"] ajP:=by
 refine T.Ip.ok Xp (fun vs H Q E h=>?_) (fun cdv A outer s H vs Q E hr h=>?_)
 ·obtain⟨x,y,z,rfl,_⟩:=h;rfl
 ·obtain⟨x,y,z,rfl,k⟩:=h
  refine⟨_,(aA (aZ (cg (aa aC (aa (pv 0) (aa (pv 1) (aa (pv 2) ao))))))),?_⟩
  try dsimp only[dD,Cx.kZ]
  exact⟨_,rfl,_,rfl,_,rfl,zz4,fun a ha=>k a ha⟩
theorem Ni(T:Txt K w mg t):dj P w K mg base oM 1 t.dH t.nJ ["self","page","number"] (amI t.aD):=by
 refine T.QG.ok Mm (fun vs H Q E h=>?_) (fun cdv A outer s H vs Q E hr h=>?_)
 ·obtain⟨x,y,p,n,rfl,_⟩:=h;rfl
 ·obtain⟨a,dx,p,n,rfl,hp,k⟩:=h
  refine⟨_,(ak (gk (pv 0) (pv 1) (by rfl))
   (ak (gk (pv 0) (pv 2) (by rfl))
   (ak (gk (pv 0) tV (by rfl))
   (ak (gk (pv 0) (bN ao) (by rfl))
   (ak (gk (pv 0) (bN ao) (by rfl))
   (aA (gk (pv 0) az (by rfl)))))))),?_⟩
  try dsimp only[dD,Cx.kZ]
  show let Z1:L2.TS:=_;let Z2:L2.TS:=_;let Z3:L2.TS:=_;let Z4:L2.TS:=_;let Z5:L2.TS:=_;let Z6:L2.TS:=_;let D0:Ends:=_;(aU Z1 (aU Z2 (aU Z3 (aU Z4 (aU Z5 (Z6)))))) D0 _ _
  intro Z1 Z2 Z3 Z4 Z5 Z6 D0
  refine⟨_,rfl,_,rfl,a,t.aD,dx,[],rfl,hp,T.aR,T.gb,(by show 0<1000;decide),?_⟩
  refine⟨_,rfl,_,rfl,a,t.aD,dx,_,rfl,aj,T.aR,T.fj,(by show 1<1000;decide),?_⟩
  refine⟨_,rfl,a,t.aD,dx,_,rfl,aj,T.aR,T.b8,(by show 2<1000;decide),?_⟩
  rw[ajr,ajr]
  refine⟨Eo,fun r hr1=>?_⟩
  have nra:a≠r:=fun z=>by rw[z,aj]at hr1;cases hr1
  have hr0:H r=none:=by rw[<-hr1,aq nra.symm]
  refine⟨_,rfl,a,t.aD,dx,_,rfl,(by rw[aq nra];exact aj),T.aR,T.cZ,(by show 3<1000;decide),?_⟩
  refine⟨Eo,fun q hq1=>?_⟩
  have nqa:a≠q:=fun z=>by rw[z,aj]at hq1;cases hq1
  have nqr:r≠q:=fun z=>by rw[z,aq nqa.symm,aj]at hq1;cases hq1
  have hq0:H q=none:=by rw[<-hq1,aq nqa.symm,aq nqr.symm,aq nqa.symm]
  refine⟨_,rfl,a,t.aD,dx,_,rfl,(by rw[aq nqa];exact aj),T.aR,T.di,(by show 4<1000;decide),?_⟩
  refine⟨_,rfl,a,t.aD,dx,_,rfl,aj,T.aR,T.eF,(by show 5<1000;decide),?_⟩
  rw[amG]
  refine k r q _ hr0 hq0 ⟨⟨dx,aj⟩,?_,⟨[],?_,by simp[aH]⟩,nqr⟩ (fun b o e hb=>?_) ?_
  ·rw[aq nra.symm,aq nra.symm,aq nqr,aq nra.symm,aj];rfl
  ·rw[aq nqa.symm,aq nqa.symm,aj]
  ·rw[aq hb,aq hb,aq (aG e hq0),aq hb,aq (aG e hr0),aq hb];exact e
  ·exact Lv.upd.trans (Lv.upd.trans (Lv.upd.trans (Lv.upd.trans (Lv.upd.trans Lv.upd))))
theorem Aw(T:Txt K w mg t):dj P w K mg base oM 1 t.cJ t.jn ["self","desk"] (atc t.aD):=by
 refine T.Dk.ok z8 (fun vs H Q E h=>?_) (fun cdv A outer s H vs Q E hr h=>?_)
 ·obtain⟨a,r,q,p,g,d,rfl,_⟩:=h;rfl
 ·obtain⟨a,r,q,p,g,d,rfl,PA,k⟩:=h
  have nar:=PA.nar
  have naq:=PA.naq
  obtain⟨⟨dx,h1⟩,h2,⟨vs,h3,h4⟩,h5⟩:=id PA
  refine⟨_,(ak (gk (pv 0) (pv 1) (by rfl))
   (aA (gk (pv 0) (bN ao) (by rfl)))),?_⟩
  try dsimp only[dD,Cx.kZ]
  show let Z1:L2.TS:=_;let Z2:L2.TS:=_;let D0:Ends:=_;(aU Z1 (Z2)) D0 _ _
  intro Z1 Z2 D0
  refine⟨_,rfl,_,rfl,a,_,dx,_,rfl,h1,T.aR,T.b8,vL,?_⟩
  rw[ao6]
  refine⟨Eo,fun r' hr1=>?_⟩
  have nra:a≠r':=fun z=>by rw[z,aj]at hr1;cases hr1
  have hr0:H r'=none:=by rw[<-hr1,aq nra.symm]
  refine⟨_,rfl,a,_,dx,_,rfl,(by rw[aq nra];exact aj),T.aR,T.cZ,vL,?_⟩
  rw[as4 (l:=[])]
  have nqr:q≠r':=aG h3 hr0
  refine k r' _ hr0 ⟨⟨dx,aj⟩,?_,⟨vs,?_,?_⟩,nqr.symm⟩ ⟨fun b o e ha hb hq=>?_,Lv.upd.trans (Lv.upd.trans Lv.upd)⟩
  ·rw[aq nra.symm,aj];rfl
  ·rw[aq naq.symm,aq nqr,aq naq.symm];exact h3
  ·refine h4.aX (fun b xs e=>?_) (kJ _)
   have hb:b≠a:=jr e h1 (by intro z;cases z)
   rw[aq hb,aq (aG e hr0),aq hb];exact e
  ·rw[aq ha,aq (aG e hr0),aq ha];exact e
theorem akb(d:Nat)(l:List Nat):inV (.int d) (l.map nV)=decide (d∈l):=by
 unfold inV
 induction l with
 | nil=>rfl
 | cons x l ih =>
   rw[List.map_cons,List.any_cons,ih]
   show((x:Int) == (d:Int) || _)=_
   by_cases e:d=x
   ·subst e;simp
   ·have:((x:Int) == (d:Int))=false:=by simp;lia
    rw[this];simp[e]
theorem agU(l:List Nat):(l.map nV).all Ij=true:=by simp[Ij,nV]
theorem Dp(T:Txt K w mg t):dj P w K mg base oM 1 t.cP t.jD ["self","desk"] (atb t.aD):=by
 refine T.Ge.ok Df (fun vs H Q E h=>?_) (fun cdv A outer s H vs Q E hr h=>?_)
 ·obtain⟨a,r,q,p,g,d,rfl,_⟩:=h;rfl
 ·obtain⟨a,r,q,p,g,d,rfl,PA,hl,k⟩:=h
  have sl:sizeLine=16777216:=by decide
  refine⟨_,(ak (bU (wW (vD (cL (pv 0) (by rfl)))) (ak (bO (fB PySem.F.plainAttrs_list PySem.F.slot_list_append PySem.F.type_list_append cG (cL (pv 0) (by rfl)) (aa (cL (pv 0) (by rfl)) ao)))
   (aA (gk (pv 0) tV (by rfl)))) bw)
   (aA (bU (aQ Lz (pv 1) (cL (pv 0) (by rfl)) (by rfl)) (aA (bO (fB PySem.F.plainAttrs_list PySem.F.slot_list_append PySem.F.type_list_append cG (cL (pv 0) (by rfl)) (aa (pv 1) ao)))) bw))),?_⟩
  try dsimp only[dD,Cx.kZ]
  show let Z1:L2.TS:=_;let Z2:L2.TS:=_;let Z3:L2.TS:=aU Z1 (Z2);let Z4:L2.TS:=cT _ Z3 bJ;let Z5:L2.TS:=_;let Z6:L2.TS:=cT _ Z5 bJ;let D0:Ends:=_;(aU Z4 (Z6)) D0 _ _
  intro Z1 Z2 Z3 Z4 Z5 Z6 D0
  have fin:∀H1,gf t.aD H1 a r q p {g with wr:=none,rd:=g.rd++g.wr.toList}->PF H H1 a r q->
   (cT (afQ (WL (rIn K true) (jj 1) (acN K (jj 0) "readers"))) (ajt (tBM K "list" LC (acN K (jj 0) "readers") (my (jj 1) Ia))) bJ) {nx:=fun _ H'=>Q .non H',rt:=Q} [some (.ref a),some (.int d)] H1:=fun H1 P1 f1=>by
   obtain⟨⟨dx,h1⟩,h2,_,_⟩:=id P1
   refine⟨_,rfl,_,rfl,a,_,dx,_,_,rfl,h1,T.aR,T.cZ,vK,r,_,rfl,.inl (cz.of h2),rfl,agU _,_,rfl,?_⟩
   have e0:(if true=true then !inV (.int d) ((g.rd++g.wr.toList).map nV)else inV (.int d) ((g.rd++g.wr.toList).map nV)) = !decide (d∈g.rd++g.wr.toList):=by rw[if_pos rfl,akb]
   rw[e0]
   by_cases e:d∈g.rd++g.wr.toList
   ·refine aM (by rw[decide_eq_true e];rfl) ?_
    refine k H1 ?_ f1
    unfold kI
    rw[if_pos e]
    exact P1
   ·refine bG (by rw[decide_eq_false e];rfl) ?_
    refine⟨_,rfl,a,_,dx,_,_,rfl,h1,T.aR,T.cZ,vK,.inl ⟨rfl,_,cz.of h2⟩,_,rfl,r,_,_,rfl,rfl,h2,?_,?_⟩
    ·have hw:g.wr.toList.length<=1:=by cases g.wr<;>simp
     rw[List.length_map,List.length_append];lia
    ·refine k _ ?_ (f1.trans PF.wrR)
     have:=P1.wrR (l:=g.rd++g.wr.toList++[d])
     unfold kI
     rw[if_neg e]
     rw[List.map_append (l₂:=[d])]at this
     exact this
  obtain⟨⟨dx,h1⟩,h2,⟨vs,h3,h4⟩,h5⟩:=id PA
  refine⟨_,rfl,a,_,dx,_,_,rfl,h1,T.aR,T.b8,ue,_,rfl,?_⟩
  cases hw:g.wr with
  | none =>
    refine aM rfl ?_
    refine fin H ?_ (PF.refl _ _ _ _)
    have e:({g with wr:=none,rd:=g.rd++g.wr.toList}:PG)=g:=by rw[hw];cases g;simp_all
    rw[e];exact PA
  | some x =>
    refine bG rfl ?_
    have l1:(BR p g r q).lookup ("writer":Str)=some (.int x):=by rw[ue,hw];rfl
    refine⟨_,rfl,a,_,dx,_,_,rfl,h1,T.aR,T.cZ,vK,.inl ⟨rfl,_,cz.of h2⟩,_,rfl,a,_,dx,_,_,rfl,h1,T.aR,T.b8,l1,r,_,_,rfl,rfl,h2,(by rw[List.length_map];lia),?_⟩
    have P1:=PA.wrR (l:=g.rd++[x])
    rw[List.map_append]at P1
    obtain⟨⟨zF,g1⟩,_⟩:=id P1
    refine⟨_,rfl,a,_,zF,_,rfl,g1,T.aR,T.b8,vL,?_⟩
    rw[ajN]
    refine fin _ ?_ (PF.trans PF.wrR PF.wr)
    rw[hw]
    exact P1.wr rfl rfl
theorem wB(T:Txt K w mg t):dj P w K mg base oM 2 t.dI t.nM ["self"] (ao7 t.aD):=by
 refine T.QJ.ok vU (fun vs H Q E h=>?_) (fun cdv A outer s H vs Q E hr h=>?_)
 ·obtain⟨a,r,q,p,g,d,x,l,rfl,_⟩:=h;rfl
 ·obtain⟨a,r,q,p,g,d,x,l,rfl,PA,ha,hx,hl,k⟩:=h
  refine⟨_,(ak (bx (i:=1) vU.nd rfl (Or.inl rfl) (fB PySem.F.plainAttrs_list PySem.F.slot_list_pop PySem.F.type_list_pop Et (cL (pv 0) (by rfl)) (aa az ao)))
   (ak (bU (aQ cQ (aO bB (pv 1) az (fun _ _=>rfl)) (ir (by rfl) T.Wv) (aW _)) (aA (bO (cD (pv 0) T.aR T.Ar (Aw T) (hr.mono (by decide):bQ 1 _) T.Dl .nil bW (aa (aO bB (pv 1) az (fun _ _=>rfl)) ao)))) (aA (bO (cD (pv 0) T.aR T.Dm (Dp T) (hr.mono (by decide):bQ 1 _) T.Gf .nil bW (aa (aO bB (pv 1) az (fun _ _=>rfl)) ao)))))
   (aA (aZ (cg (aa (aO bB (pv 1) az (fun _ _=>rfl)) (aa (cB (Yg T) (hr.mono (by decide):bQ 1 _) (by rfl) T.aaF T.Ip.kp T.aaE .nil bW (aa (cL (pv 0) (by rfl)) (aa (aO bB (pv 1) az (fun _ _=>rfl)) (aa (cL (pv 0) (by rfl)) ao)))) ao))))))),?_⟩
  try dsimp only[dD,Cx.kZ]
  show let Z1:L2.TS:=_;let Z2:L2.TS:=_;let Z3:L2.TS:=_;let Z4:L2.TS:=cT _ Z2 Z3;let Z5:L2.TS:=_;let D0:Ends:=_;(aU Z1 (aU Z4 (Z5))) D0 _ _
  intro Z1 Z2 Z3 Z4 Z5 D0
  obtain⟨⟨dx,h1⟩,h2,⟨vs,h3,h4⟩,h5⟩:=id PA
  rw[ha]at h4
  obtain⟨tt,us,rfl,h6,h7⟩:=HQ h4
  refine⟨_,rfl,a,_,dx,_,_,rfl,h1,T.aR,T.di,tR,.inl ⟨rfl,_,cz.of h3⟩,q,_,0,0,_,rfl,rfl,h3,(by decide),(by decide),amF _ _,rfl,?_⟩
  have P1:=PA.wrQ (l:=l) (vs:=us) h7
  have t1:(upd H q (.lst us)) tt=some (.tup [.int d,.str x.s]):=by rw[aq (jr h6 h3 (by intro z;cases z))];exact h6
  have fin:∀r' H1,(r'=r\/H r'=none)->gf t.aD H1 a r' q p g.lent->PF H H1 a r q->g.lent.num=g.num->
   (asa (amb (my (WL (ail K) (jj 1) (tC (.int 0))) (my (amc ajP [] E0 (my (acN K (jj 0) "page") (my (WL (ail K) (jj 1) (tC (.int 1))) (my (acN K (jj 0) "number") Ia)))) Ia)))) {nx:=fun _ H'=>Q .non H',rt:=Q} [some (.ref a),some (.ref tt)] H1:=fun r' H1 hr' P2 f2 en=>by
   have t2:=(f2.tups PA) tt _ h6
   obtain⟨⟨dx2,g1⟩,_⟩:=id P2
   refine zt rfl (cW.of t2) rfl ⟨_,rfl,a,_,dx2,_,_,rfl,g1,T.aR,T.gb,Xc,zt rfl (cW.of t2) rfl ⟨_,rfl,a,_,dx2,_,_,rfl,g1,T.aR,T.fj,aiz,_,_,_,rfl,fun b hb=>?_⟩⟩
   refine⟨vA,fun c hc=>?_⟩
   refine k _ r' _ hr' ((P2.new hb).new hc) (f2.trans' ((PF.new hb).trans (PF.new hc)) hr') ?_
   simp only[pairD,Let.d,Rep,aH]
   refine⟨c,_,rfl,aj,_,_,rfl,rfl,_,_,rfl,⟨b,[.str "lend",.int p,.str x.s,.int g.lent.num],rfl,?_,_,_,rfl,rfl,_,_,rfl,rfl,_,_,rfl,rfl,_,_,rfl,?_,rfl⟩,rfl⟩
   ·rw[aq,aj];intro z;rw[z,aj]at hc;cases hc
   ·rw[en]
  have yU:g.lent=if x=.wr then lB {g with ask:=l} d else kI {g with ask:=l} d:=by unfold PG.lent;rw[ha]
  obtain⟨⟨zF,g1⟩,_⟩:=id P1
  refine zt rfl (cW.of t1) rfl ⟨rfl,_,rfl,?_⟩
  rcases hx with hx | hx
  ·subst hx
   refine aM (oN (x:="write") (q:=.wr) rfl (by intro z;cases z)) ?_
   refine⟨_,rfl,a,zF,_,rfl,g1,as6,zt rfl (cW.of t1) rfl ⟨a,r,q,p,_,d,rfl,P1,hl,fun H2 P2 f2=>?_⟩⟩
   refine fin r H2 (.inl rfl) ?_ (PF.wrQ.trans f2) (by rw[yU];rfl)
   rw[yU,if_neg (by intro z;cases z)]
   exact P2
  ·subst hx
   refine bG fJ ?_
   refine⟨_,rfl,a,zF,_,rfl,g1,as5,zt rfl (cW.of t1) rfl ⟨a,r,q,p,_,d,rfl,P1,fun r' H2 hr' P2 f2=>?_⟩⟩
   have nq:r'≠q:=by intro z;rw[z,aj]at hr';cases hr'
   refine fin r' H2 (.inr (by rw[<-hr',aq nq])) ?_ (PF.wrQ.trans f2) (by rw[yU];rfl)
   rw[yU,if_pos rfl]
   exact P2
end
end gn
namespace gn
open PySem L2
section
variable{P:Program}{w:World}{K:PySem.W.Frag}{mg:Str->Option Value}{base:Heap}{t:JR}
theorem J0{H:Hp}{b c:Addr}{d p:Nat}{x:Rt}{vs:List V}(hc:H c=some (.tup [.int d,.ref b]))(hb:H b=some (.tup [.str "back",.int p,.str x.s])):Rep H (.ref c) (pairD (d,.back p x)):=by
 simp only[pairD,Let.d,Rep,aH]
 exact⟨c,_,rfl,hc,_,_,rfl,rfl,_,_,rfl,⟨b,_,rfl,hb,_,_,rfl,rfl,_,_,rfl,rfl,_,_,rfl,rfl,rfl⟩,rfl⟩
theorem Yh{g:PG}{p d:Nat}{x:Rt}(h:g.wr=none):oO g p d x=[]:=by unfold oO;rw[h]
theorem aco{g:PG}{p d:Nat}{x:Rt}(h:g.wr=some d):oO g p d x=[]:=by unfold oO;rw[h];simp
theorem Sh{g:PG}{p d wv:Nat}{x:Rt}(h:g.wr=some wv)(hn:wv≠d):oO g p d x=[(wv,.back p (low x))]:=by unfold oO;rw[h];simp[hn]
theorem tu(T:Txt K w mg t):dj P w K mg base oM 2 t.bV t.gB ["self"] (atd t.aD):=by
 refine T.uX.ok eG (fun vs H Q E h=>?_) (fun cdv A outer s H vs Q E hr h=>?_)
 ·obtain⟨a,r,q,p,g,d,x,l,rfl,_⟩:=h;rfl
 ·obtain⟨a,r,q,p,g,d,x,l,rfl,PA,ha,hx,hl,k⟩:=h
  refine⟨_,(ak (bx (i:=1) eG.nd rfl (Or.inr rfl) (aO bB (aO bD (cL (pv 0) (by rfl)) az (fun _ _=>rfl)) az (fun _ _=>rfl)))
   (ak (bx (i:=2) eG.nd rfl (Or.inl rfl) (aO bB (aO bD (cL (pv 0) (by rfl)) az (fun _ _=>rfl)) az (fun _ _=>rfl)))
   (ak (bx (i:=3) eG.nd rfl (Or.inl rfl) (bN ao))
   (ak (bU (PW.pt (Qm (wW (vD (cL (pv 0) (by rfl)))) (Lp (aQ tZ (cL (pv 0) (by rfl)) (pv 1) (aW _))))) (aA (bO (fB PySem.F.plainAttrs_list PySem.F.slot_list_append PySem.F.type_list_append cG (pv 3) (aa (cg (aa (cL (pv 0) (by rfl)) (aa (cB (Gm T) (hr.mono (by decide):bQ 1 _) (by rfl) T.Iu T.xK.kp T.Ir .nil bW (aa (cL (pv 0) (by rfl)) (aa (qp (aQ cQ (pv 2) (ir (by rfl) T.aiR) (aW _)) (ir (by rfl) T.aiR) (ir (by rfl) T.QR)) ao))) ao))) ao)))) bw)
   (ak (bU (aQ cQ (pv 2) (ir (by rfl) T.Wv) (aW _)) (aA (bO (fB PySem.F.plainAttrs_list PySem.F.slot_list_extend PySem.F.type_list_extend lM (pv 3) (aa (mY (iY (xs:=["desk"]) (ys:=["self","asking"]) (js:=[0,1]) rfl (by decide +kernel) (by decide +kernel) (by decide +kernel) (by rfl) ⟨⟨rfl,Or.inl rfl⟩,⟨⟨rfl,Or.inl rfl⟩,trivial⟩⟩) rfl (sG (cL (pv 0) (by rfl))) (fun _ _ _ _ _=>(cM (i:=0) (show List.Nodup ((["desk"]:List Str)++(["self","asking"]:List Str):List Str)by decide +kernel) rfl (Or.inl rfl))) (fun _ _ _ _ _=>(ajH (aQ tZ (pv 0) (pv 2) (aW _)))) (fun _ _ _ _ _=>(cg (aa (pv 0) (aa (cB (Gm T) (hr.mono (by decide):bQ 1 _) (by rfl) T.Iu T.xK.kp T.Ir .nil bW (aa (apa (K:=K) rfl (pv 1) (by rfl)) (aa (ir (by rfl) T.QR) ao))) ao))))) ao)))) bw)
   (aA (aZ (pv 3)))))))),?_⟩
  try dsimp only[dD,Cx.kZ]
  show let Z1:L2.TS:=_;let Z2:L2.TS:=_;let Z3:L2.TS:=_;let Z4:L2.TS:=_;let Z5:L2.TS:=cT _ Z4 bJ;let Z6:L2.TS:=_;let Z7:L2.TS:=cT _ Z6 bJ;let Z8:L2.TS:=_;let D0:Ends:=_;(aU Z1 (aU Z2 (aU Z3 (aU Z5 (aU Z7 (Z8)))))) D0 _ _
  intro Z1 Z2 Z3 Z4 Z5 Z6 Z7 Z8 D0
  have sl:sizeLine=16777216:=by decide
  obtain⟨⟨dx,h1⟩,h2,⟨vs,h3,h4⟩,h5⟩:=id PA
  rw[ha]at h4
  obtain⟨tt,us,rfl,h6,h7⟩:=HQ h4
  refine⟨_,rfl,a,_,dx,_,_,rfl,h1,T.aR,T.di,tR,q,_,0,_,rfl,rfl,cz.of h3,atf _ _,tt,_,0,_,rfl,rfl,cW.of h6,rfl,?_⟩
  refine⟨_,rfl,a,_,dx,_,_,rfl,h1,T.aR,T.di,tR,q,_,0,_,rfl,rfl,cz.of h3,atf _ _,tt,_,1,_,rfl,rfl,cW.of h6,rfl,?_⟩
  refine⟨Eo,fun bl hb=>?_⟩
  have hbl:g.cN p=oO g p d x++oR g p d x:=by unfold PG.cN;rw[ha]
  have s0:=aB (o:=.lst []) hb
  try dsimp only
  refine f9 (fun σ' H'=>σ'=[some (.ref a),some (.int d),some (.str x.s),some (.ref bl)]/\bZ H H'/\∃us,H' bl=some (.lst us)/\us.length<=1/\aH H' us ((oO g p d x).map pairD)) (fun N hN=>?_) ?_
  ·have l0:=s0 a _ h1
   refine⟨_,rfl,a,_,dx,_,_,rfl,l0,T.aR,T.b8,ue,_,rfl,?_⟩
   cases hw:g.wr with
   | none =>
     refine aM rfl (wY ?_)
     exact hN _ _ ⟨rfl,s0,[],aj,Nat.zero_le _,by rw[Yh hw];simp[aH]⟩
   | some wv =>
     have l1:(BR p g r q).lookup ("writer":Str)=some (.int wv):=by rw[ue,hw];rfl
     refine bG rfl ?_
     refine⟨_,rfl,a,_,dx,_,_,rfl,l0,T.aR,T.b8,l1,_,rfl,rfl,_,rfl,?_⟩
     by_cases e:wv=d
     ·subst e
      refine aM (by simp) ?_
      exact hN _ _ ⟨rfl,s0,[],aj,Nat.zero_le _,by rw[aco hw];simp[aH]⟩
     ·refine bG (by rw[decide_eq_false fun z=>e (by have:=V.int.inj z;lia)];rfl) ?_
      have go:∀c,(∀z:Rt,z=low x->c=V.str z.s)->(tBM K "list" LC (jj 3) (my (amb (my (acN K (jj 0) "writer") (my (amc (af9 "back") [] E0 (my (acN K (jj 0) "page") (my (tC c) Ia))) Ia))) Ia)) [some (.ref a),some (.int d),some (.str x.s),some (.ref bl)] (upd H bl (.lst [])) fun _ H'=>N [some (.ref a),some (.int d),some (.str x.s),some (.ref bl)] H':=fun c hcc=>by
       obtain rfl:=hcc _ rfl
       refine⟨_,rfl,.inl ⟨rfl,_,cz.of aj⟩,_,rfl,a,_,dx,_,_,rfl,l0,T.aR,T.b8,l1,_,rfl,a,_,dx,_,_,rfl,l0,T.aR,T.gb,Xc,_,_,rfl,fun b hb1=>?_⟩
       refine⟨vA,fun cc hc1=>?_⟩
       have nb:bl≠b:=fun z=>by rw[<-z,aj]at hb1;cases hb1
       have nc:bl≠cc:=fun z=>by rw[<-z,aq nb,aj]at hc1;cases hc1
       have ncb:b≠cc:=fun z=>by rw[z,aj]at hc1;cases hc1
       refine⟨bl,[],_,rfl,rfl,(by rw[aq nc,aq nb,aj]),(by show 0<sizeLine;decide),?_⟩
       refine hN _ _ ⟨rfl,?_,_,aj,Nat.le_refl _,?_⟩
       ·exact fU ((s0.trans (aB hb1)).trans (aB hc1)) hb
       ·rw[Sh hw e]
        simp only[List.map_cons,List.map_nil,aH]
        refine⟨_,_,rfl,J0 (b:=b) (vs:=[]) (by rw[aq nc.symm,aj]) (by rw[aq nb.symm,aq ncb,aj]),rfl⟩
      rcases hx with hx | hx
      ·subst hx
       have:=go (.str "read") (fun z hz=>by rw[hz];rfl)
       obtain⟨v0,e0,ty,a1⟩:=this
       refine⟨v0,e0,ty,?_⟩
       obtain⟨v1,e1,a',C',dx',fs',v',a2⟩:=a1
       obtain⟨i1,i2,i3,i4,i5,v2,e2,a'',C'',atE,atF,v'',j1,j2,j3,j4,j5,a3⟩:=a2
       refine⟨v1,e1,a',C',dx',fs',v',i1,i2,i3,i4,i5,v2,e2,a'',C'',atE,atF,v'',j1,j2,j3,j4,j5,?_⟩
       refine⟨_,rfl,rfl,_,rfl,?_⟩
       exact bG fJ a3
      ·subst hx
       have:=go (.str "none") (fun z hz=>by rw[hz];rfl)
       obtain⟨v0,e0,ty,a1⟩:=this
       refine⟨v0,e0,ty,?_⟩
       obtain⟨v1,e1,a',C',dx',fs',v',a2⟩:=a1
       obtain⟨i1,i2,i3,i4,i5,v2,e2,a'',C'',atE,atF,v'',j1,j2,j3,j4,j5,a3⟩:=a2
       refine⟨v1,e1,a',C',dx',fs',v',i1,i2,i3,i4,i5,v2,e2,a'',C'',atE,atF,v'',j1,j2,j3,j4,j5,?_⟩
       refine⟨_,rfl,rfl,_,rfl,?_⟩
       exact aM (oN (r:=.wr) (x:="read") (q:=.rd) rfl (by intro z;cases z)) a3
  ·rintro σ' H1 ⟨rfl,s1,us1,hb1,hl1,rp1⟩
   have l0:=s1 a _ h1
   try dsimp only
   refine f9 (fun σ' H'=>σ'=[some (.ref a),some (.int d),some (.str x.s),some (.ref bl)]/\bZ H H'/\∃us,H' bl=some (.lst us)/\aH H' us ((g.cN p).map pairD)) (fun N hN=>?_) ?_
   ·refine⟨_,rfl,rfl,_,rfl,?_⟩
    rcases hx with hx | hx
    ·subst hx
     refine aM (oN (x:="write") (q:=.wr) rfl (by intro z;cases z)) ?_
     refine hN _ _ ⟨rfl,s1,us1,hb1,?_⟩
     rw[hbl]
     have:oR g p d .rd=[]:=by unfold oR;rw[if_neg (by intro z;cases z)]
     rw[this,List.append_nil]
     exact rp1
    ·subst hx
     refine bG fJ ?_
     refine⟨_,rfl,.inl ⟨rfl,_,cz.of hb1⟩,?_⟩
     refine⟨_,rfl,a,_,dx,_,_,rfl,l0,T.aR,T.cZ,vK,r,rfl,⟨_,cz.of (s1 _ _ h2)⟩,fun acc hacc=>?_⟩
     have nbl:bl≠acc:=aG hb1 hacc
     have azP:bZ H1 (upd H1 acc (.lst [])):=aB hacc
     let PV1:Nat->List V->St->Hp->Prop:=fun i zs σ' H'=>(∃o,σ'=[o,some (.ref a),some (.int d)])/\bZ H1 H'/\H' acc=some (.lst zs)/\zs.length<=i/\aH H' zs ((((g.rd.take i).filter fun e=>decide (e≠d)).map fun e=>(e,Let.back p .no)).map pairD)
     refine ab7 (xs:=g.rd.map nV) PV1 ?_ ?_ ?_ ?_
     ·exact⟨⟨_,rfl⟩,azP,aj,Nat.le_refl _,by simp[aH]⟩
     ·rintro i zs σ' H' _ ⟨_,s',ha',_⟩
      exact⟨cz.of (s' _ _ (s1 _ _ h2)),ha'⟩
     ·rintro i y zs σ' H' hy hi ⟨⟨o,rfl⟩,s',ha',hz,rp⟩
      rw[List.length_map]at hi
      have hy':y=.int (g.rd[i]:Nat):=by
       rw[List.getElem?_map,List.getElem?_eq_getElem hi]at hy
       exact(Option.some.inj hy).symm
      subst hy'
      have htk:g.rd.take (i+1)=g.rd.take i++[g.rd[i]]:=by rw[List.take_add_one,List.getElem?_eq_getElem hi];rfl
      refine⟨_,rfl,_,rfl,rfl,_,rfl,?_⟩
      by_cases e:g.rd[i]=d
      ·refine aM (by rw[e];simp) (W7.mk (by rw[List.length_map];exact hi) ?_)
       refine⟨⟨_,rfl⟩,s',ha',by lia,?_⟩
       rw[htk,List.filter_append,List.filter_cons_of_neg (by simp[e])]
       simpa using rp
      ·refine bG (by rw[decide_eq_false fun z=>e (by have:=V.int.inj z;lia)];rfl) ?_
       refine⟨_,rfl,_,rfl,a,_,dx,_,_,rfl,s' _ _ l0,T.aR,T.gb,Xc,_,_,rfl,fun b hb2=>?_⟩
       refine⟨vA,fun cc hc2=>?_⟩
       have nb:acc≠b:=aG ha' hb2
       have nc:acc≠cc:=fun z=>by rw[<-z,aq nb]at hc2;rw[hc2]at ha';cases ha'
       have ncb:b≠cc:=fun z=>by rw[z,aj]at hc2;cases hc2
       have h6':upd (upd H' b (.tup [.str "back",.int p,.str "none"])) cc (.tup [.int (g.rd[i]:Nat),.ref b]) acc=some (.lst zs):=by rw[aq nc,aq nb];exact ha'
       have hz2:zs.length<sizeLine:=by lia
       refine Ey.mk (by rw[List.length_map];exact hi) h6' hz2 ?_
       have sup:bZ H' (upd (upd H' b (.tup [.str "back",.int p,.str "none"])) cc (.tup [.int (g.rd[i]:Nat),.ref b])):=(aB hb2).trans (aB hc2)
       refine⟨⟨_,rfl⟩,?_,aj,by rw[List.length_append];simp;lia,?_⟩
       ·exact fU (s'.trans sup) hacc
       ·rw[htk,List.filter_append,List.filter_cons_of_pos (by simp[e]),List.filter_nil,List.map_append,List.map_append]
        have tm:=lH (vs:=zs++[.ref cc]) h6'
        refine aH.snoc ((rp.aX (bc sup) (dh _)).aX tm (dh _)) ?_
        exact J0 (b:=b) (x:=.no) (vs:=[]) (by rw[aq nc.symm,aj]) (by rw[aq nb.symm,aq ncb,aj];rfl)
     ·rintro zs σ' H' ⟨_,s',ha',hz,rp⟩
      rw[List.length_map]at hz rp
      rw[List.take_length]at rp
      have hb':=s' _ _ hb1
      refine⟨bl,acc,us1,zs,rfl,rfl,hb',.inl (cz.of ha'),by lia,?_⟩
      have hbn:H bl=none:=hb
      refine hN _ _ ⟨rfl,fU (s1.trans s') hbn,_,aj,?_⟩
      have tm:=lH (vs:=us1++zs) hb'
      have hrb:oR g p d .wr=(g.rd.filter fun e=>decide (e≠d)).map fun e=>(e,Let.back p .no):=by unfold oR;rw[if_pos rfl]
      rw[hbl,List.map_append,hrb]
      exact aH.append ((rp1.aX (bc s') (dh _)).aX tm (dh _)) (rp.aX tm (dh _))
   ·rintro σ' H2 ⟨rfl,s2,us2,hb2,rp2⟩
    exact⟨_,rfl,k bl us2 H2 hb s2 hb2 rp2⟩
end
end gn
namespace gn
open PySem L2
section
variable{P:Program}{w:World}{K:PySem.W.Frag}{mg:Str->Option Value}{base:Heap}{t:JR}
theorem aH.cons_inv{H:Hp}{vs:List V}{d:D}{ds:List D}(h:aH H vs (d::ds)):∃v r,vs=v::r/\Rep H v d/\aH H r ds:=by simpa only[aH] using h
theorem aH.nil_inv{H:Hp}{vs:List V}(h:aH H vs []):vs=[]:=by simpa only[aH] using h
theorem aH.isEmpty{H:Hp}{vs:List V}{ds:List D}(h:aH H vs ds):vs.isEmpty=ds.isEmpty:=by
 have:=h.length
 cases vs<;>cases ds<;>simp_all
theorem gf.Fb{C:Addr}{H:Hp}{a r q l:Addr}{p:Nat}{g:PG}{vs:List V}(PA:gf C H a r q p g)(h:H l=some (.lst vs)):l≠a:=by
 obtain⟨⟨dx,h1⟩,_⟩:=PA
 exact jr h h1 (by intro z;cases z)
theorem gf.wrL{C:Addr}{H:Hp}{a r q l:Addr}{p:Nat}{g:PG}{us vs:List V}(PA:gf C H a r q p g)(h:H l=some (.lst us))(nr:l≠r)(nq:l≠q):gf C (upd H l (.lst vs)) a r q p g :=
 PA.keep (lH h) (fun o e=>by rw[aq (PA.Fb h).symm];exact e) (fun o e=>by rw[aq nr.symm];exact e) fun o e=>by rw[aq nq.symm];exact e
theorem ak9(g:PG)(p d:Nat)(x:Rt):(oO g p d x).length<=1:=by
 unfold oO
 split
 ·split<;>simp
 ·simp
theorem Yi(g:PG)(p:Nat):(g.cN p).length<=g.rd.length+1:=by
 unfold PG.cN
 split
 ·simp
 ·rename_i a r l _
  rw[List.length_append]
  have h1:=ak9 g p a r
  have h2:(oR g p a r).length<=g.rd.length:=by
   unfold oR
   split
   ·rw[List.length_map];exact List.length_filter_le _ _
   ·simp
  lia
theorem yV:∀(k:Nat) (g:PG) (p:Nat),(pJ k g p).2.length<=k+g.mu+1
 | 0,g,p=>by simp[pJ]
 | k+1,g,p=>by
   rw[pJ]
   split
   ·have:=yV k g.lent p
    have h2:=g.sS
    have h3:(g.dO p).length<=1:=by unfold PG.dO;split<;>simp
    simp only[List.length_append]
    lia
   ·have:=Yi g p
    simp only
    unfold PG.mu
    lia
theorem PG.yV(g:PG)(p:Nat):(g.serve p).2.length<=2*g.mu+1:=by
 have:=gn.yV g.ask.length g p
 unfold PG.serve
 have h2:g.ask.length<=g.mu:=by unfold PG.mu;lia
 lia
theorem uZ(T:Txt K w mg t):dj P w K mg base oM 3 t.du t.lR ["self"] (ao8 t.aD):=by
 refine T.Mu.ok lQ (fun vs H Q E h=>?_) (fun cdv A outer s H vs Q E hr h=>?_)
 ·obtain⟨a,r,q,p,g,rfl,_⟩:=h;rfl
 ·obtain⟨a,r,q,p,g0,rfl,PA,hrw,hmu,k⟩:=h
  have sl:sizeLine=16777216:=by decide
  refine⟨_,(ak (bx (i:=1) lQ.nd rfl (Or.inl rfl) (bN ao))
   (ak (WD PassesOwn.never (Es (cL (pv 0) (by rfl)) (fun _=>rfl)) (ak (bx (i:=2) lQ.nd rfl (Or.inl rfl) (yh (pv 0) T.aR T.sY (tu T) (hr.mono (by decide):bQ 2 _) T.uY .nil bW))
   (ak (bU (Es (pv 2) (fun _=>rfl)) (ak (gk (pv 0) (cX dq (by rfl) T.wA PySem.boot_len (aa (pv 2) ao)) (by rfl))
   (aA (aZ (bF mW (pv 1) (pv 2))))) bw)
   (aA (bO (fB PySem.F.plainAttrs_list PySem.F.slot_list_append PySem.F.type_list_append cG (pv 1) (aa (yh (pv 0) T.aR T.wz (wB T) (hr.mono (by decide):bQ 2 _) T.yS .nil bW) ao)))))))
   (aA (aZ (pv 1))))),?_⟩
  try dsimp only[dD,Cx.kZ]
  show let Z1:L2.TS:=_;let Z2:L2.TS:=_;let Z3:L2.TS:=_;let Z4:L2.TS:=_;let Z5:L2.TS:=aU Z3 (Z4);let Z6:L2.TS:=cT _ Z5 bJ;let Z7:L2.TS:=_;let Z8:L2.TS:=aU Z2 (aU Z6 (Z7));let Z9:L2.TS:=acL _ Z8;let yW:L2.TS:=_;let D0:Ends:=_;(aU Z1 (aU Z9 (yW))) D0 _ _
  intro Z1 Z2 Z3 Z4 Z5 Z6 Z7 Z8 Z9 yW D0
  refine⟨Eo,fun l hl=>?_⟩
  have nlr:l≠r:=(aG PA.rl hl).symm
  have nlq:l≠q:=by obtain⟨_,_,⟨vs,h3,_⟩,_⟩:=PA;exact(aG h3 hl).symm
  refine⟨fun m σ H1=>∃o g r1 vs acc,σ=[some (.ref a),some (.ref l),o]/\(r1=r\/H r1=none)/\l≠r1/\gf t.aD H1 a r1 q p g/\PF H H1 a r q/\H1 l=some (.lst vs)/\aH H1 vs (acc.map pairD)/\Rw g.ask/\g.mu<=1000000/\acc.length+g.ask.length<=g0.ask.length/\
   (g0.serve p).1=(g.serve p).1/\(g0.serve p).2=acc++(g.serve p).2/\m=g.ask.length,⟨_,none,g0,r,[],[],rfl,.inl rfl,nlr,PA.new hl,PF.new hl,aj,by simp[aH],hrw,hmu,by simp,rfl,by simp,rfl⟩,?_⟩
  rintro m σ H1 ⟨o,g,r1,vs,acc,rfl,hr1,nl1,P1,f1,hl1,rp,rw1,mu1,Mi,se1,se2,rfl⟩
  have aBp:g0.ask.length<=1000000:=by unfold PG.mu at hmu;lia
  have hvl:vs.length=acc.length:=by rw[rp.length,List.length_map]
  obtain⟨⟨dx,h1⟩,h2,⟨us,h3,h4⟩,h5⟩:=id P1
  refine⟨_,rfl,a,_,dx,_,_,rfl,h1,T.aR,T.di,tR,_,.inl ⟨us,cz.of h3,rfl⟩,?_⟩
  cases xO:g.ask with
  | nil =>
    rw[xO]at h4
    have:=aH.nil_inv (by simpa using h4)
    subst this
    refine aM rfl ?_
    refine⟨_,rfl,k l r1 vs H1 hl hr1 nl1 ?_ f1 hl1 ?_⟩
    ·rw[se1,yp xO];exact P1
    ·rw[se2,yp xO,List.append_nil];exact rp
  | cons x0 q0 =>
    obtain⟨d,x⟩:=x0
    have hx:x=.rd\/x=.wr:=rw1 (d,x) (by rw[xO];simp)
    have hne:g.ask≠[]:=by rw[xO];simp
    have hlen:us.length=g.ask.length:=by rw[h4.length,List.length_map]
    have am5:g.rd.length<=1000000:=by unfold PG.mu at mu1;lia
    refine bG (by cases us with | nil=>rw[xO]at hlen;simp at hlen | cons _ _=>rfl) ?_
    refine⟨fun σ' H'=>∃m',m'<q0.length+1/\∃o g r1 vs acc,σ'=[some (.ref a),some (.ref l),o]/\(r1=r\/H r1=none)/\l≠r1/\gf t.aD H' a r1 q p g/\PF H H' a r q/\H' l=some (.lst vs)/\aH H' vs (acc.map pairD)/\Rw g.ask/\g.mu<=1000000/\acc.length+g.ask.length<=g0.ask.length/\
     (g0.serve p).1=(g.serve p).1/\(g0.serve p).2=acc++(g.serve p).2/\m'=g.ask.length,fun σ' H' z=>z,?_⟩
    refine⟨_,rfl,a,dx,_,rfl,h1,amH,a,r1,q,p,g,d,x,q0,rfl,P1,xO,hx,am5,fun b bs H2 hb s2 hb2 rpb=>?_⟩
    have P2:=P1.same s2
    have hl2:=s2 _ _ hl1
    have nbl:b≠l:=(aG hl1 hb).symm
    obtain⟨⟨dx2,g1⟩,_⟩:=id P2
    have hbl:bs.length=(g.cN p).length:=by rw[rpb.length,List.length_map]
    refine⟨_,rfl,_,.inl ⟨bs,cz.of hb2,rfl⟩,?_⟩
    by_cases he:g.cN p=[]
    ·have e0:bs=[]:=by rw[he]at hbl;exact List.length_eq_zero_iff.mp hbl
     subst e0
     refine aM rfl ?_
     refine⟨_,rfl,.inl ⟨rfl,_,cz.of hl2⟩,_,rfl,a,dx2,_,rfl,g1,agb,a,r1,q,p,g,d,x,q0,rfl,P2,xO,hx,am5,fun v r2 H3 hr2 P3 f3 rv=>?_⟩
     have nq:l≠q:=nlq
     have hl3:H3 l=some (.lst vs):=f3.kp l _ hl2 (P2.Fb hl2) nl1 nq
     have nl2:l≠r2:=by
      rcases hr2 with z | z
      ·rw[z];exact nl1
      ·exact aG hl2 z
     have t3:=f3.tups P2
     refine⟨l,vs,v,rfl,rfl,hl3,by lia,?_⟩
     refine⟨_,?_,_,g.lent,r2,vs++[v],acc++[(d,.lend p x g.num)],rfl,?_,nl2,P3.wrL hl3 nl2 nq,?_,aj,?_,?_,Nat.le_trans g.sS mu1,?_,?_,?_,rfl⟩
     ·rw[PG.yo,xO];simp
     ·rcases hr2 with z | z
      ·rw[z];exact hr1
      ·exact .inr (f1.lv _ (Lv.same s2 _ z))
     ·refine⟨fun b' o' e' h1' h2' h3'=>?_,f1.lv.trans ((Lv.same s2).trans (f3.lv.trans Lv.upd))⟩
      have e2':=s2 _ _ (f1.kp b' o' e' h1' h2' h3')
      have e3':=f3.kp b' o' e2' h1' (by
       rcases hr1 with z | z
       ·rw[z];exact h2'
       ·exact aG e' z) h3'
      rw[aq (aG e' hl)]
      exact e3'
     ·rw[List.map_append]
      exact aH.snoc (((rp.aX (bc s2) (dh _)).aX t3 (dh _)).aX (lH hl3) (dh _)) (rv.aX (lH hl3) (by simp[pairD,D.flat,D.flats];exact Let.flat _))
     ·have:g.lent.ask=q0:=by unfold PG.lent;rw[xO];dsimp only;split<;>rfl
      rw[this]
      intro y hy
      exact rw1 y (by rw[xO];exact List.mem_cons_of_mem _ hy)
     ·rw[PG.yo,xO,List.length_append]
      rw[xO]at Mi
      simp at Mi ⊢
      lia
     ·rw[se1,uc hne he]
     ·rw[se2,uc hne he]
      have:g.dO p=[(d,.lend p x g.num)]:=by unfold PG.dO;rw[xO]
      rw[this,List.append_assoc]
    ·refine bG (by cases bs with | nil=>exact absurd (List.length_eq_zero_iff.mp hbl.symm) he | cons _ _=>rfl) ?_
     refine⟨_,rfl,b,bs,rfl,.inl (cz.of hb2),_,rfl,a,_,dx2,_,rfl,g1,T.aR,T.eF,vL,?_⟩
     rw[aga]
     have P3:=P2.wr (dx:=dx2) (g':={g with miss:=(bs.length:Int)}) rfl rfl
     have hl3:upd H2 a (.ins t.aD dx2 (BR p {g with miss:=(bs.length:Int)} r1 q)) l=some (.lst vs):=by rw[aq (P2.Fb hl2)];exact hl2
     have hb3:upd H2 a (.ins t.aD dx2 (BR p {g with miss:=(bs.length:Int)} r1 q)) b=some (.lst bs):=by rw[aq (P2.Fb hb2)];exact hb2
     have t3:b7 H2 (upd H2 a (.ins t.aD dx2 (BR p {g with miss:=(bs.length:Int)} r1 q))):=fun b' xs e=>by rw[aq (jr e g1 (by intro z;cases z))];exact e
     have bl2:=Yi g p
     refine⟨_,rfl,_,rfl,l,b,vs,bs,rfl,rfl,hl3,hb3,by lia,fun c hc=>?_⟩
     have hcl:H c=none:=f1.lv _ (Lv.same s2 _ (Lv.upd _ hc))
     refine k c r1 (vs++bs) _ hcl hr1 ?_ ?_ ?_ aj ?_
     ·exact(aG P3.rl hc).symm
     ·rw[se1,yq hne he,<-hbl];exact P3.new hc
     ·refine⟨fun b' o' e' h1' h2' h3'=>?_,f1.lv.trans ((Lv.same s2).trans (Lv.upd.trans Lv.upd))⟩
      have e2':=s2 _ _ (f1.kp b' o' e' h1' h2' h3')
      rw[aq (aG e' hcl),aq h1']
      exact e2'
     ·rw[se2,yq hne he,List.map_append]
      have tc:=bc (aB (o:=.lst (vs++bs)) hc)
      exact aH.append (((rp.aX (bc s2) (dh _)).aX t3 (dh _)).aX tc (dh _)) ((rpb.aX t3 (dh _)).aX tc (dh _))
theorem Ax(T:Txt K w mg t):dj P w K mg base oM 1 t.cI t.jm ["self","desk","number"] (ate t.aD):=by
 refine T.Di.ok z7 (fun vs H Q E h=>?_) (fun cdv A outer s H vs Q E hr h=>?_)
 ·obtain⟨a,r,q,p,g,d,n,rfl,_⟩:=h;rfl
 ·obtain⟨a,r,q,p,g,d,n,rfl,PA,k⟩:=h
  refine⟨_,(ak (gk (pv 0) (pv 2) (by rfl))
   (ak (bU (aQ cQ (cL (pv 0) (by rfl)) (pv 1) (aW _)) (aA (gk (pv 0) tV (by rfl))) bw)
   (aA (aZ (bN ao))))),?_⟩
  try dsimp only[dD,Cx.kZ]
  show let Z1:L2.TS:=_;let Z2:L2.TS:=_;let Z3:L2.TS:=cT _ Z2 bJ;let Z4:L2.TS:=_;let D0:Ends:=_;(aU Z1 (aU Z3 (Z4))) D0 _ _
  intro Z1 Z2 Z3 Z4 D0
  obtain⟨⟨dx,h1⟩,_⟩:=id PA
  refine⟨_,rfl,_,rfl,a,_,dx,_,rfl,h1,T.aR,T.fj,vL,?_⟩
  rw[ajM]
  have P1:=PA.wr (dx:=dx) (g':={g with num:=n}) rfl rfl
  have f1:PF H (upd H a (.ins t.aD dx (BR p {g with num:=n} r q))) a r q:=PF.wr
  generalize upd H a (.ins t.aD dx (BR p {g with num:=n} r q))=H1 at P1 f1
  try dsimp only[bJ]
  refine f9 (fun σ' H'=>σ'=[some (.ref a),some (.int d),some (.int n)]/\gf t.aD H' a r q p {g with num:=n,wr:=if g.wr=some d then none else g.wr}/\PF H H' a r q) (fun N hN=>?_) ?_
  ·obtain⟨⟨zF,g1⟩,_⟩:=id P1
   have sc:asj (wrV g.wr) (.int d)=true:=by cases g.wr<;>rfl
   refine⟨_,rfl,a,_,zF,_,_,rfl,g1,T.aR,T.b8,ue,_,rfl,sc,_,rfl,?_⟩
   by_cases e:g.wr=some d
   ·refine bG (by show decide (wrV g.wr=V.int d)=true;rw[e];exact decide_eq_true rfl) ?_
    refine⟨_,rfl,a,_,zF,_,rfl,g1,T.aR,T.b8,vL,?_⟩
    rw[ajN]
    refine hN _ _ ⟨rfl,?_,f1.trans PF.wr⟩
    rw[if_pos e]
    exact P1.wr rfl rfl
   ·refine aM (decide_eq_false fun z=>e ?_) ?_
    ·cases hw:g.wr with
     | none=>rw[hw]at z;cases z
     | some x=>rw[hw]at z;have:=V.int.inj z;exact congrArg some (by lia)
    ·refine hN _ _ ⟨rfl,?_,f1⟩
     rw[if_neg e]
     exact P1
  ·rintro σ' H2 ⟨rfl,P2,f2⟩
   refine⟨Eo,fun l hl=>?_⟩
   exact k l r [] _ (f2.lv _ hl) (.inl rfl) (aG P2.rl hl).symm (P2.new hl) (f2.trans (PF.new hl)) aj (by simp[PG.take,aH])
theorem Dq(T:Txt K w mg t):dj P w K mg base oM 4 t.cO t.jC ["self","desk","right"] (awq t.aD):=by
 refine T.Gb.ok De (fun vs H Q E h=>?_) (fun cdv A outer s H vs Q E hr h=>?_)
 ·obtain⟨a,r,q,p,g,x,d,rfl,_⟩:=h;rfl
 ·obtain⟨a,r,q,p,g,x,d,rfl,PA,hx,hrw,hmu,k⟩:=h
  have sl:sizeLine=16777216:=by decide
  refine⟨_,(ak (bO (fB PySem.F.plainAttrs_list PySem.F.slot_list_append PySem.F.type_list_append cG (cL (pv 0) (by rfl)) (aa (cg (aa (pv 1) (aa (pv 2) ao))) ao)))
   (aA (aZ (qp (aQ cQ (cX dq (by rfl) T.wA PySem.boot_len (aa (cL (pv 0) (by rfl)) ao)) az (aW _)) (yh (pv 0) T.aR T.uW (uZ T) (hr.mono (by decide):bQ 3 _) T.wy .nil bW) (bN ao))))),?_⟩
  try dsimp only[dD,Cx.kZ]
  show let Z1:L2.TS:=_;let Z2:L2.TS:=_;let D0:Ends:=_;(aU Z1 (Z2)) D0 _ _
  intro Z1 Z2 D0
  obtain⟨⟨dx,h1⟩,h2,⟨vs,h3,h4⟩,h5⟩:=id PA
  have hvl:vs.length=g.ask.length:=by rw[h4.length,List.length_map]
  have hal:g.ask.length<=900000:=by unfold PG.mu at hmu;lia
  refine⟨_,rfl,a,_,dx,_,_,rfl,h1,T.aR,T.di,tR,.inl ⟨rfl,_,cz.of h3⟩,_,rfl,_,rfl,vA,fun tt ht=>?_⟩
  have s1:=aB (o:=.tup [.int d,.str x.s]) ht
  refine⟨q,vs,_,rfl,rfl,s1 _ _ h3,by lia,?_⟩
  have rp:aH (upd H tt (.tup [.int d,.str x.s])) (vs++[.ref tt]) ((g.ask++[(d,x)]).map sO):=by
   rw[List.map_append]
   refine aH.snoc (h4.aX (bc s1) (kJ _)) ?_
   simp only[sO,Rep,aH]
   exact⟨tt,_,rfl,aj,_,_,rfl,rfl,_,_,rfl,rfl,rfl⟩
  have P1:=(PA.same s1).wrQ (l:=g.ask++[(d,x)]) rp
  have f1:PF H (upd (upd H tt (.tup [.int d,.str x.s])) q (.lst (vs++[.ref tt]))) a r q:=(PF.new ht).trans PF.wrQ
  generalize upd (upd H tt (.tup [.int d,.str x.s])) q (.lst (vs++[.ref tt]))=H1 at P1 f1
  obtain⟨⟨zF,g1⟩,_,⟨us,g3,g4⟩,_⟩:=id P1
  have hul:us.length=g.ask.length+1:=by rw[g4.length,List.length_map];simp
  refine⟨_,rfl,a,_,zF,_,_,rfl,g1,T.aR,T.di,tR,q,us,rfl,.inl (cz.of g3),rfl,_,rfl,?_⟩
  by_cases e:g.ask=[]
  ·refine bG (decide_eq_true (by rw[hul,e];rfl)) ?_
   refine⟨_,rfl,a,zF,_,rfl,g1,acb,a,r,q,p,_,rfl,P1,?_,?_,fun l r' ws H' hl hr' nl P' f' hl' rp'=>?_⟩
   ·intro y hy
    rcases List.mem_append.mp hy with hy | hy
    ·exact hrw y hy
    ·have:y=(d,x):=by simpa using hy
     rw[this];exact hx
   ·unfold PG.mu at hmu ⊢;simp;lia
   ·have ek:g.take p d (.ask p x)=PG.serve {g with ask:=g.ask++[(d,x)]} p:=by simp only[PG.take];rw[if_pos e,e];rfl
    refine k l r' ws H' (f1.lv _ hl) ?_ nl ?_ (f1.trans f') hl' ?_
    ·rcases hr' with z | z
     ·exact .inl z
     ·exact .inr (f1.lv _ z)
    ·rw[ek];exact P'
    ·rw[ek];exact rp'
  ·refine aM (decide_eq_false ?_) ?_
   ·intro z
    have z1:=V.int.inj z
    have:g.ask.length≠0:=fun y=>e (List.length_eq_zero_iff.mp y)
    lia
   refine⟨Eo,fun l hl=>?_⟩
   have ek:g.take p d (.ask p x)=({g with ask:=g.ask++[(d,x)]},[]):=by simp only[PG.take];rw[if_neg e]
   exact k l r [] _ (f1.lv _ hl) (.inl rfl) (aG P1.rl hl).symm (by rw[ek];exact P1.new hl) (f1.trans (PF.new hl)) aj (by rw[ek];simp[aH])
theorem xP(T:Txt K w mg t):dj P w K mg base oM 4 t.cA t.iT ["self","number"] (awr t.aD):=by
 refine T.yQ.ok xq (fun vs H Q E h=>?_) (fun cdv A outer s H vs Q E hr h=>?_)
 ·obtain⟨a,r,q,p,g,o,d,rfl,_⟩:=h;rfl
 ·obtain⟨a,r,q,p,g,o,d,rfl,PA,hms,hrw,hmu,k⟩:=h
  have sl:sizeLine=16777216:=by decide
  refine⟨_,(ak (bU (wW (vD (pv 1))) (aA (gk (pv 0) (pv 1) (by rfl))) bw)
   (ak (akK (pv 0) az asm)
   (ak (bU (aQ tZ (cL (pv 0) (by rfl)) az (aW _)) (aA (aZ (bN ao))) bw)
   (aA (aZ (bF mW (bN (aa (yh (pv 0) T.aR T.wz (wB T) (hr.mono (by decide):bQ 2 _) T.yS .nil bW) ao)) (yh (pv 0) T.aR T.uW (uZ T) (hr.mono (by decide):bQ 3 _) T.wy .nil bW))))))),?_⟩
  try dsimp only[dD,Cx.kZ]
  show let Z1:L2.TS:=_;let Z2:L2.TS:=cT _ Z1 bJ;let Z3:L2.TS:=_;let Z4:L2.TS:=_;let Z5:L2.TS:=cT _ Z4 bJ;let Z6:L2.TS:=_;let D0:Ends:=_;(aU Z2 (aU Z3 (aU Z5 (Z6)))) D0 _ _
  intro Z1 Z2 Z3 Z4 Z5 Z6 D0
  try dsimp only[bJ]
  refine f9 (fun σ' H'=>σ'=[some (.ref a),some (oV o)]/\gf t.aD H' a r q p {g with num:=o.getD g.num}/\PF H H' a r q) (fun N hN=>?_) ?_
  ·obtain⟨⟨dx,h1⟩,_⟩:=id PA
   refine⟨_,rfl,_,rfl,?_⟩
   cases o with
   | none =>
     refine aM rfl ?_
     exact hN _ _ ⟨rfl,PA,PF.refl _ _ _ _⟩
   | some n =>
     refine bG rfl ?_
     refine⟨_,rfl,_,rfl,a,_,dx,_,rfl,h1,T.aR,T.fj,vL,?_⟩
     show N _ (upd H a (.ins _ dx (gh "number" (.int n) _)))
     rw[ajM]
     exact hN _ _ ⟨rfl,PA.wr rfl rfl,PF.wr⟩
  ·rintro σ' H1 ⟨rfl,P1,f1⟩
   obtain⟨⟨dx,h1⟩,_⟩:=id P1
   refine⟨_,rfl,a,_,dx,_,_,rfl,h1,T.aR,T.eF,R3,_,_,rfl,rfl,dx,_,h1,vL,?_⟩
   rw[aga]
   have P2:=P1.wr (dx:=dx) (g':={g with num:=o.getD g.num,miss:=g.miss - 1}) rfl rfl
   have f2:PF H (upd H1 a (.ins t.aD dx (BR p {g with num:=o.getD g.num,miss:=g.miss - 1} r q))) a r q:=f1.trans PF.wr
   generalize upd H1 a (.ins t.aD dx (BR p {g with num:=o.getD g.num,miss:=g.miss - 1} r q))=H2 at P2 f2
   generalize hg:({g with num:=o.getD g.num,miss:=g.miss - 1}:PG)=g2 at P2
   have hga:g2.ask=g.ask:=by rw[<-hg]
   have hgr:g2.rd=g.rd:=by rw[<-hg]
   have hgm:g2.miss=g.miss - 1:=by rw[<-hg]
   obtain⟨⟨dx2,g1⟩,_⟩:=id P2
   refine⟨_,rfl,a,_,dx2,_,_,rfl,g1,T.aR,T.eF,R3,rfl,_,rfl,?_⟩
   have ek:g.take p d (.ans p o)=if g.miss - 1=0 then((g2.lent.serve p).1,g2.dO p++(g2.lent.serve p).2)else(g2,[]):=by simp only[PG.take];rw[hg]
   by_cases e:g.miss - 1=0
   ·refine aM (by rw[hgm,e];rfl) ?_
    rw[if_pos e]at ek
    cases xO:g2.ask with
    | nil=>exact absurd (hga▸xO) (hms e)
    | cons x0 q0 =>
      obtain⟨d0,x⟩:=x0
      have hx:x=.rd\/x=.wr:=hrw (d0,x) (by rw[<-hga,xO];simp)
      have hrl:g2.rd.length<=1000000:=by rw[hgr];unfold PG.mu at hmu;lia
      refine⟨_,rfl,a,dx2,_,rfl,g1,agb,a,r,q,p,g2,d0,x,q0,rfl,P2,xO,hx,hrl,fun v r1 H3 hr1 P3 f3 rv=>?_⟩
      refine⟨zz1,fun l1 hl1=>?_⟩
      have P4:=P3.new (o:=.lst [v]) hl1
      have f4:PF H2 (upd H3 l1 (.lst [v])) a r q:=f3.trans (PF.new hl1)
      have nl1:l1≠r1:=(aG P3.rl hl1).symm
      have nq1:l1≠q:=by obtain⟨_,_,⟨us,g3,_⟩,_⟩:=P3;exact(aG g3 hl1).symm
      have hv1:upd H3 l1 (.lst [v]) l1=some (.lst [v]):=aj
      have rv1:=Rep.aX (bc (aB (o:=.lst [v]) hl1)) (show(pairD (d0,.lend p x g2.num)).flat by simp only[pairD,D.flat,D.flats];exact⟨trivial,Let.flat _,trivial⟩) rv
      have aCT:=f3.lv _ hl1
      generalize upd H3 l1 (.lst [v])=H4 at P4 f4 hv1 rv1
      obtain⟨⟨dx4,k1⟩,_⟩:=id P4
      have hla:g2.lent.ask=q0:=by unfold PG.lent;rw[xO];dsimp only;split<;>rfl
      refine⟨_,rfl,a,dx4,_,rfl,k1,acb,a,r1,q,p,_,rfl,P4,?_,?_,fun l r' ws H5 hl hr' nl P5 f5 hl5 rp5=>?_⟩
      ·rw[hla];intro y hy;exact hrw y (by rw[<-hga,xO];exact List.mem_cons_of_mem _ hy)
      ·refine Nat.le_trans g2.sS ?_
       unfold PG.mu at hmu ⊢;rw[hga,hgr];lia
      ·have azR:H5 l1=some (.lst [v]):=f5.kp l1 _ hv1 (P4.Fb hv1) nl1 nq1
       have wl:ws.length<=3000000:=by
        rw[rp5.length,List.length_map]
        have h8:=g2.lent.yV p
        have h9:=g2.sS
        have h10:g2.mu<=900000:=by unfold PG.mu at hmu ⊢;rw[hga,hgr];lia
        lia
       refine⟨l1,l,[v],ws,rfl,rfl,azR,hl5,(by simp only[List.length_singleton];lia),fun c hc=>?_⟩
       have fr1:r1=r\/H r1=none:=by
        rcases hr1 with z | z
        ·exact .inl z
        ·exact .inr (f2.lv _ z)
       refine k c r' ([v]++ws) _ (f2.lv _ (f4.lv _ (f5.lv _ hc))) ?_ (aG P5.rl hc).symm (by rw[ek];exact P5.new hc) ((f2.trans f4).trans' (f5.trans' (PF.new hc) hr') fr1) aj ?_
       ·rcases hr' with z | z
        ·rw[z];exact fr1
        ·exact .inr (f2.lv _ (f4.lv _ z))
       ·rw[ek]
        have h11:g2.dO p=[(d0,.lend p x g2.num)]:=by unfold PG.dO;rw[xO]
        rw[h11,List.map_append]
        have tc:=bc (aB (o:=.lst ([v]++ws)) hc)
        refine aH.append ?_ (rp5.aX tc (dh _))
        simp only[List.map_cons,List.map_nil,aH]
        have hfl:(pairD (d0,.lend p x g2.num)).flat:=by simp only[pairD,D.flat,D.flats];exact⟨trivial,Let.flat _,trivial⟩
        exact⟨v,[],rfl,Rep.aX tc hfl (Rep.aX (f5.tups P4) hfl rv1),rfl⟩
   ·refine bG (by rw[hgm];rw[decide_eq_false fun z=>e (V.int.inj z)];rfl) ?_
    rw[if_neg e]at ek
    refine⟨Eo,fun l hl=>?_⟩
    exact k l r [] _ (f2.lv _ hl) (.inl rfl) (aG P2.rl hl).symm (by rw[ek];exact P2.new hl) (f2.trans (PF.new hl)) aj (by rw[ek];simp[aH])
end
end gn
namespace gn
open PySem L2
section
variable{P:Program}{w:World}{K:PySem.W.Frag}{mg:Str->Option Value}{base:Heap}{t:JR}
theorem adC(T:Txt K w mg t):dj P w K mg base oM 5 t.iH t.Aj ["self","desk","letter"] (aiA t.ie t.aD):=by
 refine T.agF.ok Mp (fun vs H Q E h=>?_) (fun cdv A outer s H vs Q E hr h=>?_)
 ·obtain⟨A,m,G,b,l,d,rfl,_⟩:=h;rfl
 ·obtain⟨A0,m,G,b,l,d,rfl,HA,hb,hp,hg,hrw,hmu,k⟩:=h
  refine⟨_,(ak (bx (i:=3) Mp.nd rfl (Or.inl rfl) (aO bD (cL (pv 0) (by rfl)) (aO bB (pv 2) az (fun _ _=>rfl)) (fun _ _=>rfl)))
   (ak (bU (aQ cQ (aO bB (pv 2) az (fun _ _=>rfl)) aC (aW _)) (aA (aZ (cD (pv 3) T.aR T.Dh (Dq T) (hr.mono (by decide):bQ 4 _) T.Gd .nil bW (aa (pv 1) (aa (aO bB (pv 2) az (fun _ _=>rfl)) ao))))) bw)
   (ak (bU (aQ cQ (aO bB (pv 2) az (fun _ _=>rfl)) aC (aW _)) (aA (aZ (cD (pv 3) T.aR T.xM (xP T) (hr.mono (by decide):bQ 4 _) T.yR .nil bW (aa (aO bB (pv 2) az (fun _ _=>rfl)) ao)))) bw)
   (aA (aZ (cD (pv 3) T.aR T.Aq (Ax T) (hr.mono (by decide):bQ 1 _) T.Dj .nil bW (aa (pv 1) (aa (aO bB (pv 2) az (fun _ _=>rfl)) ao)))))))),?_⟩
  try dsimp only[dD,Cx.kZ]
  show let Z1:L2.TS:=_;let Z2:L2.TS:=_;let Z3:L2.TS:=cT _ Z2 bJ;let Z4:L2.TS:=_;let Z5:L2.TS:=cT _ Z4 bJ;let Z6:L2.TS:=_;let D0:Ends:=_;(aU Z1 (aU Z3 (aU Z5 (Z6)))) D0 _ _
  intro Z1 Z2 Z3 Z4 Z5 Z6 D0
  obtain⟨dx,h1⟩:=HA.ob
  have hpl:=HA.pl
  have PA:=HA.pg l.pg hp
  obtain⟨⟨zF,g1⟩,_⟩:=id PA
  refine⟨_,rfl,A0 .hall,_,dx,_,_,rfl,h1,T.aiP,T.qm,ak0,zt rfl (cW.of hb) (UL.at1 l) ⟨A0 .pages,_,_,_,rfl,rfl,cz.of hpl,bM hp,?_⟩⟩
  have fin:∀lst r' vs H',H lst=none->(r'=A0 (.iV l.pg)\/H r'=none)->lst≠r'->gf t.aD H' (A0 (.gq l.pg)) r' (A0 (.jJ l.pg)) l.pg ((G l.pg).take l.pg d l).1->PF H H' (A0 (.gq l.pg)) (A0 (.iV l.pg)) (A0 (.jJ l.pg))->H' lst=some (.lst vs)->aH H' vs (((G l.pg).take l.pg d l).2.map pairD)->Q (.ref lst) H':=fun lst r' vs H' hl hr' nl P' f' hl' rp=>by
   obtain⟨HA',hf⟩:=HA.page hp P' f' hr'
   refine k lst _ vs H' hl HA' hf (fun x hx=>?_) (fun x hx=>?_) (bI _ _ (by intro z;cases z)) hl' rp
   ·by_cases e:x=.iV l.pg
    ·rw[e,c7];exact hr'
    ·rw[bI _ _ e];exact .inl rfl
   ·by_cases e:x=.iV l.pg
    ·rw[e,c7];exact nl
    ·rw[bI _ _ e]
     intro z
     obtain⟨o,e1,_⟩:=HA.live x hx
     rw[<-z,hl]at e1;cases e1
  cases l with
  | ask p x =>
    refine zt rfl (cW.of hb) rfl ⟨rfl,_,rfl,?_⟩
    refine bG fJ ?_
    refine⟨_,rfl,_,zF,_,rfl,g1,as7,_,rfl,zt rfl (cW.of hb) rfl ⟨_,_,_,p,G p,x,d,rfl,PA,hg,hrw,hmu,fun lst r' vs H' hl hr' nl P' f' hl' rp=>fin lst r' vs H' hl hr' nl P' f' hl' rp⟩⟩
  | ans p o =>
    refine zt rfl (cW.of hb) rfl ⟨rfl,_,rfl,?_⟩
    refine aM (dm (by decide +kernel)) ?_
    refine zt rfl (cW.of hb) rfl ⟨rfl,_,rfl,?_⟩
    refine bG fJ ?_
    refine⟨_,rfl,_,zF,_,rfl,g1,as8,zt rfl (cW.of hb) rfl ⟨_,_,_,p,G p,o,d,rfl,PA,hg,hrw,hmu,fun lst r' vs H' hl hr' nl P' f' hl' rp=>fin lst r' vs H' hl hr' nl P' f' hl' rp⟩⟩
  | gave p n =>
    refine zt rfl (cW.of hb) rfl ⟨rfl,_,rfl,?_⟩
    refine aM (dm (by decide +kernel)) ?_
    refine zt rfl (cW.of hb) rfl ⟨rfl,_,rfl,?_⟩
    refine aM (dm (by decide +kernel)) ?_
    refine⟨_,rfl,_,zF,_,rfl,g1,as9,_,rfl,zt rfl (cW.of hb) rfl ⟨_,_,_,p,G p,d,n,rfl,PA,fun lst r' vs H' hl hr' nl P' f' hl' rp=>fin lst r' vs H' hl hr' nl P' f' hl' rp⟩⟩
theorem adD(T:Txt K w mg t):dj P w K mg base oM 3 t.iG t.Ai ["self","numbers"] (aiC t.ie t.aD):=by
 refine T.agD.ok ac8 (fun vs H Q E h=>?_) (fun cdv A outer s H vs Q E hr h=>?_)
 ·obtain⟨h,dx,l,ns,rfl,_⟩:=h;rfl
 ·obtain⟨h,dx,l,ns,rfl,hh,hl,hns,k⟩:=h
  have sl:sizeLine=16777216:=by decide
  refine⟨_,(aA (gk (pv 0) (mY (iY (xs:=["page","number"]) (ys:=[]) (js:=[]) rfl (by decide +kernel) (by decide +kernel) (by decide +kernel) (by rfl) trivial) rfl (aoZ (by rfl) T.agS (aa (pv 1) ao)) (fun _ _ _ _ _=>(apb (K:=K) (n:=2) rfl rfl (fP (cM (i:=0) (show List.Nodup ((["page","number"]:List Str)++([]:List Str):List Str)by decide +kernel) rfl (Or.inl rfl)) (fP (cM (i:=1) (show List.Nodup ((["page","number"]:List Str)++([]:List Str):List Str)by decide +kernel) rfl (Or.inl rfl)) zJ)))) (fun _ _ _ _ _=>sJ) (fun _ _ _ _ _=>(acO T.Ao (Ni T) (hr.mono (by decide):bQ 2 _) (by rfl) T.agu T.QH .nil bW (aa (pv 0) (aa (pv 1) ao))))) (by rfl))),?_⟩
  try dsimp only[dD,Cx.kZ]
  refine⟨_,rfl,l,rfl,⟨_,cz.of hl⟩,fun acc hacc=>?_⟩
  have nha:h≠acc:=aG hh hacc
  refine akZ (xs:=ns.map V.int) (fun i zs σ' H'=>(∃o1 o2,σ'=[o1,o2])/\bZ H H'/\H' acc=some (.lst zs)/\∃A:Hb->Addr,A .pages=acc/\A .hall=h/\(∀x y:Hb,x.ok i->y.ok i->A x=A y->x=y)/\(∀x:Hb,x.ok i->x≠.hall->H (A x)=none)/\zs=(List.range i).map (fun p=>V.ref (A (.gq p)))/\
   ∀p,p<i->gf t.aD H' (A (.gq p)) (A (.iV p)) (A (.jJ p)) p (pg0 ns p)) ?_ ?_ ?_ ?_
  ·refine⟨⟨_,_,rfl⟩,aB hacc,aj,fun x=>if x=.hall then h else acc,rfl,rfl,?_,?_,rfl,fun p hp=>absurd hp (Nat.not_lt_zero _)⟩
   ·intro x y hx hy e
    cases x<;>cases y<;>first
     | rfl
     | (exfalso;exact absurd hx (Nat.not_lt_zero _))
     | (exfalso;exact absurd hy (Nat.not_lt_zero _))
     | (exfalso;simp at e;exact nha e)
     | (exfalso;simp at e;exact nha e.symm)
   ·intro x hx hn
    show H (if x=.hall then h else acc)=none
    rw[if_neg hn];exact hacc
  ·rintro i zs σ' H' _ ⟨_,s',ha',_⟩
   exact⟨cz.of (s' _ _ hl),ha'⟩
  ·rintro i y zs σ' H' b hy hi ⟨⟨o1,o2,rfl⟩,s',ha',A,eA,eh,inj,fr,rfl,pgs⟩ hb
   rw[List.length_map]at hi
   have hy':y=.int ns[i]:=by
    rw[List.getElem?_map,List.getElem?_eq_getElem hi]at hy
    exact(Option.some.inj hy).symm
   subst hy'
   refine⟨b,_,rfl,cW.of aj,rfl,_,_,rfl,_,_,rfl,rfl,?_⟩
   refine ajI ?_
   refine⟨_,rfl,_,rfl,fun x dx' hx hdx nx=>?_⟩
   have hx0:H' x=none:=Lv.upd _ hx
   have azS:H' dx'=none:=Lv.upd _ hdx
   refine⟨x,dx',i,ns[i],rfl,aj,fun r q H3 hr3 hq3 P3 f3 lv3=>⟨rfl,?_⟩⟩
   have fb:∀c o,H' c=some o->H3 c=some o:=fun c o e=>by
    refine f3 c o ?_ (aG e hx0)
    rw[aq (aG e hx0),aq (aG e azS),aq (aG e hb)]
    exact e
   have hr0:H' r=none:=Lv.upd _ (Lv.upd _ (Lv.upd _ hr3))
   have hq0:H' q=none:=Lv.upd _ (Lv.upd _ (Lv.upd _ hq3))
   have ha3:=fb _ _ ha'
   have live:∀z:Hb,z.ok i->∃o,H' (A z)=some o:=fun z hz=>by
    cases z with
    | hall=>rw[eh];exact⟨_,s' _ _ hh⟩
    | pages=>rw[eA];exact⟨_,ha'⟩
    | gq p=>obtain⟨⟨dz,e⟩,_⟩:=pgs p hz;exact⟨_,e⟩
    | iV p=>exact⟨_,(pgs p hz).rl⟩
    | jJ p=>obtain⟨vs,e,_⟩:=(pgs p hz).al;exact⟨_,e⟩
   have nxr:x≠r:=P3.nar
   have nxq:x≠q:=P3.naq
   have nrq:r≠q:=P3.ne
   have hzl:((List.range i).map fun p=>V.ref (A (.gq p))).length<sizeLine:=by rw[List.length_map,List.length_range];lia
   refine Ey.mk (by rw[List.length_map];exact hi) ha3 hzl ?_
   have sn:bZ H (upd H3 acc (.lst ((List.range i).map (fun p=>V.ref (A (.gq p)))++[.ref x]))):=fU (fun c o e=>fb c o (s' c o e)) hacc
   have tm:b7 H' (upd H3 acc (.lst ((List.range i).map (fun p=>V.ref (A (.gq p)))++[.ref x]))):=(fun c xs e=>lH ha3 c xs (fb c _ e))
   have nn:∀(z:Hb) (a:Addr),z.ok i->H' a=none->A z≠a:=fun z a hz e e2=>by
    obtain⟨o,e3⟩:=live z hz;rw[e2,e]at e3;cases e3
   refine⟨⟨_,_,rfl⟩,sn,aj,jN (jN (jN A (.gq i) x) (.iV i) r) (.jJ i) q,?_,?_,?_,?_,?_,?_⟩
   ·rw[bI _ _ (by intro z;cases z),bI _ _ (by intro z;cases z),bI _ _ (by intro z;cases z)];exact eA
   ·rw[bI _ _ (by intro z;cases z),bI _ _ (by intro z;cases z),bI _ _ (by intro z;cases z)];exact eh
   ·refine Wu (ok:=fun z=>z=.iV i\/z=.gq i\/z.ok i) (Wu (ok:=fun z=>z=.gq i\/z.ok i) (Wu inj (fun z hz=>nn z x hz hx0) (fun z hz=>hz)) ?_ (fun z hz=>hz)) ?_ ?_
    ·intro z hz
     by_cases e:z=.gq i
     ·rw[e,c7];exact nxr
     ·rw[bI _ _ e];exact nn z r (hz.resolve_left e) hr0
    ·intro z hz
     by_cases e:z=.iV i
     ·rw[e,c7];exact nrq
     ·rw[bI _ _ e]
      by_cases e2:z=.gq i
      ·rw[e2,c7];exact nxq
      ·rw[bI _ _ e2];exact nn z q ((hz.resolve_left e).resolve_left e2) hq0
    ·intro z hz
     cases z with
     | hall=>exact .inr (.inr (.inr trivial))
     | pages=>exact .inr (.inr (.inr trivial))
     | gq p =>
       have hz':p<i+1:=hz
       by_cases e:p=i
       ·exact .inr (.inr (.inl (by rw[e])))
       ·exact .inr (.inr (.inr (show p<i by lia)))
     | iV p =>
       have hz':p<i+1:=hz
       by_cases e:p=i
       ·exact .inr (.inl (by rw[e]))
       ·exact .inr (.inr (.inr (show p<i by lia)))
     | jJ p =>
       have hz':p<i+1:=hz
       by_cases e:p=i
       ·exact .inl (by rw[e])
       ·exact .inr (.inr (.inr (show p<i by lia)))
   ·intro z hz hn
    by_cases e1:z=.jJ i
    ·rw[e1,c7];exact bZ.free s' hq0
    ·rw[bI _ _ e1]
     by_cases e2:z=.iV i
     ·rw[e2,c7];exact bZ.free s' hr0
     ·rw[bI _ _ e2]
      by_cases e3:z=.gq i
      ·rw[e3,c7];exact bZ.free s' hx0
      ·rw[bI _ _ e3]
       refine fr z ?_ hn
       cases z with
       | hall=>trivial
       | pages=>trivial
       | gq p=>have hz':p<i+1:=hz;exact show p<i from Nat.lt_of_le_of_ne (Nat.le_of_lt_succ hz') fun y=>e3 (by rw[y])
       | iV p=>have hz':p<i+1:=hz;exact show p<i from Nat.lt_of_le_of_ne (Nat.le_of_lt_succ hz') fun y=>e2 (by rw[y])
       | jJ p=>have hz':p<i+1:=hz;exact show p<i from Nat.lt_of_le_of_ne (Nat.le_of_lt_succ hz') fun y=>e1 (by rw[y])
   ·rw[List.range_succ,List.map_append]
    congr 1
    ·refine List.map_congr_left fun p hp=>?_
     have hp':p<i:=List.mem_range.mp hp
     rw[bI _ _ (by intro z;cases z),bI _ _ (by intro z;cases z),bI _ _ (by intro z;cases z;exact Nat.lt_irrefl _ hp')]
    ·show [V.ref x]=[V.ref _]
     rw[bI _ _ (by intro z;cases z),bI _ _ (by intro z;cases z),c7]
   ·intro p hp
    have ala:∀(c:Addr) (o:HO),H3 c=some o->c≠acc->upd H3 acc (.lst ((List.range i).map (fun p=>V.ref (A (.gq p)))++[.ref x])) c=some o:=fun c o e n=>by rw[aq n];exact e
    by_cases e:p=i
    ·subst e
     rw[bI _ _ (by intro z;cases z),bI _ _ (by intro z;cases z),c7,bI _ _ (by intro z;cases z),c7,c7]
     have e0:pg0 ns p=⟨ns[p],none,[],[],0⟩:=by unfold pg0;rw[List.getElem?_eq_getElem hi];rfl
     rw[e0]
     exact P3.keep (lH ha3) (fun o e=>ala _ o e (aG ha' hx0).symm) (fun o e=>ala _ o e (aG ha' hr0).symm) fun o e=>ala _ o e (aG ha' hq0).symm
    ·have hp':p<i:=by lia
     rw[bI _ _ (by intro z;cases z),bI _ _ (by intro z;cases z),bI _ _ (by intro z;cases z;exact e rfl),bI _ _ (by intro z;cases z),bI _ _ (by intro z;cases z;exact e rfl),bI _ _ (by intro z;cases z),bI _ _ (by intro z;cases z;exact e rfl),bI _ _ (by intro z;cases z),bI _ _ (by intro z;cases z)]
     have na:∀z:Hb,z.ok i->z≠.pages->A z≠acc:=fun z hz hn e2=>hn (inj z .pages hz trivial (by rw[e2,eA]))
     exact(pgs p hp').keep tm (fun o e=>ala _ o (fb _ o e) (na (.gq p) hp' (by intro z;cases z))) (fun o e=>ala _ o (fb _ o e) (na (.iV p) hp' (by intro z;cases z))) fun o e=>ala _ o (fb _ o e) (na (.jJ p) hp' (by intro z;cases z))
  ·rintro zs σ' H' ⟨_,s',ha',A,eA,eh,inj,fr,rfl,pgs⟩
   rw[List.length_map]at inj fr ha' pgs
   refine⟨_,rfl,h,_,dx,[],rfl,s' _ _ hh,T.aiP,T.qm,(by show 0<1000;decide),?_⟩
   rw[amK]
   have live:∀z:Hb,z.ok ns.length->z≠.hall->A z≠h:=fun z hz hn e=>hn (inj z .hall hz trivial (by rw[e,eh]))
   have tm:b7 H' (upd H' h (.ins t.ie dx (hfl acc))):=fun c xs e=>by rw[aq (jr e (s' _ _ hh) (by intro z;cases z))];exact e
   have kk:∀z:Hb,z.ok ns.length->z≠.hall->∀o,H' (A z)=some o->upd H' h (.ins t.ie dx (hfl acc)) (A z)=some o:=fun z hz hn o e=>by rw[aq (live z hz hn)];exact e
   refine k A _ eh fr ⟨inj,⟨dx,by rw[eh,eA,aj]⟩,?_,fun p hp=>?_⟩ (fun b o e hb=>by rw[aq hb];exact s' b o e) ((Lv.same s').trans Lv.upd)
   ·rw[eA,aq (by rw[<-eA];exact live .pages trivial (by intro z;cases z))];exact ha'
   ·exact(pgs p hp).keep tm (kk (.gq p) hp (by intro z;cases z)) (kk (.iV p) hp (by intro z;cases z)) (kk (.jJ p) hp (by intro z;cases z))
end
end gn
namespace gn
open PySem L2
theorem fu{H:Hp}{a:Addr}{kvs:List (Key×V)}{k:Key}{v:V}(h:H a=some (.dK kvs))(e:fQ kvs k=some v):Ib H a (kV k) (some v):=by rw[<-e];exact Ib.k h
theorem dput{H:Hp}{a:Addr}{kvs kvs':List (Key×V)}{k:Key}{v:V}(h:H a=some (.dK kvs))(hl:kvs.length<sizeLine)(e:putK kvs k v=kvs'):aip H a (kV k) v (upd H a (.dK kvs')):=by rw[<-e];exact aip.k h hl
theorem awH{x y:V}{c:Bool}:Ql [x,y] (if c then 1 else 0)=some (if c then y else x):=by cases c<;>rfl
def Cj(S:TS)(se:List (Nat×Let))(k:Nat):Prop:=(∀d,(S.dn d).length+k<=16000000)/\se.length+k<=16000000
def atL:Sp:=fun vs H Q _=>∃A n m S se,∃p:Nat,∃d x l,vs=[.ref (A .bA),.int p]/\bh H A n m S se/\p<m/\(S.pg p).ask=(d,x)::l/\(x=.rd\/x=.wr)/\(∀q∈(S.pg p).cN p,q.1<n)/\(S.pg p).rd.length<=1000000/\Cj S se ((S.pg p).cN p).length/\
 ∀H',bh H' A n m {S with dn:=post S.dn ((S.pg p).cN p)} (se++(S.pg p).cN p)->m6 H H' A n m->Q (.int ((S.pg p).cN p).length) H'
def Yj(x:Nat×Let):D:=match x.2 with
 | .back _ r=>.t [.i x.1,.s r.s]
 | .lend _ r _=>.t [.i x.1,.s r.s]
theorem tU(l:List (Nat×Let)):D.flats (l.map Yj):=bL (fun x=>by obtain⟨d,l⟩:=x;cases l<;>simp[Yj,D.flat,D.flats]) l
def azT(p:Nat)(x:Nat×Let):Prop:=∃r,x.2=.back p r
theorem apm(g:PG)(p:Nat):∀q∈g.cN p,azT p q:=by
 intro q hq
 unfold PG.cN at hq
 split at hq
 ·cases hq
 ·rename_i a r l _
  rcases List.mem_append.mp hq with h | h
  ·unfold oO at h
   split at h
   ·split at h
    ·cases h
    ·have this:=List.mem_singleton.mp h
     rw[this];exact⟨_,rfl⟩
   ·cases h
  ·unfold oR at h
   split at h
   ·obtain⟨d,_,e⟩:=List.mem_map.mp h
    rw[<-e];exact⟨_,rfl⟩
   ·cases h
theorem am7{H:Hp}{vs:List V}{l:List (Nat×Let)}{i:Nat}{v:V}(r:aH H vs (l.map Yj))(hv:vs[i]? = some v):∃x,l[i]? = some x/\Rep H v (Yj x):=by
 induction l generalizing vs i with
 | nil=>have:=aH.nil_inv (by simpa using r);subst this;simp at hv
 | cons x l ih =>
   obtain⟨u,us,rfl,r1,r2⟩:=aH.cons_inv (by simpa using r)
   cases i with
   | zero=>simp at hv;subst hv;exact⟨x,rfl,r1⟩
   | succ i=>simp at hv;obtain⟨y,h1,h2⟩:=ih r2 hv;exact⟨y,by simpa using h1,h2⟩
section
variable{P:Program}{w:World}{K:PySem.W.Frag}{mg:Str->Option Value}{base:Heap}{t:JR}
theorem am8(T:Txt K w mg t):dj P w K mg base oM 1 t.vW t.Xv ["_law_town","_law_page"] atL:=by
 refine T.aj7.ok qy (fun vs H Q E h=>?_) (fun cdv A outer s H vs Q E hr h=>?_)
 ·obtain⟨A,n,m,S,se,p,d,x,l,rfl,_⟩:=h;rfl
 ·obtain⟨A,n,m,S,se,p,d,x,l,rfl,M,hp,ha,hx,hn,hrd,hro,k⟩:=h
  have hu:=lA hr
  have sl:sizeLine=16777216:=by decide
  refine⟨_,(ak (bx (i:=2) qy.nd rfl (Or.inl rfl) (aO bD (bH hu (pv 0) aC (fun _ _=>rfl)) (pv 1) (fun _ _=>rfl)))
   (ak (tW (aO bD (bH hu (pv 2) aC (fun _ _=>rfl)) az (fun _ _=>rfl)) (JF rfl (fP (cM (i:=3) qy.nd rfl (Or.inr rfl)) (fP (cM (i:=4) qy.nd rfl (Or.inl rfl)) zJ))))
   (ak (bx (i:=5) qy.nd rfl (Or.inl rfl) (bN ao))
   (ak (bU (PW.pt (Qm (aQ Ls (bH hu (pv 2) aC (fun _ _=>rfl)) az (aW _)) (Lp (aQ tZ (bH hu (pv 2) aC (fun _ _=>rfl)) (pv 3) (aW _))))) (aA (bO (fB PySem.F.plainAttrs_list PySem.F.slot_list_append PySem.F.type_list_append cG (pv 5) (aa (cg (aa (bH hu (pv 2) aC (fun _ _=>rfl)) (aa (aO bD (bN (aa aC (aa aC ao))) (ig mq (by rfl) T.Nb PyProof.Rows.Boot.«int» (aa (mV cQ (pv 4) aC (aW _)) ao)) (fun _ _=>rfl)) ao))) ao)))) bw)
   (ak (bU (aQ cQ (pv 4) aC (aW _)) (aA (bx (i:=5) qy.nd rfl (Or.inl rfl) (bF mW (pv 5) (mY (iY (xs:=["_law_one"]) (ys:=["_law_desk"]) (js:=[3]) rfl (by decide +kernel) (by decide +kernel) (by decide +kernel) (by rfl) ⟨⟨rfl,Or.inl rfl⟩,trivial⟩) rfl (sG (bH hu (pv 2) aC (fun _ _=>rfl))) (fun _ _ _ _ _=>(cM (i:=0) (show List.Nodup ((["_law_one"]:List Str)++(["_law_desk"]:List Str):List Str)by decide +kernel) rfl (Or.inl rfl))) (fun _ _ _ _ _=>(ajH (aQ tZ (pv 0) (pv 1) (aW _)))) (fun _ _ _ _ _=>(cg (aa (pv 0) (aa aC ao)))))))) bw)
   (ak (tX PassesOwn.never rfl (sG (pv 5)) (JF rfl (fP (cM (i:=6) qy.nd rfl (Or.inl rfl)) (fP (cM (i:=7) qy.nd rfl (Or.inl rfl)) zJ))) (ak (bO (fB PySem.F.plainAttrs_list PySem.F.slot_list_append PySem.F.type_list_append cG (aO bD (bH hu (pv 0) aC (fun _ _=>rfl)) (pv 6) (fun _ _=>rfl)) (aa (cg (aa aC (aa (pv 1) (aa (pv 7) ao)))) ao)))
   (aA (bO (fB PySem.F.plainAttrs_list PySem.F.slot_list_append PySem.F.type_list_append cG (bH hu (pv 0) aC (fun _ _=>rfl)) (aa (cg (aa (pv 6) (aa (cg (aa aC (aa (pv 1) (aa (pv 7) ao)))) ao))) ao))))))
   (aA (aZ (cX dq (by rfl) T.wA PySem.boot_len (aa (pv 5) ao)))))))))),?_⟩
  try dsimp only[dD,Cx.kZ]
  show let Z1:L2.TS:=_;let Z2:L2.TS:=_;let Z3:L2.TS:=_;let Z4:L2.TS:=_;let Z5:L2.TS:=cT _ Z4 bJ;let Z6:L2.TS:=_;let Z7:L2.TS:=cT _ Z6 bJ;let Z8:L2.TS:=_;let Z9:L2.TS:=_;let yW:L2.TS:=aU Z8 (Z9);let IV:L2.TS:=TQ _ _ yW;let IW:L2.TS:=_;let D0:Ends:=_;(aU Z1 (aU Z2 (aU Z3 (aU Z5 (aU Z7 (aU IV (IW))))))) D0 _ _
  intro Z1 Z2 Z3 Z4 Z5 Z6 Z7 Z8 Z9 yW IV IW D0
  obtain⟨as,h3,h4⟩:=M.jJ hp
  rw[ha]at h4
  obtain⟨tt,us,rfl,h6,h7⟩:=HQ h4
  have hsh:=M.bR hp
  refine T8 rfl (fu M.bA jY) rfl (cz.of M.cV) (bM hp) ?_
  refine zd rfl (fu hsh HS) ⟨A (.jJ p),_,0,_,rfl,rfl,cz.of h3,atf _ _,tt,_,rfl,cW.of h6,rfl,_,_,rfl,_,_,rfl,rfl,?_⟩
  refine⟨Eo,fun bl hb=>?_⟩
  generalize hg:S.pg p=g at *
  have hbl:g.cN p=oO g p d x++oR g p d x:=by unfold PG.cN;rw[ha]
  have s0:=aB (o:=.lst []) hb
  try dsimp only[bJ]
  refine f9 (fun σ' H'=>σ'=[some (.ref (A .bA)),some (.int p),some (.ref (A (.bR p))),some (.int d),some (.str x.s),some (.ref bl),none,none]/\bZ H H'/\∃us,H' bl=some (.lst us)/\us.length<=1/\aH H' us ((oO g p d x).map Yj)) (fun N hN=>?_) ?_
  ·have l0:=s0 _ _ hsh
   refine zd rfl (fu l0 ug) ⟨_,_,rfl,rfl,_,rfl,?_⟩
   cases hw:g.wr with
   | none =>
     refine aM rfl (wY ?_)
     exact hN _ _ ⟨rfl,s0,[],aj,Nat.zero_le _,by rw[Yh hw];simp[aH]⟩
   | some wv =>
     refine bG (decide_eq_true (Int.natCast_nonneg _)) ?_
     have l1:fQ (zG g (A (.iV p)) (A (.jJ p))) (ks "writer")=some (.int wv):=by rw[ug,hw];rfl
     refine zd rfl (fu l0 l1) ⟨_,rfl,rfl,_,rfl,?_⟩
     by_cases e:wv=d
     ·subst e
      refine aM (by simp) ?_
      exact hN _ _ ⟨rfl,s0,[],aj,Nat.zero_le _,by rw[aco hw];simp[aH]⟩
     ·refine bG (by rw[decide_eq_false fun z=>e (by have:=V.int.inj z;lia)];rfl) ?_
      refine⟨_,rfl,.inl ⟨rfl,_,cz.of aj⟩,zd rfl (fu l0 l1) ⟨vA,fun z hz=>?_⟩⟩
      have s1:bZ (upd H bl (.lst [])) (upd (upd H bl (.lst [])) z (.lst [.str "none",.str "read"])):=aB hz
      refine⟨_,rfl,rfl,.inr ⟨_,rfl,z,_,_,.str (low x).s,rfl,rfl,cz.of aj,?_,vA,fun c hc=>?_⟩⟩
      ·rcases hx with hx | hx<;>subst hx<;>kernel_rfl
      ·have nz:bl≠z:=fun y=>by rw[<-y,aj]at hz;cases hz
       have nc:bl≠c:=fun y=>by rw[<-y,aq nz,aj]at hc;cases hc
       refine⟨bl,[],_,rfl,rfl,(by rw[aq nc,aq nz,aj]),(by show 0<sizeLine;decide),?_⟩
       refine hN _ _ ⟨rfl,fU ((s0.trans s1).trans (aB hc)) hb,_,aj,Nat.le_refl _,?_⟩
       rw[Sh hw e]
       simp only[List.map_cons,List.map_nil,aH,Yj,Rep]
       exact⟨_,_,rfl,⟨c,_,rfl,by rw[aq nc.symm,aj],_,_,rfl,rfl,_,_,rfl,rfl,rfl⟩,rfl⟩
  ·rintro σ' H1 ⟨rfl,s1,us1,hb1,hl1,rp1⟩
   try dsimp only[bJ]
   refine f9 (fun σ' H'=>∃b2 us,σ'=[some (.ref (A .bA)),some (.int p),some (.ref (A (.bR p))),some (.int d),some (.str x.s),some (.ref b2),none,none]/\bZ H H'/\H b2=none/\H' b2=some (.lst us)/\aH H' us ((g.cN p).map Yj)) (fun N hN=>?_) ?_
   ·refine⟨_,rfl,rfl,_,rfl,?_⟩
    rcases hx with hx | hx
    ·subst hx
     refine aM (oN (x:="write") (q:=.wr) rfl (by intro z;cases z)) ?_
     refine hN _ _ ⟨bl,us1,rfl,s1,hb,hb1,?_⟩
     have:oR g p d .rd=[]:=by unfold oR;rw[if_neg (by intro z;cases z)]
     rw[hbl,this,List.append_nil]
     exact rp1
    ·subst hx
     refine bG fJ ?_
     have hrl:H1 (A (.iV p))=some (.lst (g.rd.map nV)):=by have:=s1 _ _ (M.iV hp);rw[hg]at this;exact this
     refine⟨_,rfl,zd rfl (fu (s1 _ _ hsh) vM) ⟨A (.iV p),rfl,⟨_,cz.of hrl⟩,fun acc hacc=>?_⟩⟩
     have nbl:bl≠acc:=aG hb1 hacc
     let PV1:Nat->List V->St->Hp->Prop:=fun i zs σ' H'=>(∃o,σ'=[o,some (.int d)])/\bZ H1 H'/\H' acc=some (.lst zs)/\zs.length<=i/\aH H' zs ((((g.rd.take i).filter fun e=>decide (e≠d)).map fun e=>(e,Let.back p .no)).map Yj)
     refine ab7 (xs:=g.rd.map nV) PV1 ?_ ?_ ?_ ?_
     ·exact⟨⟨_,rfl⟩,aB hacc,aj,Nat.le_refl _,by simp[aH]⟩
     ·rintro i zs σ' H' _ ⟨_,s',ha',_⟩
      exact⟨cz.of (s' _ _ hrl),ha'⟩
     ·rintro i y zs σ' H' hy hi ⟨⟨o,rfl⟩,s',ha',hz,rp⟩
      rw[List.length_map]at hi
      have hy':y=.int (g.rd[i]:Nat):=by
       rw[List.getElem?_map,List.getElem?_eq_getElem hi]at hy
       exact(Option.some.inj hy).symm
      subst hy'
      have htk:g.rd.take (i+1)=g.rd.take i++[g.rd[i]]:=by rw[List.take_add_one,List.getElem?_eq_getElem hi];rfl
      refine⟨_,rfl,_,rfl,rfl,_,rfl,?_⟩
      by_cases e:g.rd[i]=d
      ·refine aM (by rw[e];simp) (W7.mk (by rw[List.length_map];exact hi) ?_)
       refine⟨⟨_,rfl⟩,s',ha',by lia,?_⟩
       rw[htk,List.filter_append,List.filter_cons_of_neg (by simp[e])]
       simpa using rp
      ·refine bG (by rw[decide_eq_false fun z=>e (by have:=V.int.inj z;lia)];rfl) ?_
       refine⟨_,rfl,vA,fun cc hc2=>?_⟩
       have nc:acc≠cc:=aG ha' hc2
       have h6':upd H' cc (.tup [.int (g.rd[i]:Nat),.str "none"]) acc=some (.lst zs):=by rw[aq nc];exact ha'
       refine Ey.mk (by rw[List.length_map];exact hi) h6' (by lia) ?_
       have sup:=aB (o:=.tup [.int (g.rd[i]:Nat),.str "none"]) hc2
       refine⟨⟨_,rfl⟩,fU (s'.trans sup) hacc,aj,by rw[List.length_append];simp;lia,?_⟩
       rw[htk,List.filter_append,List.filter_cons_of_pos (by simp[e]),List.filter_nil,List.map_append,List.map_append]
       have tm:=lH (vs:=zs++[.ref cc]) h6'
       refine aH.snoc ((rp.aX (bc sup) (tU _)).aX tm (tU _)) ?_
       simp only[Yj,Rep,aH]
       exact⟨cc,_,rfl,by rw[aq nc.symm,aj];rfl,_,_,rfl,rfl,_,_,rfl,rfl,rfl⟩
     ·rintro zs σ' H' ⟨_,s',ha',hz,rp⟩
      rw[List.length_map]at hz rp
      rw[List.take_length]at rp
      have hb':=s' _ _ hb1
      refine⟨bl,acc,us1,zs,rfl,rfl,hb',ha',by lia,fun c hc=>?_⟩
      have hcn:H c=none:=Lv.same (s1.trans s') _ hc
      refine hN _ _ ⟨c,_,rfl,(s1.trans s').trans (aB hc),hcn,aj,?_⟩
      have hrb:oR g p d .wr=(g.rd.filter fun e=>decide (e≠d)).map fun e=>(e,Let.back p .no):=by unfold oR;rw[if_pos rfl]
      rw[hbl,List.map_append,hrb]
      have tm:=bc (aB (o:=.lst (us1++zs)) hc)
      exact aH.append ((rp1.aX (bc s') (tU _)).aX tm (tU _)) (rp.aX tm (tU _))
   ·rintro σ' H2 ⟨b2,us2,rfl,s2,azU,hb2,rp2⟩
    have M2:=M.same s2
    have hlen:us2.length=(g.cN p).length:=by rw[rp2.length,List.length_map]
    refine⟨_,rfl,b2,rfl,⟨_,cz.of hb2⟩,?_⟩
    let PV2:Nat->St->Hp->Prop:=fun i σ' H'=>(∃o1 o2,σ'=[some (.ref (A .bA)),some (.int p),some (.ref (A (.bR p))),some (.int d),some (.str x.s),some (.ref b2),o1,o2])/\i<=us2.length/\bh H' A n m {S with dn:=post S.dn ((g.cN p).take i)} (se++(g.cN p).take i)/\m6 H H' A n m/\H' b2=some (.lst us2)/\aH H' us2 ((g.cN p).map Yj)
    refine tY (xs:=us2) PV2 ?_ ?_ ?_ ?_
    ·refine⟨⟨_,_,rfl⟩,Nat.zero_le _,?_,m6.of_same s2,hb2,rp2⟩
     simpa[post] using M2
    ·rintro i σ' H' _ ⟨_,_,_,_,hb',_⟩
     exact cz.of hb'
    ·rintro i y σ' H' hy ⟨⟨o1,o2,rfl⟩,hi,M',f',hb',rp'⟩
     obtain⟨q,hq,rq⟩:=am7 rp' hy
     have hqm:q∈g.cN p:=List.mem_of_getElem? hq
     obtain⟨r,hbk⟩:=apm g p q hqm
     have hqn:=hn q hqm
     obtain⟨qd,ql⟩:=q
     have azV:ql=.back p r:=hbk
     subst azV
     have atM:qd<n:=hqn
     simp only[Yj,Rep,aH]at rq
     obtain⟨c,xs,rfl,hc,_,_,rfl,rfl,_,_,rfl,rfl,rfl⟩:=rq
     have hi':i<us2.length:=(List.getElem?_eq_some_iff.mp hy).1
     have htk:(g.cN p).take (i+1)=(g.cN p).take i++[(qd,.back p r)]:=by rw[List.take_add_one,hq];rfl
     refine⟨c,_,rfl,cW.of hc,rfl,_,_,rfl,_,_,rfl,rfl,?_⟩
     obtain⟨dv,d1,d2⟩:=M'.dn atM
     have hlb:((g.cN p).take i).length=i:=by rw[List.length_take];lia
     have hdl:dv.length<sizeLine:=by
      rw[d2.length,List.length_map]
      show(post S.dn ((g.cN p).take i) qd).length<_
      have:=Mg S.dn ((g.cN p).take i) qd
      have:=hro.1 qd
      lia
     refine T8 rfl (fu M'.bA HR) rfl (cz.of M'.downs) (bM atM) ⟨.inl ⟨rfl,_,cz.of d1⟩,_,rfl,_,rfl,zz3,fun b hbn=>?_⟩
     have s3:=aB (o:=.tup [.str "back",.int p,.str r.s]) hbn
     refine⟨A (.dn qd),dv,_,rfl,rfl,s3 _ _ d1,hdl,?_⟩
     have rp3:aH (upd H' b (.tup [.str "back",.int p,.str r.s])) (dv++[.ref b]) ((post S.dn ((g.cN p).take i) qd++[Let.back p r]).map Let.d):=by
      rw[List.map_append]
      refine aH.snoc (d2.aX (bc s3) (bL Let.flat _)) ?_
      simp only[Let.d,Rep,aH]
      exact⟨b,_,rfl,aj,_,_,rfl,rfl,_,_,rfl,rfl,_,_,rfl,rfl,rfl⟩
     obtain⟨M4,f4⟩:=(M'.same s3).ak1 atM rp3
     have f34:m6 H' (upd (upd H' b (.tup [.str "back",.int p,.str r.s])) (A (.dn qd)) (.lst (dv++[.ref b]))) A n m:=(m6.of_same s3).trans f4 (Mv.refl _ _ _ _)
     generalize upd (upd H' b (.tup [.str "back",.int p,.str r.s])) (A (.dn qd)) (.lst (dv++[.ref b]))=H4 at M4 f34
     obtain⟨sv,e1,e2⟩:=M4.sent
     have hsl:sv.length<sizeLine:=by
      rw[e2.length,List.length_map,List.length_append]
      have:=hro.2
      lia
     refine zd rfl (fu M4.bA agf) ⟨.inl ⟨rfl,_,cz.of e1⟩,_,rfl,_,rfl,_,rfl,zz3,fun b' azW=>⟨vA,fun c' atO=>?_⟩⟩
     have s5:=(aB (o:=.tup [.str "back",.int p,.str r.s]) azW).trans (aB (o:=.tup [.int qd,.ref b']) atO)
     have nbc:b'≠c':=fun z=>by rw[z,aj]at atO;cases atO
     refine⟨A .sent,sv,_,rfl,rfl,s5 _ _ e1,hsl,?_⟩
     have rp5:aH (upd (upd H4 b' (.tup [.str "back",.int p,.str r.s])) c' (.tup [.int qd,.ref b'])) (sv++[.ref c']) ((se++(g.cN p).take i++[(qd,Let.back p r)]).map pairD):=by
      rw[List.map_append (l₂:=[_])]
      exact aH.snoc (e2.aX (bc s5) (dh _)) (J0 (b:=b') (vs:=[]) aj (by rw[aq nbc,aj]))
     obtain⟨M6,f6⟩:=(M4.same s5).amN rp5
     have f46:=(m6.of_same (A:=A) (n:=n) (m:=m) s5).trans f6 (Mv.refl _ _ _ _)
     have awK:∀x:Mb,x.ok n m->b2≠A x:=fun x hx z=>M.Fb hx azU z.symm
     have hb4:=f46.kp b2 _ (f34.kp b2 _ hb' awK) awK
     have t6:b7 H' _:=(f34.tups M').trans (f46.tups M4)
     refine⟨⟨_,_,rfl⟩,hi',?_,(f'.trans f34 (Mv.refl _ _ _ _)).trans f46 (Mv.refl _ _ _ _),hb4,rp'.aX t6 (tU _)⟩
     rw[htk,ab9,<-List.append_assoc]
     exact M6
    ·rintro σ' H3 ⟨⟨o1,o2,rfl⟩,_,M3,f3,hb3,_⟩
     rw[hlen,List.take_length]at M3
     refine⟨_,rfl,b2,us2,rfl,.inl (cz.of hb3),?_⟩
     rw[hlen]
     exact k H3 M3 f3
end
end gn
namespace gn
open PySem L2
def TS.xQ(S:TS)(p:Nat)(g:PG)(acc:List (Nat×Let)):TS:={S with pg:=aF S.pg p g,dn:=post S.dn acc}
theorem TS.bY(S:TS)(p:Nat)(g:PG)(acc:List (Nat×Let)):(S.xQ p g acc).pg p=g:=aL _ _ _
theorem TS.atQ(S:TS)(p:Nat)(g:PG)(acc bs:List (Nat×Let)):{S.xQ p g acc with dn:=post (S.xQ p g acc).dn bs}=S.xQ p g (acc++bs):=by unfold TS.xQ;simp only[jW]
theorem TS.n8(S:TS)(p:Nat)(g g':PG)(acc:List (Nat×Let)):{S.xQ p g acc with pg:=aF (S.xQ p g acc).pg p g'}=S.xQ p g' acc:=by unfold TS.xQ;simp only[mz]
theorem TS.akc(S:TS)(p:Nat):S.xQ p (S.pg p) []=S:=by unfold TS.xQ;rw[dX];rfl
def apo:Sp:=fun vs H Q _=>∃A n m S se,∃p:Nat,vs=[.ref (A .bA),.int p]/\bh H A n m S se/\p<m/\(S.pg p).ask≠[]/\T7 n (S.pg p)/\(S.pg p).rd.length<=1000000/\Cj S se 1/\
 ∀A' H',bh H' A' n m (S.xQ p (S.pg p).lent ((S.pg p).dO p)) (se++(S.pg p).dO p)->m6 H H' A n m->Mv H A A' n m->Q .non H'
def am9:Sp:=fun vs H Q _=>∃A n m S se,∃p:Nat,vs=[.ref (A .bA),.int p]/\bh H A n m S se/\p<m/\T7 n (S.pg p)/\(S.pg p).mu<=1000000/\Cj S se (4*(S.pg p).mu+4)/\
 ∀A' H' z,z=(if(S.pg p).miss=0 then(S.pg p).serve p else(S.pg p,[]))->bh H' A' n m (S.xQ p z.1 z.2) (se++z.2)->m6 H H' A n m->Mv H A A' n m->Q .non H'
section
variable{P:Program}{w:World}{K:PySem.W.Frag}{mg:Str->Option Value}{base:Heap}{t:JR}
theorem Ja(T:Txt K w mg t):dj P w K mg base oM 1 t.iK t.xG ["_law_town","_law_page"] apo:=by
 refine T.Av.ok lE (fun vs H Q E h=>?_) (fun cdv A outer s H vs Q E hr h=>?_)
 ·obtain⟨A,n,m,S,se,p,rfl,_⟩:=h;rfl
 ·obtain⟨A,n,m,S,se,p,rfl,M,hp,hne,hgn,hrd,hro,k⟩:=h
  have hu:=lA hr
  have sl:sizeLine=16777216:=by decide
  cases ha:(S.pg p).ask with
  | nil=>exact absurd ha hne
  | cons x0 l =>
  obtain⟨d,x⟩:=x0
  obtain⟨hdn,hx⟩:=hgn.q (d,x) (by rw[ha];simp)
  refine⟨_,(ak (bx (i:=2) lE.nd rfl (Or.inl rfl) (aO bD (bH hu (pv 0) aC (fun _ _=>rfl)) (pv 1) (fun _ _=>rfl)))
   (ak (tW (fB PySem.F.plainAttrs_list PySem.F.slot_list_pop PySem.F.type_list_pop Et (bH hu (pv 2) aC (fun _ _=>rfl)) (aa az ao)) (JF rfl (fP (cM (i:=3) lE.nd rfl (Or.inl rfl)) (fP (cM (i:=4) lE.nd rfl (Or.inl rfl)) zJ))))
   (ak (bU (aQ cQ (pv 4) aC (aW _)) (ak (lG hu (pv 2) aC (bN ao) (by rfl))
   (aA (lG hu (pv 2) aC (pv 3) (by rfl)))) (ak (bU (aQ Ls (bH hu (pv 2) aC (fun _ _=>rfl)) az (aW _)) (aA (bO (fB PySem.F.plainAttrs_list PySem.F.slot_list_append PySem.F.type_list_append cG (bH hu (pv 2) aC (fun _ _=>rfl)) (aa (bH hu (pv 2) aC (fun _ _=>rfl)) ao)))) bw)
   (ak (lG hu (pv 2) aC (RX Er az) (by rfl))
   (aA (bU (aQ Lz (pv 3) (bH hu (pv 2) aC (fun _ _=>rfl)) (by rfl)) (aA (bO (fB PySem.F.plainAttrs_list PySem.F.slot_list_append PySem.F.type_list_append cG (bH hu (pv 2) aC (fun _ _=>rfl)) (aa (pv 3) ao)))) bw)))))
   (ak (bx (i:=5) lE.nd rfl (Or.inl rfl) (cg (aa aC (aa (pv 1) (aa (pv 4) (aa (bH hu (pv 2) aC (fun _ _=>rfl)) ao))))))
   (ak (bO (fB PySem.F.plainAttrs_list PySem.F.slot_list_append PySem.F.type_list_append cG (aO bD (bH hu (pv 0) aC (fun _ _=>rfl)) (pv 3) (fun _ _=>rfl)) (aa (pv 5) ao)))
   (aA (bO (fB PySem.F.plainAttrs_list PySem.F.slot_list_append PySem.F.type_list_append cG (bH hu (pv 0) aC (fun _ _=>rfl)) (aa (cg (aa (pv 3) (aa (pv 5) ao))) ao))))))))),?_⟩
  try dsimp only[dD,Cx.kZ]
  show let Z1:L2.TS:=_;let Z2:L2.TS:=_;let Z3:L2.TS:=_;let Z4:L2.TS:=_;let Z5:L2.TS:=aU Z3 (Z4);let Z6:L2.TS:=_;let Z7:L2.TS:=cT _ Z6 bJ;let Z8:L2.TS:=_;let Z9:L2.TS:=_;let yW:L2.TS:=cT _ Z9 bJ;let IV:L2.TS:=aU Z7 (aU Z8 (yW));let IW:L2.TS:=cT _ Z5 IV;let Nj:L2.TS:=_;let Nk:L2.TS:=_;let Yk:L2.TS:=_;let D0:Ends:=_;(aU Z1 (aU Z2 (aU IW (aU Nj (aU Nk (Yk)))))) D0 _ _
  intro Z1 Z2 Z3 Z4 Z5 Z6 Z7 Z8 Z9 yW IV IW Nj Nk Yk D0
  obtain⟨as,h3,h4⟩:=M.jJ hp
  rw[ha]at h4
  obtain⟨tt,us,rfl,h6,h7⟩:=HQ h4
  refine T8 rfl (fu M.bA jY) rfl (cz.of M.cV) (bM hp) ?_
  refine zd rfl (fu (M.bR hp) HS) ⟨.inl ⟨rfl,_,cz.of h3⟩,A (.jJ p),_,0,0,_,rfl,rfl,h3,(by decide),(by decide),amF _ _,rfl,?_⟩
  rw[List.eraseIdx_cons_zero]
  obtain⟨M1,f1⟩:=M.arz hp (l:=l) h7
  have t1:upd H (A (.jJ p)) (.lst us) tt=some (.tup [.int d,.str x.s]):=(f1.tups M) tt _ h6
  generalize upd H (A (.jJ p)) (.lst us)=H1 at M1 f1 t1
  refine⟨tt,_,rfl,cW.of t1,rfl,_,_,rfl,_,_,rfl,rfl,?_⟩
  have M1':bh H1 A n m (S.xQ p {S.pg p with ask:=l} []) se:=M1
  have yU:(S.pg p).lent=if x=.wr then lB {S.pg p with ask:=l} d else kI {S.pg p with ask:=l} d:=by unfold PG.lent;rw[ha]
  have hnum:(S.pg p).lent.num=(S.pg p).num:=by rw[yU];split<;>rfl
  have hl1:(S.pg p).dO p=[(d,.lend p x (S.pg p).num)]:=by unfold PG.dO;rw[ha]
  try dsimp only[bJ]
  refine f9 (fun σ' H'=>∃A',σ'=[some (.ref (A .bA)),some (.int p),some (.ref (A (.bR p))),some (.int d),some (.str x.s),none]/\bh H' A' n m (S.xQ p (S.pg p).lent []) se/\m6 H H' A n m/\Mv H A A' n m) (fun N hN=>?_) ?_
  ·refine⟨_,rfl,rfl,_,rfl,?_⟩
   rcases hx with hx | hx
   ·subst hx
    refine aM (oN (x:="write") (q:=.wr) rfl (by intro z;cases z)) ?_
    rw[if_neg (by intro z;cases z)]at yU
    generalize hg1:({S.pg p with ask:=l}:PG)=g1 at M1' yU
    have hgr:g1.rd=(S.pg p).rd:=by rw[<-hg1]
    have aiS:=M1'.bR hp
    rw[TS.bY]at aiS
    have atR:=M1'.iV hp
    rw[TS.bY]at atR
    try dsimp only[bJ]
    have fin:∀H2,bh H2 A n m (S.xQ p {g1 with wr:=none,rd:=g1.rd++g1.wr.toList} []) se->m6 H H2 A n m->
     (cT (afQ (WL (rIn K true) (jj 3) (W2 (jj 2) (tC (.str "readers"))))) (ajt (tBM K "list" LC (W2 (jj 2) (tC (.str "readers"))) (my (jj 3) Ia))) bJ) {nx:=N,rt:=Q} [some (.ref (A .bA)),some (.int p),some (.ref (A (.bR p))),some (.int d),some (.str Rt.rd.s),none] H2:=fun H2 M2 f2=>by
     have hsh:=M2.bR hp
     rw[TS.bY]at hsh
     have hrr:=M2.iV hp
     rw[TS.bY]at hrr
     refine⟨_,rfl,zd rfl (fu hsh vM) ⟨A (.iV p),_,rfl,.inl (cz.of hrr),rfl,agU _,_,rfl,?_⟩⟩
     have e0:(if true=true then !inV (.int d) ((g1.rd++g1.wr.toList).map nV)else inV (.int d) ((g1.rd++g1.wr.toList).map nV)) = !decide (d∈g1.rd++g1.wr.toList):=by rw[if_pos rfl,akb]
     rw[e0]
     by_cases e:d∈g1.rd++g1.wr.toList
     ·refine aM (by rw[decide_eq_true e];rfl) ?_
      refine hN _ _ ⟨A,rfl,?_,f2,Mv.refl _ _ _ _⟩
      rw[yU]
      unfold kI
      rw[if_pos e]
      exact M2
     ·refine bG (by rw[decide_eq_false e];rfl) ?_
      refine zd rfl (fu hsh vM) ⟨.inl ⟨rfl,_,cz.of hrr⟩,_,rfl,A (.iV p),_,_,rfl,rfl,hrr,?_,?_⟩
      ·have hw:g1.wr.toList.length<=1:=by cases g1.wr<;>simp
       rw[List.length_map,List.length_append,hgr];lia
      ·obtain⟨M3,f3⟩:=M2.arx hp (l:=g1.rd++g1.wr.toList++[d])
       rw[TS.bY,TS.n8,List.map_append (l₂:=[d])]at M3
       rw[List.map_append (l₂:=[d])]at f3
       refine hN _ _ ⟨A,rfl,?_,f2.trans f3 (Mv.refl _ _ _ _),Mv.refl _ _ _ _⟩
       rw[yU]
       unfold kI
       rw[if_neg e]
       exact M3
    refine f9 (fun σ' H'=>σ'=[some (.ref (A .bA)),some (.int p),some (.ref (A (.bR p))),some (.int d),some (.str Rt.rd.s),none]/\bh H' A n m (S.xQ p {g1 with rd:=g1.rd++g1.wr.toList} []) se/\m6 H H' A n m) (fun N' hN'=>?_) ?_
    ·refine zd rfl (fu aiS ug) ⟨_,_,rfl,rfl,_,rfl,?_⟩
     cases hw:g1.wr with
     | none =>
       refine aM rfl ?_
       refine hN' _ _ ⟨rfl,?_,f1⟩
       have e:({g1 with rd:=g1.rd++g1.wr.toList}:PG)=g1:=by rw[hw];cases g1;simp_all
       rw[e];exact M1'
     | some wv =>
       refine bG (decide_eq_true (Int.natCast_nonneg _)) ?_
       have l1:fQ (zG g1 (A (.iV p)) (A (.jJ p))) (ks "writer")=some (.int wv):=by rw[ug,hw];rfl
       refine zd rfl (fu aiS vM) ⟨.inl ⟨rfl,_,cz.of atR⟩,zd rfl (fu aiS l1) ⟨A (.iV p),_,_,rfl,rfl,atR,(by rw[List.length_map,hgr];lia),?_⟩⟩
       obtain⟨M3,f3⟩:=M1'.arx hp (l:=g1.rd++[wv])
       rw[TS.bY,TS.n8,List.map_append (l₂:=[wv])]at M3
       rw[List.map_append (l₂:=[wv])]at f3
       have e:({g1 with rd:=g1.rd++g1.wr.toList}:PG)={g1 with rd:=g1.rd++[wv]}:=by rw[hw];rfl
       exact hN' _ _ ⟨rfl,by rw[e];exact M3,f1.trans f3 (Mv.refl _ _ _ _)⟩
    ·rintro σ' H2 ⟨rfl,M2,f2⟩
     have hsh:=M2.bR hp
     rw[TS.bY]at hsh
     refine⟨_,rfl,_,rfl,A (.bR p),_,rfl,dput hsh vO Ez,?_⟩
     obtain⟨M3,f3⟩:=M2.zQ hp (g:={g1 with wr:=none,rd:=g1.rd++g1.wr.toList}) (by rw[TS.bY]) (by rw[TS.bY])
     rw[TS.n8]at M3
     exact fin _ M3 (f2.trans f3 (Mv.refl _ _ _ _))
   ·subst hx
    refine bG fJ ?_
    rw[if_pos rfl]at yU
    generalize hg1:({S.pg p with ask:=l}:PG)=g1 at M1' yU
    have aiS:=M1'.bR hp
    rw[TS.bY]at aiS
    refine⟨Eo,fun r' hr'=>?_⟩
    obtain⟨M2,f2,mv2⟩:=M1'.ath hp hr' (l:=[])
    rw[TS.bY]at M2 f2
    rw[TS.n8]at M2
    have hr0:H r'=none:=f1.lv _ hr'
    refine⟨_,rfl,A (.bR p),_,rfl,dput (aB hr' _ _ aiS) vO (Xe (l:=[])),?_⟩
    have aaQ:=M2.bR hp
    rw[TS.bY,bI _ _ (by intro z;cases z),c7,bI _ _ (by intro z;cases z)]at aaQ
    obtain⟨M3,f3⟩:=M2.zQ hp (g:=lB g1 d) (by rw[TS.bY];rfl) (by rw[TS.bY];rfl)
    rw[TS.n8]at M3
    rw[bI _ _ (by intro z;cases z),c7,bI _ _ (by intro z;cases z)]at M3 f3
    refine⟨_,rfl,_,rfl,A (.bR p),_,rfl,dput aaQ vO Xd,?_⟩
    have mv:Mv H A (jN A (.iV p) r') n m:=fun z hz=>(mv2 z hz).imp id fun e=>⟨e.1,f1.lv _ e.2⟩
    refine hN _ _ ⟨jN A (.iV p) r',rfl,?_,?_,mv⟩
    ·rw[yU];exact M3
    ·exact(f1.trans f2 (Mv.refl _ _ _ _)).trans f3 mv
  ·rintro σ' H2 ⟨A2,rfl,M2,f2,mv2⟩
   have hA:A2 .bA=A .bA:=mv2.bA
   have hAs:A2 (.bR p)=A (.bR p):=(mv2 (.bR p) hp).elim id fun z=>by obtain⟨⟨q,e⟩,_⟩:=z;cases e
   have hsh:=M2.bR hp
   rw[TS.bY,hAs]at hsh
   have htw:=M2.bA
   rw[hA]at htw
   refine⟨_,rfl,_,rfl,zd rfl (fu hsh aiF) ⟨zz4,fun b hb=>?_⟩⟩
   rw[hnum]at *
   have s3:=aB (o:=.tup [.str "lend",.int p,.str x.s,.int (S.pg p).num]) hb
   have hb3:upd H2 b (.tup [.str "lend",.int p,.str x.s,.int (S.pg p).num]) b=_:=aj
   have M3:=M2.same s3
   have f3:=f2.trans (m6.of_same (A:=A2) s3) mv2
   generalize upd H2 b (.tup [.str "lend",.int p,.str x.s,.int (S.pg p).num])=H3 at s3 hb3 M3 f3
   have azY:=s3 _ _ htw
   obtain⟨dv,d1,d2⟩:=M3.dn hdn
   have hdl:dv.length<sizeLine:=by
    rw[d2.length,List.length_map]
    show(post S.dn [] d).length<_
    have:=hro.1 d
    show(S.dn d).length<_
    lia
   refine T8 rfl (fu azY HR) rfl (cz.of M3.downs) (bM hdn) ⟨.inl ⟨rfl,_,cz.of d1⟩,_,rfl,A2 (.dn d),dv,_,rfl,rfl,d1,hdl,?_⟩
   have rl:Rep H3 (.ref b) (Let.lend p x (S.pg p).num).d:=by
    simp only[Let.d,Rep,aH]
    exact⟨b,_,rfl,hb3,_,_,rfl,rfl,_,_,rfl,rfl,_,_,rfl,rfl,_,_,rfl,rfl,rfl⟩
   have rp3:aH H3 (dv++[.ref b]) (((S.xQ p (S.pg p).lent []).dn d++[Let.lend p x (S.pg p).num]).map Let.d):=by
    rw[List.map_append]
    exact aH.snoc d2 rl
   obtain⟨M4,f4⟩:=M3.ak1 hdn rp3
   have rl4:=Rep.aX (f4.tups M3) (Let.flat _) rl
   have f4':=f3.trans f4 mv2
   generalize upd H3 (A2 (.dn d)) (.lst (dv++[.ref b]))=H4 at M4 f4 f4' rl4
   obtain⟨sv,e1,e2⟩:=M4.sent
   have hsl:sv.length<sizeLine:=by
    rw[e2.length,List.length_map]
    have:=hro.2
    lia
   have awL:=M4.bA
   rw[hA]at awL
   refine zd rfl (fu awL agf) ⟨.inl ⟨rfl,_,cz.of e1⟩,_,rfl,_,rfl,vA,fun c hc=>?_⟩
   have s5:=aB (o:=.tup [.int d,.ref b]) hc
   refine⟨A2 .sent,sv,_,rfl,rfl,s5 _ _ e1,hsl,?_⟩
   have rp5:aH (upd H4 c (.tup [.int d,.ref b])) (sv++[.ref c]) ((se++[(d,Let.lend p x (S.pg p).num)]).map pairD):=by
    rw[List.map_append]
    refine aH.snoc (e2.aX (bc s5) (dh _)) ?_
    simp only[pairD,Rep,aH]
    exact⟨c,_,rfl,aj,_,_,rfl,rfl,_,_,rfl,Rep.aX (bc s5) (Let.flat _) rl4,rfl⟩
   obtain⟨M6,f6⟩:=(M4.same s5).amN rp5
   refine k A2 _ ?_ ((f4'.trans (m6.of_same s5) mv2).trans f6 mv2) mv2
   rw[hl1]
   exact M6
end
end gn
namespace gn
open PySem L2
def PG.cont(g:PG)(p:Nat):PG×List (Nat×Let):=if g.miss=0 then g.serve p else(g,[])
theorem anb{g:PG}{p:Nat}(h0:g.miss=0)(h:g.ask≠[])(hb:g.cN p≠[]):(g.cont p).1=(PG.cont {g with miss:=(g.cN p).length} p).1/\(g.cont p).2=g.cN p++(PG.cont {g with miss:=(g.cN p).length} p).2:=by
 have hl:((g.cN p).length:Int)≠0:=by
  have:(g.cN p).length≠0:=fun z=>hb (List.length_eq_zero_iff.mp z)
  lia
 unfold PG.cont
 rw[if_pos h0,yq h hb]
 try dsimp only
 rw[if_neg hl]
 simp
theorem alb{g:PG}{p:Nat}(h0:g.miss=0)(h:g.ask≠[])(hb:g.cN p=[]):(g.cont p).1=(g.lent.cont p).1/\(g.cont p).2=g.dO p++(g.lent.cont p).2:=by
 unfold PG.cont
 rw[if_pos h0,uc h hb,PG.yr,if_pos h0]
 exact⟨rfl,rfl⟩
theorem anc(g:PG)(p:Nat):(g.cont p).2.length<=2*g.mu+1:=by
 unfold PG.cont
 split
 ·exact g.yV p
 ·simp
theorem Cj.at{S:TS}{se acc:List (Nat×Let)}{k j p:Nat}{g:PG}(h:Cj S se k)(hj:acc.length+j<=k):Cj (S.xQ p g acc) (se++acc) j:=⟨fun d=>by
 have h1:=h.1 d
 have h2:=Mg S.dn acc d
 show(post S.dn acc d).length+j<=_
 lia,by rw[List.length_append];have:=h.2;lia⟩
section
variable{P:Program}{w:World}{K:PySem.W.Frag}{mg:Str->Option Value}{base:Heap}{t:JR}
theorem Yl(T:Txt K w mg t):dj P w K mg base oM 2 t.mK t.JT ["_law_town","_law_page"] am9:=by
 refine T.QQ.ok Xu (fun vs H Q E h=>?_) (fun cdv A outer s H vs Q E hr h=>?_)
 ·obtain⟨A,n,m,S,se,p,rfl,_⟩:=h;rfl
 ·obtain⟨A,n,m,S,se,p,rfl,M,hp,hgn,hmu,hro,k⟩:=h
  have hu:=lA hr
  have sl:sizeLine=16777216:=by decide
  refine⟨_,(ak (bx (i:=2) Xu.nd rfl (Or.inl rfl) (aO bD (bH hu (pv 0) aC (fun _ _=>rfl)) (pv 1) (fun _ _=>rfl)))
   (aA (WD PassesOwn.never (PW.pt (Qm (aQ cQ (bH hu (pv 2) aC (fun _ _=>rfl)) az (aW _)) (Lp (aQ (af5 hr.aif) (bH hu (pv 2) aC (fun _ _=>rfl)) (bN ao) (aW _))))) (ak (lG hu (pv 2) aC (cB (am8 T) (hr.mono (by decide):bQ 1 _) (by rfl) T.aph T.aj7.kp T.apg .nil bW (aa (pv 0) (aa (pv 1) ao))) (by rfl))
   (aA (bU (aQ cQ (bH hu (pv 2) aC (fun _ _=>rfl)) az (aW _)) (aA (bO (cB (Ja T) (hr.mono (by decide):bQ 1 _) (by rfl) T.MT T.Av.kp T.MP .nil bW (aa (pv 0) (aa (pv 1) ao))))) bw)))))),?_⟩
  try dsimp only[dD,Cx.kZ]
  show let Z1:L2.TS:=_;let Z2:L2.TS:=_;let Z3:L2.TS:=_;let Z4:L2.TS:=cT _ Z3 bJ;let Z5:L2.TS:=aU Z2 (Z4);let Z6:L2.TS:=acL _ Z5;let D0:Ends:=_;(aU Z1 (Z6)) D0 _ _
  intro Z1 Z2 Z3 Z4 Z5 Z6 D0
  refine T8 rfl (fu M.bA jY) rfl (cz.of M.cV) (bM hp) ?_
  generalize hg0:S.pg p=g0 at *
  refine⟨fun i σ H1=>∃A1 g acc,σ=[some (.ref (A .bA)),some (.int p),some (.ref (A (.bR p)))]/\bh H1 A1 n m (S.xQ p g acc) (se++acc)/\m6 H H1 A n m/\Mv H A A1 n m/\T7 n g/\g.mu<=g0.mu/\acc.length+(g.cont p).2.length<=2*g0.mu+1/\
   (g0.cont p).1=(g.cont p).1/\(g0.cont p).2=acc++(g.cont p).2/\i=2*g.ask.length+(if g.miss=0 then 1 else 0),⟨_,A,g0,[],rfl,?_,m6.refl _ _ _ _,Mv.refl _ _ _ _,hgn,Nat.le_refl _,?_,rfl,rfl,rfl⟩,?_⟩
  ·have:=S.akc p
   rw[hg0]at this
   rw[this,List.append_nil];exact M
  ·have:=anc g0 p;simp;lia
  rintro i σ H1 ⟨A1,g,acc,rfl,M1,f1,mv1,gn1,mu1,le1,se1,se2,rfl⟩
  have hA:A1 .bA=A .bA:=mv1.bA
  have hAs:A1 (.bR p)=A (.bR p):=(mv1 (.bR p) hp).elim id fun z=>by obtain⟨⟨q,e⟩,_⟩:=z;cases e
  have hsh:=M1.bR hp
  rw[TS.bY,hAs]at hsh
  obtain⟨as,h3,h4⟩:=M1.jJ hp
  rw[TS.bY]at h4
  have awM:as.length=g.ask.length:=by rw[h4.length,List.length_map]
  have done:∀H2,bh H2 A1 n m (S.xQ p g acc) (se++acc)->m6 H H2 A n m->g.cont p=(g,[])->Q .non H2:=fun H2 M2 f2 e=>by
   refine k A1 H2 (g0.cont p) rfl ?_ f2 mv1
   rw[e]at se1 se2
   rw[se1,se2,List.append_nil]
   exact M2
  refine zd rfl (fu hsh vN) ⟨rfl,_,rfl,?_⟩
  by_cases hms:g.miss=0
  ·refine bG (by rw[hms];exact decide_eq_true rfl) ?_
   refine zd rfl (fu hsh HS) ⟨Eo,fun e he=>?_⟩
   have s2:=aB (o:=.lst []) he
   refine⟨A1 (.jJ p),e,as,rfl,rfl,cz.of (s2 _ _ h3),cz.of aj,_,rfl,?_⟩
   have M2:=M1.same s2
   have f2:=f1.trans (m6.of_same (A:=A1) s2) mv1
   generalize upd H1 e (.lst [])=H2 at s2 M2 f2
   by_cases hak:g.ask=[]
   ·have:as=[]:=List.length_eq_zero_iff.mp (by rw[awM,hak];rfl)
    subst this
    refine aM rfl ?_
    exact done H2 M2 f2 (by unfold PG.cont;rw[if_pos hms,yp hak])
   ·refine bG (by cases as with | nil=>exact absurd (List.length_eq_zero_iff.mp awM.symm) hak | cons _ _=>rfl) ?_
    obtain⟨⟨d,x⟩,l,hq⟩:=List.exists_cons_of_ne_nil hak
    obtain⟨hdn,hx⟩:=gn1.q (d,x) (by rw[hq];simp)
    have am5:g.rd.length<=1000000:=by unfold PG.mu at mu1 hmu;lia
    have hbl:=Yi g p
    have hbm:(g.cN p).length<=g0.mu+1:=by unfold PG.mu at mu1 ⊢;lia
    refine⟨fun σ' H'=>∃i',i'<2*g.ask.length+(if g.miss=0 then 1 else 0)/\∃A1 g acc,σ'=[some (.ref (A .bA)),some (.int p),some (.ref (A (.bR p)))]/\bh H' A1 n m (S.xQ p g acc) (se++acc)/\m6 H H' A n m/\Mv H A A1 n m/\T7 n g/\g.mu<=g0.mu/\acc.length+(g.cont p).2.length<=2*g0.mu+1/\
     (g0.cont p).1=(g.cont p).1/\(g0.cont p).2=acc++(g.cont p).2/\i'=2*g.ask.length+(if g.miss=0 then 1 else 0),fun σ' H' z=>z,?_⟩
    have aC2:acc.length<=2*g0.mu+1:=by lia
    have hv:V.ref (A .bA)=V.ref (A1 .bA):=by rw[hA]
    refine⟨_,rfl,_,rfl,A1,n,m,S.xQ p g acc,se++acc,p,d,x,l,by rw[hA];rfl,M2,hp,by rw[TS.bY];exact hq,hx,?_,by rw[TS.bY];exact am5,?_,?_⟩
    ·rw[TS.bY];exact fun x hx=>((gn1.cN p).1 x hx).1
    ·rw[TS.bY];exact hro.at (by lia)
    rw[TS.bY,TS.atQ,List.append_assoc]
    intro H3 M3 f3
    have ane:=M3.bR hp
    rw[TS.bY,hAs]at ane
    refine⟨_,rfl,A (.bR p),_,rfl,dput ane vO EY,?_⟩
    obtain⟨M4,f4⟩:=M3.zQ hp (g:={g with miss:=((g.cN p).length:Int)}) (by rw[TS.bY]) (by rw[TS.bY])
    rw[TS.n8]at M4
    rw[hAs]at M4 f4
    have f34:=(f2.trans f3 mv1).trans f4 mv1
    generalize upd H3 (A (.bR p)) (.dK (zG {g with miss:=((g.cN p).length:Int)} (A1 (.iV p)) (A1 (.jJ p))))=H4 at M4 f34
    have awN:=M4.bR hp
    rw[TS.bY,hAs]at awN
    refine zd rfl (fu awN vN) ⟨rfl,_,rfl,?_⟩
    by_cases hb:g.cN p=[]
    ·obtain⟨c1,c2⟩:=alb hms hak hb
     refine bG (by rw[hb];exact decide_eq_true rfl) ?_
     have eg:({g with miss:=((g.cN p).length:Int)}:PG)=g:=by rw[hb];cases g;simp_all
     rw[eg,hb,List.append_nil]at M4
     have hle:1+(g.lent.cont p).2.length<=(g.cont p).2.length:=by
      rw[c2,List.length_append]
      have:g.dO p=[(d,.lend p x g.num)]:=by unfold PG.dO;rw[hq]
      rw[this];simp
     refine⟨_,rfl,_,rfl,A1,n,m,S.xQ p g acc,se++acc,p,by rw[hA];rfl,M4,hp,by rw[TS.bY];exact hak,by rw[TS.bY];exact gn1,by rw[TS.bY];exact am5,hro.at (by lia),?_⟩
     rw[TS.bY]
     intro A5 H5 M5 f5 mv5
     have e5:(S.xQ p g acc).xQ p g.lent (g.dO p)=S.xQ p g.lent (acc++g.dO p):=by unfold TS.xQ;simp only[mz,jW]
     rw[e5,List.append_assoc]at M5
     refine⟨_,?_,A5,g.lent,acc++g.dO p,rfl,M5,f34.trans f5 mv1,mv1.trans f34.lv mv5,gn1.lent,Nat.le_trans g.sS mu1,?_,?_,?_,rfl⟩
     ·rw[PG.yo,PG.yr,hq];simp
     ·rw[List.length_append]
      have:g.dO p=[(d,.lend p x g.num)]:=by unfold PG.dO;rw[hq]
      rw[this]
      simp only[List.length_singleton]
      lia
     ·rw[se1,c1]
     ·rw[se2,c2,List.append_assoc]
    ·obtain⟨c1,c2⟩:=anb hms hak hb
     have hbn:(g.cN p).length≠0:=fun z=>hb (List.length_eq_zero_iff.mp z)
     refine aM (decide_eq_false fun z=>hbn (by have z1:((g.cN p).length:Int)=0:=V.int.inj z;lia)) ?_
     refine⟨_,?_,A1,{g with miss:=((g.cN p).length:Int)},acc++g.cN p,rfl,M4,f34,mv1,⟨gn1.w,gn1.r,gn1.q⟩,mu1,?_,?_,?_,rfl⟩
     ·rw[if_pos hms,if_neg (by show((g.cN p).length:Int)≠0;lia)];simp
     ·rw[List.length_append]
      have:=congrArg List.length c2
      rw[List.length_append]at this
      lia
     ·rw[se1,c1]
     ·rw[se2,c2,List.append_assoc]
  ·refine aM (decide_eq_false fun z=>hms (V.int.inj z)) ?_
   exact wY (done H1 M1 f1 (by unfold PG.cont;rw[if_neg hms]))
end
end gn
namespace gn
open PySem L2
theorem akd{H:Hp}{vs:List V}{l:UL}{r:List UL}(h:aH H vs ((l::r).map UL.d)):∃b us,vs=.ref b::us/\H b=some (.tup l.vs)/\aH H us (r.map UL.d):=by
 rw[List.map_cons]at h
 obtain⟨v,us,e,rv,rl⟩:=aH.cons_inv h
 cases l with
 | ask p x =>
   simp only[UL.d,Rep,aH]at rv
   obtain⟨b,xs,rfl,hb,_,_,rfl,rfl,_,_,rfl,rfl,_,_,rfl,rfl,rfl⟩:=rv
   exact⟨b,us,e,hb,rl⟩
 | ans p o =>
   cases o<;>(simp only[UL.d,oD,Rep,aH]at rv;obtain⟨b,xs,rfl,hb,_,_,rfl,rfl,_,_,rfl,rfl,_,_,rfl,rfl,rfl⟩:=rv;exact⟨b,us,e,hb,rl⟩)
 | gave p x =>
   simp only[UL.d,Rep,aH]at rv
   obtain⟨b,xs,rfl,hb,_,_,rfl,rfl,_,_,rfl,rfl,_,_,rfl,rfl,rfl⟩:=rv
   exact⟨b,us,e,hb,rl⟩
theorem Ym{H:Hp}{b:Addr}{l:UL}(h:H b=some (.tup l.vs)):Rep H (.ref b) l.d:=by
 cases l with
 | ask p x=>simp only[UL.d,Rep,aH];exact⟨b,_,rfl,h,_,_,rfl,rfl,_,_,rfl,rfl,_,_,rfl,rfl,rfl⟩
 | ans p o=>cases o<;>(simp only[UL.d,oD,Rep,aH];exact⟨b,_,rfl,h,_,_,rfl,rfl,_,_,rfl,rfl,_,_,rfl,rfl,rfl⟩)
 | gave p x=>simp only[UL.d,Rep,aH];exact⟨b,_,rfl,h,_,_,rfl,rfl,_,_,rfl,rfl,_,_,rfl,rfl,rfl⟩
def awO:Sp:=fun vs H Q _=>∃A n m S se,∃d:Nat,∃l r,vs=[.ref (A .bA),.int d]/\bh H A n m S se/\d<n/\S.up d=l::r/\l.pg<m/\T7 n (S.pg l.pg)/\((S.pg l.pg).ask=[]↔(S.pg l.pg).miss=0)/\l.good (S.pg l.pg)/\(S.pg l.pg).mu<=900000/\Cj S se (4*(S.pg l.pg).mu+20)/\
 ∀b A' H',bh H' A' n m (S.Xa d l r) (se++((S.pg l.pg).take l.pg d l).2)->m6 H H' A n m->Mv H A A' n m->H' b=some (.tup l.vs)->Q (.ref b) H'
section
variable{P:Program}{w:World}{K:PySem.W.Frag}{mg:Str->Option Value}{base:Heap}{t:JR}
theorem adF(T:Txt K w mg t):dj P w K mg base oM 3 t.ji t.An ["_law_town","_law_desk"] awO:=by
 refine T.Sg.ok z9 (fun vs H Q E h=>?_) (fun cdv A outer s H vs Q E hr h=>?_)
 ·obtain⟨A,n,m,S,se,d,l,r,rfl,_⟩:=h;rfl
 ·obtain⟨A,n,m,S,se,d,l,r,rfl,M,hd,hup,hp,hgn,ham,hgd,hmu,hro,k⟩:=h
  have hu:=lA hr
  have sl:sizeLine=16777216:=by decide
  refine⟨_,(ak (bx (i:=2) z9.nd rfl (Or.inl rfl) (fB PySem.F.plainAttrs_list PySem.F.slot_list_pop PySem.F.type_list_pop Et (aO bD (bH hu (pv 0) aC (fun _ _=>rfl)) (pv 1) (fun _ _=>rfl)) (aa az ao)))
   (ak (bx (i:=3) z9.nd rfl (Or.inl rfl) (aO bD (bH hu (pv 0) aC (fun _ _=>rfl)) (aO bB (pv 2) az (fun _ _=>rfl)) (fun _ _=>rfl)))
   (ak (bU (aQ cQ (aO bB (pv 2) az (fun _ _=>rfl)) aC (aW _)) (ak (bO (fB PySem.F.plainAttrs_list PySem.F.slot_list_append PySem.F.type_list_append cG (bH hu (pv 3) aC (fun _ _=>rfl)) (aa (cg (aa (pv 1) (aa (aO bB (pv 2) az (fun _ _=>rfl)) ao))) ao)))
   (ak (bO (cB (Yl T) (hr.mono (by decide):bQ 2 _) (by rfl) T.acn T.QQ.kp T.ack .nil bW (aa (pv 0) (aa (aO bB (pv 2) az (fun _ _=>rfl)) ao))))
   (aA (aZ (pv 2))))) bw)
   (ak (bU (wW (vD (aO bB (pv 2) az (fun _ _=>rfl)))) (aA (lG hu (pv 3) aC (aO bB (pv 2) az (fun _ _=>rfl)) (by rfl))) bw)
   (ak (bU (aQ cQ (aO bB (pv 2) az (fun _ _=>rfl)) aC (aW _)) (ak (bU (aQ cQ (bH hu (pv 3) aC (fun _ _=>rfl)) (pv 1) (aW _)) (aA (lG hu (pv 3) aC (RX Er az) (by rfl))) bw)
   (aA (aZ (pv 2)))) bw)
   (ak (lG hu (pv 3) aC (bF JG (bH hu (pv 3) aC (fun _ _=>rfl)) az) (by rfl))
   (ak (bU (aQ cQ (bH hu (pv 3) aC (fun _ _=>rfl)) az (aW _)) (ak (bO (cB (Ja T) (hr.mono (by decide):bQ 1 _) (by rfl) T.MT T.Av.kp T.MP .nil bW (aa (pv 0) (aa (aO bB (pv 2) az (fun _ _=>rfl)) ao))))
   (aA (bO (cB (Yl T) (hr.mono (by decide):bQ 2 _) (by rfl) T.acn T.QQ.kp T.ack .nil bW (aa (pv 0) (aa (aO bB (pv 2) az (fun _ _=>rfl)) ao)))))) bw)
   (aA (aZ (pv 2)))))))))),?_⟩
  try dsimp only[dD,Cx.kZ]
  show let Z1:L2.TS:=_;let Z2:L2.TS:=_;let Z3:L2.TS:=_;let Z4:L2.TS:=_;let Z5:L2.TS:=_;let Z6:L2.TS:=aU Z3 (aU Z4 (Z5));let Z7:L2.TS:=cT _ Z6 bJ;let Z8:L2.TS:=_;let Z9:L2.TS:=cT _ Z8 bJ;let yW:L2.TS:=_;let IV:L2.TS:=cT _ yW bJ;let IW:L2.TS:=_;let Nj:L2.TS:=aU IV (IW);let Nk:L2.TS:=cT _ Nj bJ;let Yk:L2.TS:=_;let Z16:L2.TS:=_;let Z17:L2.TS:=_;let Z18:L2.TS:=aU Z16 (Z17);let Z19:L2.TS:=cT _ Z18 bJ;let Z20:L2.TS:=_;let D0:Ends:=_;(aU Z1 (aU Z2 (aU Z7 (aU Z9 (aU Nk (aU Yk (aU Z19 (Z20)))))))) D0 _ _
  intro Z1 Z2 Z3 Z4 Z5 Z6 Z7 Z8 Z9 yW IV IW Nj Nk Yk Z16 Z17 Z18 Z19 Z20 D0
  obtain⟨uv,u1,u2⟩:=M.up hd
  rw[hup]at u2
  obtain⟨b,us,rfl,hb,u3⟩:=akd u2
  refine T8 rfl (fu M.bA Mh) rfl (cz.of M.ups) (bM hd) ⟨.inl ⟨rfl,_,cz.of u1⟩,A (.up d),_,0,0,_,rfl,rfl,u1,(by decide),(by decide),amF _ _,rfl,?_⟩
  rw[List.eraseIdx_cons_zero]
  obtain⟨M1,f1⟩:=M.agg hd u3
  have hb1:=(f1.tups M) b _ hb
  generalize upd H (A (.up d)) (.lst us)=H1 at M1 f1 hb1
  generalize hS1:({S with up:=aF S.up d r}:TS)=S1 at M1
  have hpg:S1.pg=S.pg:=by rw[<-hS1]
  have hdn:S1.dn=S.dn:=by rw[<-hS1]
  have aps:Cj S1 se (4*(S.pg l.pg).mu+20):=⟨fun e=>by rw[hdn];exact hro.1 e,hro.2⟩
  have hdo:∀z:PG×List (Nat×Let),z=(S.pg l.pg).take l.pg d l->S1.xQ l.pg z.1 z.2=S.Xa d l r:=fun z e=>by rw[e,<-hS1];rfl
  refine zd rfl (fu M1.bA jY) (zt rfl (cW.of hb1) (UL.at1 l) ⟨A .cV,_,_,_,rfl,rfl,cz.of M1.cV,bM hp,?_⟩)
  have M1':bh H1 A n m (S1.xQ l.pg (S.pg l.pg) []) se:=by have:=S1.akc l.pg;rw[hpg]at this;rw[this];exact M1
  have hsh:=M1'.bR hp
  rw[TS.bY]at hsh
  generalize hq:l.pg=p0 at hp hgn ham hgd hmu hro k aps hdo M1' hsh ⊢
  cases l with
  | ask p x =>
    have hq':p=p0:=hq
    subst hq'
    have hx:x=.rd\/x=.wr:=hgd
    refine zt rfl (cW.of hb1) rfl ⟨rfl,_,rfl,?_⟩
    refine bG fJ ?_
    obtain⟨av,a1,a2⟩:=M1'.jJ hp
    rw[TS.bY]at a2
    have hal:av.length=(S.pg p).ask.length:=by rw[a2.length,List.length_map]
    have awP:(S.pg p).ask.length<=900000:=by unfold PG.mu at hmu;lia
    refine zd rfl (fu hsh HS) ⟨.inl ⟨rfl,_,cz.of a1⟩,_,rfl,zt rfl (cW.of hb1) rfl ⟨vA,fun tt ht=>?_⟩⟩
    have s2:=aB (o:=.tup [.int d,.str x.s]) ht
    refine⟨A (.jJ p),av,_,rfl,rfl,s2 _ _ a1,by lia,?_⟩
    have rp:aH (upd H1 tt (.tup [.int d,.str x.s])) (av++[.ref tt]) (((S.pg p).ask++[(d,x)]).map sO):=by
     rw[List.map_append]
     refine aH.snoc (a2.aX (bc s2) (kJ _)) ?_
     simp only[sO,Rep,aH]
     exact⟨tt,_,rfl,aj,_,_,rfl,rfl,_,_,rfl,rfl,rfl⟩
    obtain⟨M3,f3⟩:=(M1'.same s2).arz hp rp
    have hb3:=(f3.tups (M1'.same s2)) b _ (s2 _ _ hb1)
    have f13:=(f1.trans (m6.of_same (A:=A) s2) (Mv.refl _ _ _ _)).trans f3 (Mv.refl _ _ _ _)
    generalize upd (upd H1 tt (.tup [.int d,.str x.s])) (A (.jJ p)) (.lst (av++[.ref tt]))=H3 at M3 f3 hb3 f13
    rw[TS.n8,TS.bY]at M3
    have gn2:T7 n ({S.pg p with ask:=(S.pg p).ask++[(d,x)]}:PG):=⟨hgn.w,hgn.r,fun y hy=>by
     rcases List.mem_append.mp hy with hy | hy
     ·exact hgn.q y hy
     ·have:y=(d,x):=by simpa using hy
      rw[this];exact⟨hd,hx⟩⟩
    have awQ:({S.pg p with ask:=(S.pg p).ask++[(d,x)]}:PG).mu=(S.pg p).mu+2:=by unfold PG.mu;simp;lia
    refine⟨_,rfl,zt rfl (cW.of hb3) rfl ⟨A,n,m,_,se,p,rfl,M3,hp,by rw[TS.bY];exact gn2,?_,?_,?_⟩⟩
    ·rw[TS.bY,awQ];have:(S.pg p).mu<=900000:=hmu;lia
    ·have:=Cj.at (acc:=[]) (p:=p) (g:={S.pg p with ask:=(S.pg p).ask++[(d,x)]}) (j:=4*((S.pg p).mu+2)+4) aps (by show 0+_<=4*(S.pg p).mu+20;lia)
     rw[TS.bY,awQ]
     rw[List.append_nil]at this
     exact this
    ·rw[TS.bY]
     intro A4 H4 z hz M4 f4 mv4
     have ez:z=(S.pg p).take p d (.ask p x):=by
      rw[hz]
      simp only[PG.take]
      by_cases e:(S.pg p).ask=[]
      ·rw[if_pos (ham.mp e),if_pos e,e];rfl
      ·rw[if_neg fun y=>e (ham.mpr y),if_neg e]
     have e4:(S1.xQ p {S.pg p with ask:=(S.pg p).ask++[(d,x)]} []).xQ p z.1 z.2=S1.xQ p z.1 z.2:=by unfold TS.xQ;simp only[mz,jW];rfl
     rw[e4,hdo z ez,ez]at M4
     refine⟨_,rfl,k b A4 H4 M4 (f13.trans f4 (Mv.refl _ _ _ _)) (fun y hy=>(mv4 y hy).imp id fun e=>⟨e.1,f13.lv _ e.2⟩) ((f4.tups M3) b _ hb3)⟩
  | gave p x =>
    have hq':p=p0:=hq
    subst hq'
    refine zt rfl (cW.of hb1) rfl ⟨rfl,_,rfl,?_⟩
    refine aM (dm (by decide +kernel)) ?_
    refine zt rfl (cW.of hb1) rfl ⟨_,rfl,?_⟩
    refine bG rfl ?_
    refine zt rfl (cW.of hb1) rfl ⟨_,rfl,A (.bR p),_,rfl,dput hsh vO Im,?_⟩
    obtain⟨M2,f2⟩:=M1'.zQ hp (g:={S.pg p with num:=x}) (by rw[TS.bY]) (by rw[TS.bY])
    rw[TS.n8]at M2
    have hb2:=(f2.tups M1') b _ hb1
    have f12:=f1.trans f2 (Mv.refl _ _ _ _)
    generalize upd H1 (A (.bR p)) (.dK (zG {S.pg p with num:=x} (A (.iV p)) (A (.jJ p))))=H2 at M2 f2 hb2 f12
    have aaQ:=M2.bR hp
    rw[TS.bY]at aaQ
    refine zt rfl (cW.of hb2) rfl ⟨rfl,_,rfl,?_⟩
    refine bG fJ ?_
    have ek:(S.pg p).take p d (.gave p x)=({S.pg p with num:=x,wr:=if(S.pg p).wr=some d then none else(S.pg p).wr},[]):=rfl
    refine zd rfl (fu aaQ ug) ⟨_,rfl,rfl,_,rfl,?_⟩
    by_cases e:(S.pg p).wr=some d
    ·refine bG (by show decide (V.int (wrI (S.pg p).wr)=V.int d)=true;rw[e];exact decide_eq_true rfl) ?_
     refine⟨_,rfl,_,rfl,A (.bR p),_,rfl,dput aaQ vO Ez,?_⟩
     obtain⟨M3,f3⟩:=M2.zQ hp (g:={S.pg p with num:=x,wr:=none}) (by rw[TS.bY]) (by rw[TS.bY])
     rw[TS.n8]at M3
     refine⟨_,rfl,k b A _ ?_ (f12.trans f3 (Mv.refl _ _ _ _)) (Mv.refl _ _ _ _) ((f3.tups M2) b _ hb2)⟩
     have:=hdo _ ek.symm
     rw[if_pos e]at ek this
     rw[<-this]
     show bh _ A n m _ (se++((S.pg p).take p d (.gave p x)).2)
     rw[ek,List.append_nil]
     exact M3
    ·refine aM (decide_eq_false fun z=>e ?_) ?_
     ·have z1:wrI (S.pg p).wr=(d:Int):=V.int.inj z
      cases hw:(S.pg p).wr with
      | none=>rw[hw]at z1;have:(-1:Int)=d:=z1;lia
      | some y=>rw[hw]at z1;have:(y:Int)=d:=z1;exact congrArg some (by lia)
     ·refine⟨_,rfl,k b A _ ?_ f12 (Mv.refl _ _ _ _) hb2⟩
      have:=hdo _ ek.symm
      rw[if_neg e]at ek this
      rw[<-this]
      show bh _ A n m _ (se++((S.pg p).take p d (.gave p x)).2)
      rw[ek,List.append_nil]
      exact M2
  | ans p o =>
    have hq':p=p0:=hq
    subst hq'
    refine zt rfl (cW.of hb1) rfl ⟨rfl,_,rfl,?_⟩
    refine aM (dm (by decide +kernel)) ?_
    try dsimp only[bJ]
    refine f9 (fun σ' H'=>σ'=[some (.ref (A .bA)),some (.int d),some (.ref b),some (.ref (A (.bR p)))]/\bh H' A n m (S1.xQ p {S.pg p with num:=o.getD (S.pg p).num} []) se/\m6 H H' A n m/\H' b=some (.tup (UL.ans p o).vs)) (fun N hN=>?_) ?_
    ·refine zt rfl (cW.of hb1) rfl ⟨_,rfl,?_⟩
     cases o with
     | none =>
       refine aM rfl ?_
       exact hN _ _ ⟨rfl,M1',f1,hb1⟩
     | some x =>
       refine bG rfl ?_
       refine zt rfl (cW.of hb1) rfl ⟨_,rfl,A (.bR p),_,rfl,dput hsh vO Im,?_⟩
       obtain⟨M2,f2⟩:=M1'.zQ hp (g:={S.pg p with num:=x}) (by rw[TS.bY]) (by rw[TS.bY])
       rw[TS.n8]at M2
       exact hN _ _ ⟨rfl,M2,f1.trans f2 (Mv.refl _ _ _ _),(f2.tups M1') b _ hb1⟩
    ·rintro σ' H2 ⟨rfl,M2,f2,hb2⟩
     have aaQ:=M2.bR hp
     rw[TS.bY]at aaQ
     refine zt rfl (cW.of hb2) rfl ⟨rfl,_,rfl,?_⟩
     refine aM (dm (by decide +kernel)) ?_
     refine zd rfl (fu aaQ vN) ⟨_,_,rfl,rfl,_,rfl,A (.bR p),_,rfl,dput aaQ vO EY,?_⟩
     generalize hg2:({S.pg p with num:=o.getD (S.pg p).num,miss:=(S.pg p).miss - 1}:PG)=g2
     obtain⟨M3,f3⟩:=M2.zQ hp (g:=g2) (by rw[TS.bY,<-hg2]) (by rw[TS.bY,<-hg2])
     rw[TS.n8]at M3
     have hb3:=(f3.tups M2) b _ hb2
     have f13:=f2.trans f3 (Mv.refl _ _ _ _)
     generalize upd H2 (A (.bR p)) (.dK (zG g2 (A (.iV p)) (A (.jJ p))))=H3 at M3 f3 hb3 f13
     have ane:=M3.bR hp
     rw[TS.bY]at ane
     have gm:g2.miss=(S.pg p).miss - 1:=by rw[<-hg2]
     have ga:g2.ask=(S.pg p).ask:=by rw[<-hg2]
     have gr:g2.rd=(S.pg p).rd:=by rw[<-hg2]
     have gn2:T7 n g2:=by rw[<-hg2];exact⟨hgn.w,hgn.r,hgn.q⟩
     have gmu:g2.mu=(S.pg p).mu:=by unfold PG.mu;rw[ga,gr]
     have ek:(S.pg p).take p d (.ans p o)=if(S.pg p).miss - 1=0 then((g2.lent.serve p).1,g2.dO p++(g2.lent.serve p).2)else(g2,[]):=by simp only[PG.take];rw[hg2]
     have az0:(S.pg p).mu<=900000:=hmu
     try dsimp only[bJ]
     refine zd rfl (fu ane vN) ⟨rfl,_,rfl,?_⟩
     by_cases e:(S.pg p).miss - 1=0
     ·refine bG (by rw[gm,e];exact decide_eq_true rfl) ?_
      rw[if_pos e]at ek
      have hak:g2.ask≠[]:=by rw[ga];exact hgd e
      refine⟨_,rfl,zt rfl (cW.of hb3) rfl ⟨A,n,m,_,se,p,rfl,M3,hp,by rw[TS.bY];exact hak,by rw[TS.bY];exact gn2,?_,?_,?_⟩⟩
      ·rw[TS.bY,gr];unfold PG.mu at az0;lia
      ·have:=Cj.at (acc:=[]) (p:=p) (g:=g2) (j:=1) aps (by show 0+1<=4*(S.pg p).mu+20;lia)
       rw[List.append_nil]at this
       exact this
      ·rw[TS.bY]
       intro A4 H4 M4 f4 mv4
       have e4:(S1.xQ p g2 []).xQ p g2.lent (g2.dO p)=S1.xQ p g2.lent (g2.dO p):=by unfold TS.xQ;simp only[mz];rfl
       rw[e4]at M4
       have hA:A4 .bA=A .bA:=mv4.bA
       have hb4:=(f4.tups M3) b _ hb3
       have ll:(g2.dO p).length<=1:=by unfold PG.dO;split<;>simp
       have hlm:=g2.sS
       refine⟨_,rfl,zt rfl (cW.of hb4) rfl ⟨A4,n,m,_,se++g2.dO p,p,by rw[hA];rfl,M4,hp,by rw[TS.bY];exact gn2.lent,?_,?_,?_⟩⟩
       ·rw[TS.bY];lia
       ·rw[TS.bY]
        exact Cj.at aps (by show _<=4*(S.pg p).mu+20;lia)
       ·rw[TS.bY]
        intro A5 H5 z hz M5 f5 mv5
        rw[PG.yr,gm,if_pos e]at hz
        have e5:(S1.xQ p g2.lent (g2.dO p)).xQ p z.1 z.2=S1.xQ p z.1 (g2.dO p++z.2):=by unfold TS.xQ;simp only[mz,jW]
        rw[e5,List.append_assoc]at M5
        have ek':(z.1,g2.dO p++z.2)=(S.pg p).take p d (.ans p o):=by rw[ek,hz]
        have:=hdo _ ek'
        have mv:Mv H A A5 n m:=fun y hy=>((mv4.trans f4.lv mv5) y hy).imp id fun e=>⟨e.1,f13.lv _ e.2⟩
        refine⟨_,rfl,k b A5 H5 ?_ ((f13.trans f4 (Mv.refl _ _ _ _)).trans f5 fun y hy=>(mv4 y hy).imp id fun e=>⟨e.1,f13.lv _ e.2⟩) mv ((f5.tups M4) b _ hb4)⟩
        rw[<-this]
        show bh _ A5 n m _ (se++((S.pg p).take p d (.ans p o)).2)
        rw[<-ek']
        exact M5
     ·refine aM (by rw[gm];exact decide_eq_false fun z=>e (V.int.inj z)) ?_
      rw[if_neg e]at ek
      refine⟨_,rfl,k b A H3 ?_ f13 (Mv.refl _ _ _ _) hb3⟩
      have:=hdo _ ek.symm
      rw[<-this]
      show bh _ A n m _ (se++((S.pg p).take p d (.ans p o)).2)
      rw[ek,List.append_nil]
      exact M3
end
end gn
namespace gn
open PySem L2
theorem wC{n p:Nat}(h:p<n):ixN n (p:Int)=some p:=by unfold ixN;rw[if_pos (Int.natCast_nonneg _),if_pos (by lia)];simp
theorem yX{m p:Nat}{f g:Nat->V}{v:V}(hp:p<m)(hg:g p=v)(h:∀q,q≠p->g q=f q):((List.range m).map f).set p v=(List.range m).map g:=by
 refine List.ext_getElem? fun i=>?_
 by_cases e:i=p
 ·subst e
  rw[List.getElem?_set_self (by simpa using hp),List.getElem?_map,List.getElem?_range hp]
  simp[hg]
 ·rw[List.getElem?_set_ne (Ne.symm e),List.getElem?_map,List.getElem?_map]
  by_cases hi:i<m
  ·rw[List.getElem?_range hi];simp[h i e]
  ·rw[List.getElem?_eq_none (by simpa using hi)];rfl
def az1:Sp:=fun vs H Q _=>∃r a w,vs=[.str (Rt.s r),.ref a]/\H a=some (.tup (W.vs w))/\Q (.bl (decide (w.need.k<=r.k))) H
def atX:Sp:=fun vs H Q _=>∃A n m S se a w,∃d p:Nat,vs=[.ref (A .bA),.int d,.ref a]/\bh H A n m S se/\d<n/\H a=some (.tup (W.vs w))/\w.pg=(p:Int)/\p<m/\S.row.length<=1000000/\
 ∀H',bh H' A n m {S with ds:=aF S.ds d ((S.ds d).done w),row:=dg S.row d [(w.m5,w.pg,(S.ds d).num w)]} se->m6 H H' A n m->Q (.int ((S.ds d).num w)) H'
def awS:Sp:=fun vs H Q _=>∃A n m S se l r,∃d p:Nat,vs=[.ref (A .bA),.int d]/\bh H A n m S se/\d<n/\S.dn d=l::r/\l.pg=(p:Int)/\p<m/\l.nice/\(∀w,(S.ds d).ws=some w->∃q:Nat,q<m/\w.pg=(q:Int))/\S.row.length<=1000000/\(S.up d).length<=1000000/\
 ∀b H',bh H' A n m (S.Ie d l r) se->m6 H H' A n m->H' b=some (.tup l.vs)->Q (.ref b) H'
theorem DS.alc(S:DS)(p:Int)(r:Rt)(h:S.rt p=r):S.hold p r (S.nm p)=S:=by
 unfold DS.hold
 cases S
 congr
 ·funext q;dsimp only at h ⊢;split<;>simp_all
 ·funext q;dsimp only at h ⊢;split<;>simp_all
theorem agV{H:Hp}{vs:List V}{l:Let}{r:List Let}(h:aH H vs ((l::r).map Let.d)):∃b us,vs=.ref b::us/\H b=some (.tup l.vs)/\aH H us (r.map Let.d):=by
 rw[List.map_cons]at h
 obtain⟨v,us,e,rv,rl⟩:=aH.cons_inv h
 cases l with
 | lend p x k =>
   simp only[Let.d,Rep,aH]at rv
   obtain⟨b,xs,rfl,hb,_,_,rfl,rfl,_,_,rfl,rfl,_,_,rfl,rfl,_,_,rfl,rfl,rfl⟩:=rv
   exact⟨b,us,e,hb,rl⟩
 | back p x =>
   simp only[Let.d,Rep,aH]at rv
   obtain⟨b,xs,rfl,hb,_,_,rfl,rfl,_,_,rfl,rfl,_,_,rfl,rfl,rfl⟩:=rv
   exact⟨b,us,e,hb,rl⟩
theorem W.atY(w:W):Ql w.vs 0=some (.str w.tag):=by cases w<;>rfl
theorem W.atZ(w:W):Ql w.vs 1=some (.int w.pg):=by cases w<;>rfl
theorem DS.anf(S:DS)(w:W)(q:Int):(S.done w).rt q=S.rt q:=by
 cases w with
 | look p=>rfl
 | put p n=>show(if q=p then S.rt p else S.rt q)=S.rt q;split<;>simp_all
theorem DS.ang(S:DS)(w:W):(S.done w).nm w.pg=S.num w:=by
 cases w with
 | look p=>rfl
 | put p n=>show(if p=p then n else S.nm p)=n;rw[if_pos rfl]
section
variable{P:Program}{w:World}{K:PySem.W.Frag}{mg:Str->Option Value}{base:Heap}{t:JR}
theorem Sq(T:Txt K w mg t):dj P w K mg base oM 1 t.j8 t.FP ["_law_right","_law_wish"] az1:=by
 refine T.JZ.ok agp (fun vs H Q E h=>?_) (fun cdv A outer s H vs Q E hr h=>?_)
 ·obtain⟨r,a,w,rfl,_⟩:=h;rfl
 ·obtain⟨r,a,w,rfl,ha,k⟩:=h
  refine⟨_,(aA (aZ (avR (mV cQ (pv 0) aC (aW _)) (ah7 (al3 (mV cQ (pv 0) aC (aW _)) (ah7 (mV cQ (aO bB (pv 1) az (fun _ _=>rfl)) aC (aW _)))))))),?_⟩
  try dsimp only[dD,Cx.kZ]
  refine⟨_,rfl,rfl,_,rfl,?_⟩
  cases r with
  | wr =>
    refine bG fJ ?_
    cases w<;>exact k
  | rd =>
    refine aM (oN (x:="write") (q:=.wr) rfl (by intro z;cases z)) ?_
    refine⟨_,rfl,rfl,_,rfl,?_⟩
    refine bG fJ ?_
    refine zt rfl (cW.of ha) (W.atY w) ⟨rfl,?_⟩
    cases w with
    | look p=>exact k
    | put p n =>
      have e:decide (V.str (W.put p n).tag=V.str "look")=false:=dm (show("put":Str)≠"look" by decide +kernel)
      rw[e];exact k
  | no =>
    refine aM (oN (x:="write") (q:=.wr) rfl (by intro z;cases z)) ?_
    refine⟨_,rfl,rfl,_,rfl,?_⟩
    refine aM (oN (x:="read") (q:=.rd) rfl (by intro z;cases z)) ?_
    cases w<;>exact k
theorem Gn(T:Txt K w mg t):dj P w K mg base oM 1 t.gJ t.uI ["_law_town","_law_desk","_law_wish"] atX:=by
 refine T.xN.ok FJ (fun vs H Q E h=>?_) (fun cdv A outer s H vs Q E hr h=>?_)
 ·obtain⟨A,n,m,S,se,a,w,d,p,rfl,_⟩:=h;rfl
 ·obtain⟨A,n,m,S,se,a,w,d,p,rfl,M,hd,ha,hpg,hp,hrl,k⟩:=h
  have hu:=lA hr
  have sl:sizeLine=16777216:=by decide
  refine⟨_,(ak (bU (aQ cQ (aO bB (pv 2) az (fun _ _=>rfl)) aC (aW _)) (aA (tW (aO bB (pv 2) az (fun _ _=>rfl)) (Ep (aO bD (bH hu (pv 0) aC (fun _ _=>rfl)) (pv 1) (fun _ _=>rfl)) (aO bB (pv 2) az (fun _ _=>rfl)) set_list))) bw)
   (ak (bx (i:=3) FJ.nd rfl (Or.inl rfl) (aO bD (aO bD (bH hu (pv 0) aC (fun _ _=>rfl)) (pv 1) (fun _ _=>rfl)) (aO bB (pv 2) az (fun _ _=>rfl)) (fun _ _=>rfl)))
   (ak (bO (fB PySem.F.plainAttrs_list PySem.F.slot_list_append PySem.F.type_list_append cG (bH hu (pv 0) aC (fun _ _=>rfl)) (aa (cg (aa (aO bB (pv 2) az (fun _ _=>rfl)) (aa (pv 1) (aa (aO bB (pv 2) az (fun _ _=>rfl)) (aa (pv 3) ao))))) ao)))
   (aA (aZ (pv 3)))))),?_⟩
  try dsimp only[dD,Cx.kZ]
  show let Z1:L2.TS:=_;let Z2:L2.TS:=cT _ Z1 bJ;let Z3:L2.TS:=_;let Z4:L2.TS:=_;let Z5:L2.TS:=_;let D0:Ends:=_;(aU Z2 (aU Z3 (aU Z4 (Z5)))) D0 _ _
  intro Z1 Z2 Z3 Z4 Z5 D0
  try dsimp only[bJ]
  refine f9 (fun σ' H'=>σ'=[some (.ref (A .bA)),some (.int d),some (.ref a),none]/\bh H' A n m {S with ds:=aF S.ds d ((S.ds d).done w)} se/\m6 H H' A n m/\H' a=some (.tup w.vs)) (fun N hN=>?_) ?_
  ·refine zt rfl (cW.of ha) (W.atY w) ⟨rfl,_,rfl,?_⟩
   cases w with
   | look q =>
     refine aM (dm (show("look":Str)≠"put" by decide +kernel)) ?_
     refine hN _ _ ⟨rfl,?_,m6.refl _ _ _ _,ha⟩
     have:({S with ds:=aF S.ds d ((S.ds d).done (.look q))}:TS)=S:=by show({S with ds:=aF S.ds d (S.ds d)}:TS)=S;rw[dX]
     rw[this];exact M
   | put q x =>
     have hq:q=(p:Int):=hpg
     subst hq
     refine bG fJ ?_
     have hcp:=M.cp hd
     refine zt rfl (cW.of ha) rfl (T8 rfl (fu M.bA uf) rfl (cz.of M.copies) (bM hd) (zt rfl (cW.of ha) rfl ⟨A (.cp d),_,_,p,rfl,rfl,hcp,wC (by simpa using hp),?_⟩))
     obtain⟨M1,f1⟩:=M.awu hd (D':=(S.ds d).done (.put p x)) (by funext q;exact DS.anf _ _ _) rfl
     have e:((List.range m).map fun q:Nat=>V.int ((S.ds d).nm q)).set p (.int x)=(List.range m).map fun q:Nat=>V.int (((S.ds d).done (.put p x)).nm q):=by
      refine yX hp ?_ fun q hq=>?_
      ·show V.int (if(p:Int)=p then x else _)=_;rw[if_pos rfl]
      ·show V.int (if(q:Int)=p then x else _)=_;rw[if_neg (by lia)]
     rw[e]
     exact hN _ _ ⟨rfl,M1,f1,(f1.tups M) a _ ha⟩
  ·rintro σ' H1 ⟨rfl,M1,f1,ha1⟩
   have hcp:=M1.cp hd
   simp only[aL]at hcp
   have hnum:((S.ds d).done w).nm (p:Int)=(S.ds d).num w:=by rw[<-hpg];exact DS.ang _ _
   refine T8 rfl (fu M1.bA uf) rfl (cz.of M1.copies) (bM hd) (zt rfl (cW.of ha1) (W.atZ w) ⟨A (.cp d),_,p,.int ((S.ds d).num w),rfl,by rw[hpg],cz.of hcp,?_,?_⟩)
   ·rw[bM hp,hnum]
   obtain⟨rv,r1,r2⟩:=M1.row
   have az2:rv.length<sizeLine:=by rw[r2.length,List.length_map];show S.row.length<_;lia
   refine zd rfl (fu M1.bA ajS) ⟨.inl ⟨rfl,_,cz.of r1⟩,zt rfl (cW.of ha1) (W.atY w) ⟨_,rfl,zt rfl (cW.of ha1) (W.atZ w) ⟨_,rfl,zz4,fun b hb=>?_⟩⟩⟩
   have s2:=aB (o:=.tup [.str w.tag,.int d,.int w.pg,.int ((S.ds d).num w)]) hb
   refine⟨A .row,rv,_,rfl,rfl,s2 _ _ r1,az2,?_⟩
   have rp:aH (upd H1 b (.tup [.str w.tag,.int d,.int w.pg,.int ((S.ds d).num w)])) (rv++[.ref b]) ((dg S.row d [(w.m5,w.pg,(S.ds d).num w)]).map RE.d):=by
    unfold dg
    rw[List.map_append]
    refine aH.snoc (r2.aX (bc s2) (bL RE.flat _)) ?_
    simp only[RE.d,Rep,aH,<-W.aiy]
    exact⟨b,_,rfl,aj,_,_,rfl,rfl,_,_,rfl,rfl,_,_,rfl,rfl,_,_,rfl,rfl,rfl⟩
   obtain⟨M3,f3⟩:=(M1.same s2).amO rp
   exact⟨_,rfl,k _ M3 ((f1.trans (m6.of_same (A:=A) s2) (Mv.refl _ _ _ _)).trans f3 (Mv.refl _ _ _ _))⟩
theorem Yn(T:Txt K w mg t):dj P w K mg base oM 2 t.gK t.uJ ["_law_town","_law_desk"] awS:=by
 refine T.IK.ok gQ (fun vs H Q E h=>?_) (fun cdv A outer s H vs Q E hr h=>?_)
 ·obtain⟨A,n,m,S,se,l,r,d,p,rfl,_⟩:=h;rfl
 ·obtain⟨A,n,m,S,se,l,r,d,p,rfl,M,hd,hdn,hlp,hp,hni,hws,hrl,hul,k⟩:=h
  have hu:=lA hr
  have sl:sizeLine=16777216:=by decide
  refine⟨_,(ak (bx (i:=2) gQ.nd rfl (Or.inl rfl) (fB PySem.F.plainAttrs_list PySem.F.slot_list_pop PySem.F.type_list_pop Et (aO bD (bH hu (pv 0) aC (fun _ _=>rfl)) (pv 1) (fun _ _=>rfl)) (aa az ao)))
   (ak (bx (i:=3) gQ.nd rfl (Or.inl rfl) (aO bB (pv 2) az (fun _ _=>rfl)))
   (ak (bx (i:=4) gQ.nd rfl (Or.inl rfl) (aO bD (aO bD (bH hu (pv 0) aC (fun _ _=>rfl)) (pv 1) (fun _ _=>rfl)) (pv 3) (fun _ _=>rfl)))
   (ak (bU (aQ cQ (aO bB (pv 2) az (fun _ _=>rfl)) aC (aW _)) (ak (tW (aO bB (pv 2) az (fun _ _=>rfl)) (Ep (aO bD (bH hu (pv 0) aC (fun _ _=>rfl)) (pv 1) (fun _ _=>rfl)) (pv 3) set_list))
   (ak (tW (aO bB (pv 2) az (fun _ _=>rfl)) (Ep (aO bD (bH hu (pv 0) aC (fun _ _=>rfl)) (pv 1) (fun _ _=>rfl)) (pv 3) set_list))
   (ak (bx (i:=5) gQ.nd rfl (Or.inl rfl) (aO bD (bH hu (pv 0) aC (fun _ _=>rfl)) (pv 1) (fun _ _=>rfl)))
   (ak (bU (PW.pt (Qm (wW (vD (pv 5))) (Qm (aQ cQ (aO bB (pv 5) az (fun _ _=>rfl)) (pv 3) (aW _)) (Lp (jO (cB (Sq T) (hr.mono (by decide):bQ 1 _) (by rfl) T.X5 T.JZ.kp T.X4 .nil bW (aa (aO bB (pv 2) az (fun _ _=>rfl)) (aa (pv 5) ao)))))))) (ak (tW tV (Ep (bH hu (pv 0) aC (fun _ _=>rfl)) (pv 1) set_list))
   (aA (bO (cB (Gn T) (hr.mono (by decide):bQ 1 _) (by rfl) T.Iz T.xN.kp T.Iw .nil bW (aa (pv 0) (aa (pv 1) (aa (pv 5) ao))))))) bw)
   (aA (aZ (pv 2))))))) bw)
   (ak (bx (i:=6) gQ.nd rfl (Or.inl rfl) tV)
   (ak (bU (aQ cQ (pv 4) aC (aW _)) (aA (bx (i:=6) gQ.nd rfl (Or.inl rfl) (aO bD (aO bD (bH hu (pv 0) aC (fun _ _=>rfl)) (pv 1) (fun _ _=>rfl)) (pv 3) (fun _ _=>rfl)))) bw)
   (ak (bU (PW.pt (mU (aQ cQ (pv 4) aC (aW _)) (lL (aQ cQ (aO bB (pv 2) az (fun _ _=>rfl)) aC (aW _))))) (aA (tW (aO bB (pv 2) az (fun _ _=>rfl)) (Ep (aO bD (bH hu (pv 0) aC (fun _ _=>rfl)) (pv 1) (fun _ _=>rfl)) (pv 3) set_list))) bw)
   (ak (bO (fB PySem.F.plainAttrs_list PySem.F.slot_list_append PySem.F.type_list_append cG (aO bD (bH hu (pv 0) aC (fun _ _=>rfl)) (pv 1) (fun _ _=>rfl)) (aa (cg (aa aC (aa (pv 3) (aa (pv 6) ao)))) ao)))
   (aA (aZ (pv 2))))))))))),?_⟩
  try dsimp only[dD,Cx.kZ]
  show let Z1:L2.TS:=_;let Z2:L2.TS:=_;let Z3:L2.TS:=_;let Z4:L2.TS:=_;let Z5:L2.TS:=_;let Z6:L2.TS:=_;let Z7:L2.TS:=_;let Z8:L2.TS:=_;let Z9:L2.TS:=aU Z7 (Z8);let yW:L2.TS:=cT _ Z9 bJ;let IV:L2.TS:=_;let IW:L2.TS:=aU Z4 (aU Z5 (aU Z6 (aU yW (IV))));let Nj:L2.TS:=cT _ IW bJ;let Nk:L2.TS:=_;let Yk:L2.TS:=_;let Z16:L2.TS:=cT _ Yk bJ;let Z17:L2.TS:=_;let Z18:L2.TS:=cT _ Z17 bJ;let Z19:L2.TS:=_;let Z20:L2.TS:=_;let D0:Ends:=_;(aU Z1 (aU Z2 (aU Z3 (aU Nj (aU Nk (aU Z16 (aU Z18 (aU Z19 (Z20))))))))) D0 _ _
  intro Z1 Z2 Z3 Z4 Z5 Z6 Z7 Z8 Z9 yW IV IW Nj Nk Yk Z16 Z17 Z18 Z19 Z20 D0
  obtain⟨dv,d1,d2⟩:=M.dn hd
  rw[hdn]at d2
  obtain⟨b,us,rfl,hb,d3⟩:=agV d2
  refine T8 rfl (fu M.bA HR) rfl (cz.of M.downs) (bM hd) ⟨.inl ⟨rfl,_,cz.of d1⟩,A (.dn d),_,0,0,_,rfl,rfl,d1,(by decide),(by decide),amF _ _,rfl,?_⟩
  rw[List.eraseIdx_cons_zero]
  obtain⟨M1,f1⟩:=M.ak1 hd d3
  have hb1:=(f1.tups M) b _ hb
  generalize upd H (A (.dn d)) (.lst us)=H1 at M1 f1 hb1
  generalize hS1:({S with dn:=aF S.dn d r}:TS)=S1 at M1
  have hds:S1.ds=S.ds:=by rw[<-hS1]
  have awT:S1.up=S.up:=by rw[<-hS1]
  have hrw:S1.row=S.row:=by rw[<-hS1]
  have hl1:Ql l.vs 1=some (.int p):=by cases l<;>exact congrArg (fun z=>some (V.int z)) hlp
  have hrt:=M1.rt hd
  rw[hds]at hrt
  refine zt rfl (cW.of hb1) hl1 ?_
  refine T8 rfl (fu M1.bA lO) rfl (cz.of M1.rights) (bM hd) (zl rfl (cz.of hrt) (bM hp) ?_)
  cases l with
  | lend q x y =>
    have hq:q=(p:Int):=hlp
    subst hq
    have hx:x=.rd\/x=.wr:=hni
    refine zt rfl (cW.of hb1) rfl ⟨rfl,_,rfl,?_⟩
    refine bG fJ ?_
    refine zt rfl (cW.of hb1) rfl (T8 rfl (fu M1.bA lO) rfl (cz.of M1.rights) (bM hd) ⟨_,rfl,A (.rt d),_,_,p,rfl,rfl,hrt,wC (by simpa using hp),?_⟩)
    have e1:((List.range m).map fun q:Nat=>V.str ((S.ds d).rt q).s).set p (.str x.s)=(List.range m).map fun q:Nat=>V.str (({S.ds d with rt:=((S.ds d).hold p x y).rt}:DS).rt q).s:=by
     refine yX hp ?_ fun q hq=>?_
     ·show V.str (if(p:Int)=p then x else _).s=_;rw[if_pos rfl]
     ·show V.str (if(q:Int)=p then x else _).s=_;rw[if_neg (by lia)]
    rw[e1]
    obtain⟨M2,f2⟩:=M1.atg hd (D':={S.ds d with rt:=((S.ds d).hold p x y).rt}) (by rw[hds]) (by rw[hds])
    have hb2:=(f2.tups M1) b _ hb1
    have f12:=f1.trans f2 (Mv.refl _ _ _ _)
    generalize upd H1 (A (.rt d)) (.lst ((List.range m).map fun q:Nat=>V.str (({S.ds d with rt:=((S.ds d).hold p x y).rt}:DS).rt q).s))=H2 at M2 f2 hb2 f12
    have hcp:=M2.cp hd
    simp only[aL]at hcp
    refine zt rfl (cW.of hb2) rfl (T8 rfl (fu M2.bA uf) rfl (cz.of M2.copies) (bM hd) ⟨_,rfl,A (.cp d),_,_,p,rfl,rfl,hcp,wC (by simpa using hp),?_⟩)
    have e2:((List.range m).map fun q:Nat=>V.int ((S.ds d).nm q)).set p (.int y)=(List.range m).map fun q:Nat=>V.int (((S.ds d).hold p x y).nm q):=by
     refine yX hp ?_ fun q hq=>?_
     ·show V.int (if(p:Int)=p then y else _)=_;rw[if_pos rfl]
     ·show V.int (if(q:Int)=p then y else _)=_;rw[if_neg (by lia)]
    dsimp only
    rw[e2]
    obtain⟨M3,f3⟩:=M2.awu hd (D':=(S.ds d).hold p x y) (by simp only[aL]) (by simp only[aL];rfl)
    simp only[mz,hds]at M3
    have hb3:=(f3.tups M2) b _ hb2
    have f13:=f12.trans f3 (Mv.refl _ _ _ _)
    generalize upd H2 (A (.cp d)) (.lst ((List.range m).map fun q:Nat=>V.int (((S.ds d).hold p x y).nm q)))=H3 at M3 f3 hb3 f13
    generalize hS3:({S1 with ds:=aF S.ds d ((S.ds d).hold p x y)}:TS)=S3 at M3
    have hd3:S3.ds d=(S.ds d).hold p x y:=by rw[<-hS3];exact aL _ _ _
    obtain⟨wv,w1,w2,w3⟩:=M3.dR
    obtain⟨v,v1,v2⟩:=w3 d hd
    rw[hd3,DS.acZ]at v2
    have hfin:S.Ie d (.lend p x y) r={S3 with ds:=aF S3.ds d ((S.ds d).mC p x y).1,up:=S.up,row:=dg S.row d ((S.ds d).mC p x y).2}:=by
     rw[<-hS3,<-hS1]
     simp only[TS.Ie,TS.jX,DS.ud,mz,List.append_nil,dX]
    refine T8 rfl (fu M3.bA pK) rfl (cz.of w1) (zM v1) ?_
    have none_:((S.ds d).mC p x y)=((S.ds d).hold p x y,[])->bh H3 A n m (S.Ie d (.lend p x y) r) se:=fun e=>by
     rw[hfin,e]
     have:({S3 with ds:=aF S3.ds d ((S.ds d).hold p x y),up:=S.up,row:=dg S.row d []}:TS)=S3:=by
      rw[<-hd3,dX,<-hS3,<-hS1];unfold dg;simp
     rw[this];exact M3
    cases hw:(S.ds d).ws with
    | none =>
      rw[hw]at v2
      have ev:v=.non:=v2
      subst ev
      refine⟨_,rfl,_,rfl,?_⟩
      refine aM rfl (wY ?_)
      exact⟨_,rfl,k b H3 (none_ (by unfold DS.mC;rw[hw])) f13 hb3⟩
    | some w =>
      rw[hw]at v2
      obtain⟨wa,ev,hwa⟩:=v2
      subst ev
      obtain⟨q,hqm,hqp⟩:=hws w hw
      refine⟨_,rfl,_,rfl,?_⟩
      refine bG rfl ?_
      refine zt rfl (cW.of hwa) (W.atZ w) ⟨_,rfl,rfl,_,rfl,?_⟩
      by_cases epg:w.pg=(p:Int)
      ·refine bG (decide_eq_true (by rw[epg])) ?_
       refine zt rfl (cW.of hb3) rfl ⟨_,rfl,x,wa,w,rfl,hwa,_,rfl,?_⟩
       have aiU:((S.ds d).hold p x y).ok w↔w.need.k<=x.k:=by unfold DS.ok;rw[epg,DS.qj]
       by_cases hok:w.need.k<=x.k
       ·refine bG (decide_eq_true hok) ?_
        refine zd rfl (fu M3.bA pK) ⟨_,rfl,A .dR,_,_,d,rfl,rfl,w1,by rw[w2];exact wC hd,?_⟩
        obtain⟨M4,f4⟩:=M3.amP hd (v:=.non) (o:=none) w1 rfl
        rw[hd3]at M4
        have az4:=(f4.tups M3) wa _ hwa
        have hb4:=(f4.tups M3) b _ hb3
        refine⟨_,rfl,_,rfl,_,rfl,A,n,m,_,se,wa,w,d,p,rfl,M4,hd,az4,epg,hp,?_,fun H5 M5 f5=>?_⟩
        ·show S3.row.length<=_;rw[<-hS3];show S1.row.length<=_;rw[hrw];exact hrl
        ·refine⟨_,rfl,k b H5 ?_ ((f13.trans f4 (Mv.refl _ _ _ _)).trans f5 (Mv.refl _ _ _ _)) ((f5.tups M4) b _ hb4)⟩
         have el:(S.ds d).mC p x y=(({(S.ds d).hold p x y with ws:=none}:DS).done w,[(w.m5,w.pg,((S.ds d).hold p x y).num w)]):=by
          unfold DS.mC;rw[hw];dsimp only;rw[if_pos ⟨epg,aiU.mpr hok⟩]
         rw[hfin,el]
         simp only[aL,mz]at M5
         have en:({(S.ds d).hold p x y with ws:=none}:DS).num w=((S.ds d).hold p x y).num w:=by cases w<;>rfl
         have er:S3.row=S.row:=by rw[<-hS3];exact hrw
         have eu:S3.up=S.up:=by rw[<-hS3];exact awT
         rw[en,er]at M5
         have:({S3 with ds:=aF S3.ds d (({(S.ds d).hold p x y with ws:=none}:DS).done w),up:=S.up,row:=dg S.row d [(w.m5,w.pg,((S.ds d).hold p x y).num w)]}:TS)={S3 with ds:=aF S3.ds d (({(S.ds d).hold p x y with ws:=none}:DS).done w),row:=dg S.row d [(w.m5,w.pg,((S.ds d).hold p x y).num w)]}:=by rw[<-eu]
         rw[this]
         exact M5
       ·refine aM (decide_eq_false hok) ?_
        exact⟨_,rfl,k b H3 (none_ (by unfold DS.mC;rw[hw];dsimp only;rw[if_neg fun z=>hok (aiU.mp z.2)])) f13 hb3⟩
      ·refine aM (decide_eq_false fun z=>epg (V.int.inj z)) (wY ?_)
       exact⟨_,rfl,k b H3 (none_ (by unfold DS.mC;rw[hw];dsimp only;rw[if_neg fun z=>epg z.1])) f13 hb3⟩
  | back q x =>
    have hq:q=(p:Int):=hlp
    subst hq
    have hx:x=.rd\/x=.no:=hni
    refine zt rfl (cW.of hb1) rfl ⟨rfl,_,rfl,?_⟩
    refine aM (dm (by decide +kernel)) ?_
    try dsimp only[bJ]
    refine f9 (fun σ' H'=>σ'=[some (.ref (A .bA)),some (.int d),some (.ref b),some (.int p),some (.str ((S.ds d).rt p).s),none,some .non]/\H'=H1) (fun N hN=>hN _ _ ⟨rfl,rfl⟩) ?_
    rintro σ' H1' ⟨rfl,rfl⟩
    try dsimp only[bJ]
    refine f9 (fun σ' H'=>σ'=[some (.ref (A .bA)),some (.int d),some (.ref b),some (.int p),some (.str ((S.ds d).rt p).s),none,some (oV ((S.ds d).kY p))]/\H'=H1') (fun N hN=>?_) ?_
    ·refine⟨_,rfl,rfl,_,rfl,?_⟩
     by_cases e:(S.ds d).rt p=.wr
     ·refine bG (by rw[e];exact fJ) ?_
      have hcp:=M1.cp hd
      rw[hds]at hcp
      refine T8 rfl (fu M1.bA uf) rfl (cz.of M1.copies) (bM hd) (zl rfl (cz.of hcp) (bM hp) ?_)
      refine hN _ _ ⟨?_,rfl⟩
      unfold DS.kY
      rw[if_pos e];rfl
     ·refine aM (oN (x:="write") (q:=.wr) rfl e) ?_
      refine hN _ _ ⟨?_,rfl⟩
      unfold DS.kY
      rw[if_neg e];rfl
    ·rintro σ' awU ⟨rfl,rfl⟩
     try dsimp only[bJ]
     refine f9 (fun σ' H'=>σ'=[some (.ref (A .bA)),some (.int d),some (.ref b),some (.int p),some (.str ((S.ds d).rt p).s),none,some (oV ((S.ds d).kY p))]/\bh H' A n m {S1 with ds:=aF S1.ds d ((S.ds d).down p x)} se/\m6 H H' A n m/\H' b=some (.tup (Let.back p x).vs)) (fun N hN=>?_) ?_
     ·have acs:∀D',D'=(S.ds d).hold p x ((S.ds d).nm p)->D'=(S.ds d).down p x->
       (ase (WL (ail K) (jj 2) (tC (.int 2))) (avW (WL (akO K) (W2 (jj 0) (tC (.str "rights"))) (jj 1)) (jj 3) arq)) {nx:=N,rt:=Q} [some (.ref (A .bA)),some (.int d),some (.ref b),some (.int p),some (.str ((S.ds d).rt p).s),none,some (oV ((S.ds d).kY p))] awU:=fun D' eD eD2=>by
       refine zt rfl (cW.of hb1) rfl (T8 rfl (fu M1.bA lO) rfl (cz.of M1.rights) (bM hd) ⟨_,rfl,A (.rt d),_,_,p,rfl,rfl,hrt,wC (by simpa using hp),?_⟩)
       have e1:((List.range m).map fun q:Nat=>V.str ((S.ds d).rt q).s).set p (.str x.s)=(List.range m).map fun q:Nat=>V.str (D'.rt q).s:=by
        rw[eD]
        refine yX hp ?_ fun q hq=>?_
        ·show V.str (if(p:Int)=p then x else _).s=_;rw[if_pos rfl]
        ·show V.str (if(q:Int)=p then x else _).s=_;rw[if_neg (by lia)]
       rw[e1]
       have enm:D'.nm=(S1.ds d).nm:=by rw[eD,hds];funext q;show(if q=(p:Int)then(S.ds d).nm p else(S.ds d).nm q)=_;split<;>simp_all
       have ews:D'.ws=(S1.ds d).ws:=by rw[eD,hds];rfl
       obtain⟨M2,f2⟩:=M1.atg hd (D':=D') enm ews
       exact hN _ _ ⟨rfl,by rw[<-eD2];exact M2,f1.trans f2 (Mv.refl _ _ _ _),(f2.tups M1) b _ hb1⟩
      have stay:(S.ds d).down p x=S.ds d->N [some (.ref (A .bA)),some (.int d),some (.ref b),some (.int p),some (.str ((S.ds d).rt p).s),none,some (oV ((S.ds d).kY p))] awU:=fun e=>by
       refine hN _ _ ⟨rfl,?_,f1,hb1⟩
       have:({S1 with ds:=aF S1.ds d ((S.ds d).down p x)}:TS)=S1:=by rw[e,<-hds,dX]
       rw[this];exact M1
      refine⟨_,rfl,rfl,_,rfl,?_⟩
      cases hrp:(S.ds d).rt p with
      | wr =>
        refine bG fJ (qt ?_)
        rw[hrp]at acs
        refine acs _ rfl ?_
        unfold DS.down
        rw[hrp,if_neg (by rcases hx with z | z<;>rw[z]<;>decide)]
      | rd =>
        refine aM (oN (x:="write") (q:=.wr) rfl (by intro z;cases z)) ?_
        refine zt rfl (cW.of hb1) rfl ⟨rfl,_,rfl,?_⟩
        rw[hrp]at acs stay
        rcases hx with z | z
        ·subst z
         refine aM (oN (x:="none") (q:=.no) rfl (by intro z;cases z)) ?_
         exact stay (by unfold DS.down;rw[hrp,if_pos (by decide)])
        ·subst z
         refine bG fJ ?_
         exact acs _ rfl (by unfold DS.down;rw[hrp,if_neg (by decide)])
      | no =>
        refine aM (oN (x:="write") (q:=.wr) rfl (by intro z;cases z)) ?_
        refine zt rfl (cW.of hb1) rfl ⟨rfl,_,rfl,?_⟩
        rw[hrp]at acs stay
        rcases hx with z | z
        ·subst z
         refine aM (oN (x:="none") (q:=.no) rfl (by intro z;cases z)) ?_
         exact stay (by unfold DS.down;rw[hrp,if_pos (by decide)])
        ·subst z
         refine bG fJ ?_
         have e0:(S.ds d).down p .no=S.ds d:=by unfold DS.down;rw[hrp,if_pos (by decide)]
         exact acs _ rfl (by rw[e0];exact DS.alc _ _ _ hrp)
     ·rintro σ' H2 ⟨rfl,M2,f2,hb2⟩
      obtain⟨uv,u1,u2⟩:=M2.up hd
      have anh:uv.length<sizeLine:=by rw[u2.length,List.length_map];show(S1.up d).length<_;rw[awT];lia
      refine T8 rfl (fu M2.bA Mh) rfl (cz.of M2.ups) (bM hd) ⟨.inl ⟨rfl,_,cz.of u1⟩,_,rfl,_,rfl,zz3,fun c hc=>?_⟩
      have s3:=aB (o:=.tup [.str "answer",.int p,oV ((S.ds d).kY p)]) hc
      refine⟨A (.up d),uv,_,rfl,rfl,s3 _ _ u1,anh,?_⟩
      have rp:aH (upd H2 c (.tup [.str "answer",.int p,oV ((S.ds d).kY p)])) (uv++[.ref c]) ((S1.up d++[UL.ans p ((S.ds d).kY p)]).map UL.d):=by
       rw[List.map_append]
       exact aH.snoc (u2.aX (bc s3) (bL UL.flat _)) (Ym (l:=.ans p ((S.ds d).kY p)) aj)
      obtain⟨M4,f4⟩:=(M2.same s3).agg hd rp
      refine⟨_,rfl,k b _ ?_ ((f2.trans (m6.of_same (A:=A) s3) (Mv.refl _ _ _ _)).trans f4 (Mv.refl _ _ _ _)) ((f4.tups (M2.same s3)) b _ (s3 _ _ hb2))⟩
      have:S.Ie d (.back p x) r={S1 with ds:=aF S1.ds d ((S.ds d).down p x),up:=aF S1.up d (S1.up d++[UL.ans p ((S.ds d).kY p)])}:=by
       rw[<-hS1]
       simp only[TS.Ie,TS.jX,DS.ud,Int.toNat_natCast,dg]
       simp
      rw[this]
      exact M4
end
end gn
namespace gn
open PySem L2
def cC.dk:cC->Int
 | .look d _=>d
 | .put d _ _=>d
 | .rest d _=>d
 | .up d=>d
 | .down d=>d
def cC.tag:cC->Str
 | .look _ _=>"look"
 | .put _ _ _=>"put"
 | .rest _ _=>"rest"
 | .up _=>"up"
 | .down _=>"down"
theorem cC.at0(x:cC):Ql x.vs 0=some (.str x.tag):=by cases x<;>rfl
theorem cC.at1(x:cC):Ql x.vs 1=some (.int x.dk):=by cases x<;>rfl
def p7(n m:Nat)(S:TS)(x:cC):Str:=if inR x.dk n then(match x with
 | .up d=>bif (S.up d.toNat).isEmpty then "no letter" else ""
 | .down d=>bif (S.dn d.toNat).isEmpty then "no letter" else ""
 | .rest d p=>if inR p m then(bif decide ((S.ds d.toNat).rt p=.no)then "no copy" else "")else "no page"
 | .look d p=>if inR p m then(bif (S.ds d.toNat).ws.isSome then "waiting" else "")else "no page"
 | .put d p _=>if inR p m then(bif (S.ds d.toNat).ws.isSome then "waiting" else "")else "no page")else "no desk"
theorem Yo{x y:Str}{c:Bool}:Ql [V.str x,V.str y] (if c then 1 else 0)=some (.str (bif c then y else x)):=by cases c<;>rfl
def awV:Sp:=fun vs H Q _=>∃A n m S se a x,vs=[.ref (A .bA),.ref a]/\bh H A n m S se/\H a=some (.tup (cC.vs x))/\∀H',bZ H H'->Q (.str (p7 n m S x)) H'
section
variable{P:Program}{w:World}{K:PySem.W.Frag}{mg:Str->Option Value}{base:Heap}{t:JR}
theorem Ur(T:Txt K w mg t):dj P w K mg base oM 1 t.fX t.rH ["_law_town","_law_deed"] awV:=by
 refine T.Gg.ok BZ (fun vs H Q E h=>?_) (fun cdv A outer s H vs Q E hr h=>?_)
 ·obtain⟨A,n,m,S,se,a,x,rfl,_⟩:=h;rfl
 ·obtain⟨A,n,m,S,se,a,x,rfl,M,ha,k⟩:=h
  have hu:=lA hr
  have eus:(("up":Str)++("s":Str))="ups":=by decide +kernel
  have eds:(("down":Str)++("s":Str))="downs":=by decide +kernel
  refine⟨_,(ak (bx (i:=2) BZ.nd rfl (Or.inl rfl) (aO bB (pv 1) az (fun _ _=>rfl)))
   (ak (bU (PW.pt (mU (aQ RZ (pv 2) az (aW _)) (lL (aQ Ls (pv 2) (cX dq (by rfl) T.wA PySem.boot_len (aa (bH hu (pv 0) aC (fun _ _=>rfl)) ao)) (aW _))))) (aA (aZ aC)) bw)
   (ak (bU (PW.pt (mU (aQ cQ (aO bB (pv 1) az (fun _ _=>rfl)) aC (aW _)) (lL (aQ cQ (aO bB (pv 1) az (fun _ _=>rfl)) aC (aW _))))) (aA (aZ (aO bD (bN (aa aC (aa aC ao))) (ig mq (by rfl) T.Nb PyProof.Rows.Boot.«int» (aa (mV (amz hr.aif) (aO bD (bH hu (pv 0) (bF aib (aO bB (pv 1) az (fun _ _=>rfl)) aC) (fun _ _=>rfl)) (pv 2) (fun _ _=>rfl)) (bN ao) (aW _)) ao)) (fun _ _=>rfl)))) bw)
   (ak (bU (PW.pt (mU (aQ RZ (aO bB (pv 1) az (fun _ _=>rfl)) az (aW _)) (lL (aQ Ls (aO bB (pv 1) az (fun _ _=>rfl)) (cX dq (by rfl) T.wA PySem.boot_len (aa (bH hu (pv 0) aC (fun _ _=>rfl)) ao)) (aW _))))) (aA (aZ aC)) bw)
   (ak (bU (aQ cQ (aO bB (pv 1) az (fun _ _=>rfl)) aC (aW _)) (aA (aZ (aO bD (bN (aa aC (aa aC ao))) (ig mq (by rfl) T.Nb PyProof.Rows.Boot.«int» (aa (mV cQ (aO bD (aO bD (bH hu (pv 0) aC (fun _ _=>rfl)) (pv 2) (fun _ _=>rfl)) (aO bB (pv 1) az (fun _ _=>rfl)) (fun _ _=>rfl)) aC (aW _)) ao)) (fun _ _=>rfl)))) bw)
   (aA (aZ (aO bD (bN (aa aC (aa aC ao))) (ig mq (by rfl) T.Nb PyProof.Rows.Boot.«int» (aa (al1 (vD (aO bD (bH hu (pv 0) aC (fun _ _=>rfl)) (pv 2) (fun _ _=>rfl)))) ao)) (fun _ _=>rfl))))))))),?_⟩
  try dsimp only[dD,Cx.kZ]
  show let Z1:L2.TS:=_;let Z2:L2.TS:=_;let Z3:L2.TS:=cT _ Z2 bJ;let Z4:L2.TS:=_;let Z5:L2.TS:=cT _ Z4 bJ;let Z6:L2.TS:=_;let Z7:L2.TS:=cT _ Z6 bJ;let Z8:L2.TS:=_;let Z9:L2.TS:=cT _ Z8 bJ;let yW:L2.TS:=_;let D0:Ends:=_;(aU Z1 (aU Z3 (aU Z5 (aU Z7 (aU Z9 (yW)))))) D0 _ _
  intro Z1 Z2 Z3 Z4 Z5 Z6 Z7 Z8 Z9 yW D0
  obtain⟨ws,w1,w2,w3⟩:=M.dR
  refine zt rfl (cW.of ha) (cC.at1 x) ?_
  refine⟨_,rfl,_,_,rfl,rfl,_,rfl,?_⟩
  have anj:¬inR x.dk n->Q (.str "no desk") H:=fun h=>by
   have:=k H (bZ.refl _)
   unfold p7 at this
   rw[if_neg h]at this
   exact this
  by_cases h0:x.dk<0
  ·refine bG (decide_eq_true h0) (qt ?_)
   exact anj fun h=>by unfold inR at h;lia
  ·refine aM (decide_eq_false h0) ?_
   refine⟨_,rfl,zd rfl (fu M.bA pK) ⟨A .dR,ws,rfl,.inl (cz.of w1),_,_,rfl,rfl,_,rfl,?_⟩⟩
   rw[w2]
   by_cases h1:(n:Int)<=x.dk
   ·refine bG (decide_eq_true h1) ?_
    exact anj fun h=>by unfold inR at h;lia
   ·refine aM (decide_eq_false h1) ?_
    have hin:inR x.dk n:=⟨by lia,by lia⟩
    have k':=k
    unfold p7 at k'
    rw[if_pos hin]at k'
    obtain⟨d,hd⟩:∃d:Nat,x.dk=(d:Int):=⟨x.dk.toNat,by lia⟩
    have hdn:d<n:=by lia
    rw[hd]
    cases x with
    | up d' =>
      have e:d'=(d:Int):=hd
      subst e
      simp only[Int.toNat_natCast]at k'
      refine zt rfl (cW.of ha) rfl ⟨rfl,_,rfl,?_⟩
      refine bG fJ (qt ?_)
      obtain⟨uv,u1,u2⟩:=M.up hdn
      refine⟨vA,fun z hz=>?_⟩
      have s1:=aB (o:=.lst [.str "",.str "no letter"]) hz
      refine⟨_,rfl,zt rfl (cW.of (s1 _ _ ha)) rfl ⟨_,_,rfl,rfl,(by decide +kernel),A .bA,.ref (A .ups),rfl,(by rw[eus];exact fu (s1 _ _ M.bA) Mh),zl rfl (cz.of (s1 _ _ M.ups)) (bM hdn) ⟨Eo,fun e he=>?_⟩⟩⟩
      have s2:=aB (o:=.lst []) he
      refine⟨A (.up d),e,uv,rfl,rfl,cz.of (s2 _ _ (s1 _ _ u1)),cz.of aj,.inr ⟨_,rfl,z,_,_,_,rfl,rfl,cz.of (s2 _ _ aj),Yo,?_⟩⟩
      have eu:uv.isEmpty=(S.up d).isEmpty:=by rw[gn.aH.isEmpty u2];cases S.up d<;>rfl
      have:=k' _ (s1.trans s2)
      rw[<-eu]at this
      exact this
    | down d' =>
      have e:d'=(d:Int):=hd
      subst e
      simp only[Int.toNat_natCast]at k'
      refine zt rfl (cW.of ha) rfl ⟨rfl,_,rfl,?_⟩
      refine aM (dm (show("down":Str)≠"up" by decide +kernel)) ?_
      refine zt rfl (cW.of ha) rfl ⟨rfl,_,rfl,?_⟩
      refine bG fJ ?_
      obtain⟨uv,u1,u2⟩:=M.dn hdn
      refine⟨vA,fun z hz=>?_⟩
      have s1:=aB (o:=.lst [.str "",.str "no letter"]) hz
      refine⟨_,rfl,zt rfl (cW.of (s1 _ _ ha)) rfl ⟨_,_,rfl,rfl,(by decide +kernel),A .bA,.ref (A .downs),rfl,(by rw[eds];exact fu (s1 _ _ M.bA) HR),zl rfl (cz.of (s1 _ _ M.downs)) (bM hdn) ⟨Eo,fun e he=>?_⟩⟩⟩
      have s2:=aB (o:=.lst []) he
      refine⟨A (.dn d),e,uv,rfl,rfl,cz.of (s2 _ _ (s1 _ _ u1)),cz.of aj,.inr ⟨_,rfl,z,_,_,_,rfl,rfl,cz.of (s2 _ _ aj),Yo,?_⟩⟩
      have eu:uv.isEmpty=(S.dn d).isEmpty:=by rw[gn.aH.isEmpty u2];cases S.dn d<;>rfl
      have:=k' _ (s1.trans s2)
      rw[<-eu]at this
      exact this
    | rest d' y =>
      have e:d'=(d:Int):=hd
      subst e
      simp only[Int.toNat_natCast]at k'
      refine zt rfl (cW.of ha) rfl ⟨rfl,_,rfl,?_⟩
      refine aM (dm (show("rest":Str)≠"up" by decide +kernel)) ?_
      refine zt rfl (cW.of ha) rfl ⟨rfl,_,rfl,?_⟩
      refine aM (dm (show("rest":Str)≠"down" by decide +kernel)) ?_
      refine zt rfl (cW.of ha) rfl ⟨_,_,rfl,rfl,_,rfl,?_⟩
      by_cases h2:y<0
      ·refine bG (decide_eq_true h2) (qt ?_)
       have:=k' H (bZ.refl _)
       rw[if_neg (fun h=>by unfold inR at h;lia)]at this
       exact this
      ·refine aM (decide_eq_false h2) ?_
       refine zt rfl (cW.of ha) rfl (zd rfl (fu M.bA jY) ⟨A .cV,_,rfl,.inl (cz.of M.cV),_,_,rfl,rfl,_,rfl,?_⟩)
       rw[List.length_map,List.length_range]
       by_cases h3:(m:Int)<=y
       ·refine bG (decide_eq_true h3) ?_
        have:=k' H (bZ.refl _)
        rw[if_neg (fun h=>by unfold inR at h;lia)]at this
        exact this
       ·refine aM (decide_eq_false h3) ?_
        have hy:inR y m:=⟨by lia,by lia⟩
        obtain⟨p,hp⟩:∃p:Nat,y=(p:Int):=⟨y.toNat,by lia⟩
        subst hp
        have hpm:p<m:=by lia
        rw[if_pos hy]at k'
        refine zt rfl (cW.of ha) rfl ⟨rfl,_,rfl,?_⟩
        refine bG fJ ?_
        refine⟨vA,fun z hz=>?_⟩
        have s1:=aB (o:=.lst [.str "",.str "no copy"]) hz
        refine T8 rfl (fu (s1 _ _ M.bA) lO) rfl (cz.of (s1 _ _ M.rights)) (bM hdn) (zt rfl (cW.of (s1 _ _ ha)) rfl ⟨A (.rt d),_,p,_,rfl,rfl,cz.of (s1 _ _ (M.rt hdn)),bM hpm,rfl,.inr ⟨_,rfl,z,_,_,_,rfl,rfl,cz.of aj,Yo,?_⟩⟩)
        have:=k' _ s1
        have er:decide (V.str ((S.ds d).rt p).s=V.str "none")=decide ((S.ds d).rt p=.no):=by
         by_cases e:(S.ds d).rt p=.no
         ·rw[e];rfl
         ·rw[oN (x:="none") (q:=.no) rfl e,decide_eq_false e]
        rw[<-er]at this
        exact this
    | look d' y =>
      have e:d'=(d:Int):=hd
      subst e
      simp only[Int.toNat_natCast]at k'
      refine zt rfl (cW.of ha) rfl ⟨rfl,_,rfl,?_⟩
      refine aM (dm (show("look":Str)≠"up" by decide +kernel)) ?_
      refine zt rfl (cW.of ha) rfl ⟨rfl,_,rfl,?_⟩
      refine aM (dm (show("look":Str)≠"down" by decide +kernel)) ?_
      refine zt rfl (cW.of ha) rfl ⟨_,_,rfl,rfl,_,rfl,?_⟩
      by_cases h2:y<0
      ·refine bG (decide_eq_true h2) (qt ?_)
       have:=k' H (bZ.refl _)
       rw[if_neg (fun h=>by unfold inR at h;lia)]at this
       exact this
      ·refine aM (decide_eq_false h2) ?_
       refine zt rfl (cW.of ha) rfl (zd rfl (fu M.bA jY) ⟨A .cV,_,rfl,.inl (cz.of M.cV),_,_,rfl,rfl,_,rfl,?_⟩)
       rw[List.length_map,List.length_range]
       by_cases h3:(m:Int)<=y
       ·refine bG (decide_eq_true h3) ?_
        have:=k' H (bZ.refl _)
        rw[if_neg (fun h=>by unfold inR at h;lia)]at this
        exact this
       ·refine aM (decide_eq_false h3) ?_
        have hy:inR y m:=⟨by lia,by lia⟩
        rw[if_pos hy]at k'
        refine zt rfl (cW.of ha) rfl ⟨rfl,_,rfl,?_⟩
        refine aM (dm (show("look":Str)≠"rest" by decide +kernel)) ?_
        refine⟨vA,fun z hz=>?_⟩
        have s1:=aB (o:=.lst [.str "",.str "waiting"]) hz
        obtain⟨v,v1,v2⟩:=w3 d hdn
        have ev:(!decide (v=V.non))=(S.ds d).ws.isSome:=by
         cases hws:(S.ds d).ws with
         | none=>rw[hws]at v2;have e:v=.non:=v2;rw[e];rfl
         | some w'=>rw[hws]at v2;obtain⟨a',e,_⟩:=v2;rw[e];rfl
        refine T8 rfl (fu (s1 _ _ M.bA) pK) rfl (cz.of (s1 _ _ w1)) (zM v1) (.inr ⟨_,rfl,z,_,_,_,rfl,rfl,cz.of aj,Yo,?_⟩)
        have:=k' _ s1
        rw[<-ev]at this
        exact this
    | put d' y q =>
      have e:d'=(d:Int):=hd
      subst e
      simp only[Int.toNat_natCast]at k'
      refine zt rfl (cW.of ha) rfl ⟨rfl,_,rfl,?_⟩
      refine aM (dm (show("put":Str)≠"up" by decide +kernel)) ?_
      refine zt rfl (cW.of ha) rfl ⟨rfl,_,rfl,?_⟩
      refine aM (dm (show("put":Str)≠"down" by decide +kernel)) ?_
      refine zt rfl (cW.of ha) rfl ⟨_,_,rfl,rfl,_,rfl,?_⟩
      by_cases h2:y<0
      ·refine bG (decide_eq_true h2) (qt ?_)
       have:=k' H (bZ.refl _)
       rw[if_neg (fun h=>by unfold inR at h;lia)]at this
       exact this
      ·refine aM (decide_eq_false h2) ?_
       refine zt rfl (cW.of ha) rfl (zd rfl (fu M.bA jY) ⟨A .cV,_,rfl,.inl (cz.of M.cV),_,_,rfl,rfl,_,rfl,?_⟩)
       rw[List.length_map,List.length_range]
       by_cases h3:(m:Int)<=y
       ·refine bG (decide_eq_true h3) ?_
        have:=k' H (bZ.refl _)
        rw[if_neg (fun h=>by unfold inR at h;lia)]at this
        exact this
       ·refine aM (decide_eq_false h3) ?_
        have hy:inR y m:=⟨by lia,by lia⟩
        rw[if_pos hy]at k'
        refine zt rfl (cW.of ha) rfl ⟨rfl,_,rfl,?_⟩
        refine aM (dm (show("put":Str)≠"rest" by decide +kernel)) ?_
        refine⟨vA,fun z hz=>?_⟩
        have s1:=aB (o:=.lst [.str "",.str "waiting"]) hz
        obtain⟨v,v1,v2⟩:=w3 d hdn
        have ev:(!decide (v=V.non))=(S.ds d).ws.isSome:=by
         cases hws:(S.ds d).ws with
         | none=>rw[hws]at v2;have e:v=.non:=v2;rw[e];rfl
         | some w'=>rw[hws]at v2;obtain⟨a',e,_⟩:=v2;rw[e];rfl
        refine T8 rfl (fu (s1 _ _ M.bA) pK) rfl (cz.of (s1 _ _ w1)) (zM v1) (.inr ⟨_,rfl,z,_,_,_,rfl,rfl,cz.of aj,Yo,?_⟩)
        have:=k' _ s1
        rw[<-ev]at this
        exact this
end
end gn
namespace gn
open PySem L2
theorem adG{x:Str}(h:x≠""):(!decide (V.str x=V.str ""))=true:=by rw[dm h];rfl
def at3:Sp:=fun vs H Q _=>∃A n m S se a x t,vs=[.ref (A .bA),.ref a]/\bh H A n m S se/\H a=some (.tup (cC.vs x))/\jx n m S/\Bd t S se/\t<=1500/\
 ∀v A' H',bh H' A' n m (S.step n m x).1 (se++S.lC n x)->m6 H H' A n m->Mv H A A' n m->Rep H' v (S.step n m x).2->Q v H'
theorem agW{n m:Nat}{S:TS}{x:cC}(h:p7 n m S x≠""):S.step n m x=(S,.s (p7 n m S x))/\S.lC n x=[]:=by
 unfold p7 at h ⊢
 by_cases hd:inR x.dk n
 ·rw[if_pos hd]at h ⊢
  cases x with
  | up d =>
    have hd':inR d n:=hd
    simp only[TS.step,TS.lC,if_pos hd',TS.upD]at h ⊢
    cases e:S.up d.toNat with
    | nil=>exact⟨rfl,rfl⟩
    | cons l r=>rw[e]at h;exact absurd rfl h
  | down d =>
    have hd':inR d n:=hd
    simp only[TS.step,TS.lC,if_pos hd',TS.Xb]at h ⊢
    cases e:S.dn d.toNat with
    | nil=>exact⟨rfl,trivial⟩
    | cons l r=>rw[e]at h;exact absurd rfl h
  | rest d p =>
    have hd':inR d n:=hd
    simp only[TS.step,TS.lC,if_pos hd']at h ⊢
    by_cases hp:inR p m
    ·simp only[if_pos hp]at h ⊢
     by_cases e:(S.ds d.toNat).rt p=.no
     ·simp only[if_pos e,decide_eq_true e,cond_true];exact⟨trivial,trivial⟩
     ·rw[decide_eq_false e]at h;exact absurd rfl h
    ·simp only[if_neg hp];exact⟨trivial,trivial⟩
  | look d p =>
    have hd':inR d n:=hd
    simp only[TS.step,TS.lC,if_pos hd']at h ⊢
    by_cases hp:inR p m
    ·simp only[if_pos hp]at h ⊢
     cases e:(S.ds d.toNat).ws with
     | none=>rw[e]at h;exact absurd rfl h
     | some w=>unfold TS.wish;rw[e];exact⟨rfl,trivial⟩
    ·simp only[if_neg hp];exact⟨trivial,trivial⟩
  | put d p y =>
    have hd':inR d n:=hd
    simp only[TS.step,TS.lC,if_pos hd']at h ⊢
    by_cases hp:inR p m
    ·simp only[if_pos hp]at h ⊢
     cases e:(S.ds d.toNat).ws with
     | none=>rw[e]at h;exact absurd rfl h
     | some w=>unfold TS.wish;rw[e];exact⟨rfl,trivial⟩
    ·simp only[if_neg hp];exact⟨trivial,trivial⟩
 ·rw[if_neg hd]at h ⊢
  cases x<;>(simp only[cC.dk]at hd;simp[TS.step,TS.lC,hd])
theorem aiV{n m:Nat}{S:TS}{x:cC}(h:p7 n m S x=""):inR x.dk n/\(match x with
 | .up d=>S.up d.toNat≠[]
 | .down d=>S.dn d.toNat≠[]
 | .rest d p=>inR p m/\(S.ds d.toNat).rt p≠.no
 | .look d p=>inR p m/\(S.ds d.toNat).ws=none
 | .put d p _=>inR p m/\(S.ds d.toNat).ws=none):=by
 have nd:("no desk":Str)≠"":=by decide +kernel
 have np:("no page":Str)≠"":=by decide +kernel
 have nl:("no letter":Str)≠"":=by decide +kernel
 have nc:("no copy":Str)≠"":=by decide +kernel
 have nw:("waiting":Str)≠"":=by decide +kernel
 unfold p7 at h
 by_cases hd:inR x.dk n
 ·rw[if_pos hd]at h
  refine⟨hd,?_⟩
  cases x with
  | up d=>intro e;dsimp only at h;rw[e]at h;exact nl h
  | down d=>intro e;dsimp only at h;rw[e]at h;exact nl h
  | rest d p =>
    dsimp only at h ⊢
    by_cases hp:inR p m
    ·rw[if_pos hp]at h
     refine⟨hp,fun e=>?_⟩
     rw[decide_eq_true e]at h
     exact nc h
    ·rw[if_neg hp]at h;exact absurd h np
  | look d p =>
    dsimp only at h ⊢
    by_cases hp:inR p m
    ·rw[if_pos hp]at h
     refine⟨hp,?_⟩
     cases e:(S.ds d.toNat).ws with
     | none=>rfl
     | some w=>rw[e]at h;exact absurd h nw
    ·rw[if_neg hp]at h;exact absurd h np
  | put d p y =>
    dsimp only at h ⊢
    by_cases hp:inR p m
    ·rw[if_pos hp]at h
     refine⟨hp,?_⟩
     cases e:(S.ds d.toNat).ws with
     | none=>rfl
     | some w=>rw[e]at h;exact absurd h nw
    ·rw[if_neg hp]at h;exact absurd h np
 ·rw[if_neg hd]at h;exact absurd h nd
theorem Bd.room{t:Nat}{S:TS}{se:List (Nat×Let)}(b:Bd t S se)(ht:t<=1500){k:Nat}(hk:k<=6000000):Cj S se k:=by
 have:=arA ht
 exact⟨fun d=>by have:=b.dn d;lia,by have:=b.se;lia⟩
theorem akg{H:Hp}{b:Addr}{l:Let}(h:H b=some (.tup l.vs)):Rep H (.ref b) l.d:=by
 cases l with
 | lend p x y=>simp only[Let.d,Rep,aH];exact⟨b,_,rfl,h,_,_,rfl,rfl,_,_,rfl,rfl,_,_,rfl,rfl,_,_,rfl,rfl,rfl⟩
 | back p x=>simp only[Let.d,Rep,aH];exact⟨b,_,rfl,h,_,_,rfl,rfl,_,_,rfl,rfl,_,_,rfl,rfl,rfl⟩
def wd(d:Int):W->cC
 | .look p=>.look d p
 | .put p x=>.put d p x
def acu(S:DS):W->D
 | .look p=>.i (S.nm p)
 | .put _ _=>.s "done"
theorem az6(w:W):w.vs=.str w.tag::w.vs.tail:=by cases w<;>rfl
theorem awW(w:W):w.vs.tail≠[]:=by cases w<;>simp[W.vs]
theorem ank(d:Int)(w:W):Ql (wd d w).vs 2=some (.int w.pg):=by cases w<;>rfl
theorem at4(d:Int)(w:W):Qq (wd d w).vs (some 2) none=w.vs.tail:=by cases w<;>rfl
theorem awX(d:Int)(w:W):¬(HT.mR (wd d w).vs.length 0 (some 2)=0/\HT.mR (wd d w).vs.length (wd d w).vs.length none=(wd d w).vs.length):=by
 cases w with
 | look p=>intro h;exact absurd (show HT.mR 3 0 (some 2)=0 from h.1) (by decide)
 | put p x=>intro h;exact absurd (show HT.mR 4 0 (some 2)=0 from h.1) (by decide)
theorem at5(d:Int)(w:W):(wd d w).tag=w.tag:=by cases w<;>rfl
theorem awY(d:Int)(w:W):(wd d w).dk=d:=by cases w<;>rfl
theorem at6(d:Int)(w:W):[V.str w.tag].length+w.vs.tail.length<=sizeLine:=by
 cases w with
 | look p=>show 2<=16777216;decide
 | put p x=>show 3<=16777216;decide
theorem awZ(w:W):w.tag≠"up":=by
 cases w with
 | look p=>show("look":Str)≠"up";decide +kernel
 | put p x=>show("put":Str)≠"up";decide +kernel
theorem apu(w:W):w.tag≠"down":=by
 cases w with
 | look p=>show("look":Str)≠"down";decide +kernel
 | put p x=>show("put":Str)≠"down";decide +kernel
theorem apv(w:W):w.tag≠"rest":=by
 cases w with
 | look p=>show("look":Str)≠"rest";decide +kernel
 | put p x=>show("put":Str)≠"rest";decide +kernel
theorem akh{n m:Nat}{S:TS}{d p:Nat}{w:W}(hd:d<n)(hp:p<m)(hw:w.pg=(p:Int))(h0:(S.ds d).ws=none) :
 S.step n m (wd d w)=(S.jX d ((S.ds d).gZ w p),if(S.ds d).ok w then acu (S.ds d) w else .s "waits")/\S.lC n (wd d w)=[]:=by
 have h1:inR (d:Int) n:=⟨by lia,by lia⟩
 have h2:inR w.pg m:=by rw[hw];exact⟨by lia,by lia⟩
 cases w with
 | look y =>
   have hy:y=(p:Int):=hw
   subst hy
   have h2':inR (p:Int) m:=h2
   simp only[wd,TS.step,TS.lC,if_pos h1,if_pos h2',Int.toNat_natCast,TS.wish,h0,acu]
   exact⟨trivial,trivial⟩
 | put y x =>
   have hy:y=(p:Int):=hw
   subst hy
   have h2':inR (p:Int) m:=h2
   simp only[wd,TS.step,TS.lC,if_pos h1,if_pos h2',Int.toNat_natCast,TS.wish,h0,acu]
   exact⟨trivial,trivial⟩
theorem aw0{n m:Nat}{S:TS}{d:Int}{w:W}(h:p7 n m S (wd d w)=""):inR d n/\inR w.pg m/\(S.ds d.toNat).ws=none:=by
 cases w with
 | look p=>exact aiV (x:=.look d p) h
 | put p x=>exact aiV (x:=.put d p x) h
section
variable{P:Program}{w:World}{K:PySem.W.Frag}{mg:Str->Option Value}{base:Heap}{t:JR}
theorem aaR(T:Txt K w mg t):dj P w K mg base oM 4 t.iM t.xH ["_law_town","_law_deed"] at3:=by
 refine T.M8.ok jw (fun vs H Q E h=>?_) (fun cdv A outer s H vs Q E hr h=>?_)
 ·obtain⟨A,n,m,S,se,a,x,tt,rfl,_⟩:=h;rfl
 ·obtain⟨A,n,m,S,se,a,x,tt,rfl,M,ha,I,B,ht,k⟩:=h
  have hu:=lA hr
  have sl:sizeLine=16777216:=by decide
  refine⟨_,(ak (bx (i:=2) jw.nd rfl (Or.inl rfl) (cB (Ur T) (hr.mono (by decide):bQ 1 _) (by rfl) T.X7 T.Gg.kp T.X6 .nil bW (aa (pv 0) (aa (pv 1) ao))))
   (ak (bU (aQ tZ (pv 2) aC (aW _)) (aA (aZ (pv 2))) bw)
   (ak (bx (i:=3) jw.nd rfl (Or.inl rfl) (aO bB (pv 1) az (fun _ _=>rfl)))
   (ak (bU (aQ cQ (aO bB (pv 1) az (fun _ _=>rfl)) aC (aW _)) (aA (aZ (cB (adF T) (hr.mono (by decide):bQ 3 _) (by rfl) T.agR T.Sg.kp T.agQ .nil bW (aa (pv 0) (aa (pv 3) ao))))) bw)
   (ak (bU (aQ cQ (aO bB (pv 1) az (fun _ _=>rfl)) aC (aW _)) (aA (aZ (cB (Yn T) (hr.mono (by decide):bQ 2 _) (by rfl) T.aaL T.IK.kp T.aaK .nil bW (aa (pv 0) (aa (pv 3) ao))))) bw)
   (ak (bx (i:=4) jw.nd rfl (Or.inl rfl) (aO bD (aO bD (bH hu (pv 0) aC (fun _ _=>rfl)) (pv 3) (fun _ _=>rfl)) (aO bB (pv 1) az (fun _ _=>rfl)) (fun _ _=>rfl)))
   (ak (bU (aQ cQ (aO bB (pv 1) az (fun _ _=>rfl)) aC (aW _)) (ak (bU (aQ cQ (pv 4) aC (aW _)) (aA (bO (fB PySem.F.plainAttrs_list PySem.F.slot_list_append PySem.F.type_list_append cG (aO bD (bH hu (pv 0) aC (fun _ _=>rfl)) (pv 3) (fun _ _=>rfl)) (aa (cg (aa aC (aa (aO bB (pv 1) az (fun _ _=>rfl)) (aa (aO bD (aO bD (bH hu (pv 0) aC (fun _ _=>rfl)) (pv 3) (fun _ _=>rfl)) (aO bB (pv 1) az (fun _ _=>rfl)) (fun _ _=>rfl)) ao)))) ao)))) bw)
   (ak (tW aC (Ep (aO bD (bH hu (pv 0) aC (fun _ _=>rfl)) (pv 3) (fun _ _=>rfl)) (aO bB (pv 1) az (fun _ _=>rfl)) set_list))
   (aA (aZ aC)))) bw)
   (ak (bx (i:=5) jw.nd rfl (Or.inl rfl) (bF aoQ (cg (aa (aO bB (pv 1) az (fun _ _=>rfl)) ao)) (WX amf (pv 1) (acQ az) acP)))
   (ak (bU (jO (cB (Sq T) (hr.mono (by decide):bQ 1 _) (by rfl) T.X5 T.JZ.kp T.X4 .nil bW (aa (pv 4) (aa (pv 5) ao)))) (ak (bx (i:=6) jw.nd rfl (Or.inl rfl) (cB (Gn T) (hr.mono (by decide):bQ 1 _) (by rfl) T.Iz T.xN.kp T.Iw .nil bW (aa (pv 0) (aa (pv 3) (aa (pv 5) ao)))))
   (aA (aZ (aO bD (bN (aa (pv 6) (aa aC ao))) (ig mq (by rfl) T.Nb PyProof.Rows.Boot.«int» (aa (mV cQ (aO bB (pv 1) az (fun _ _=>rfl)) aC (aW _)) ao)) (fun _ _=>rfl))))) bw)
   (ak (tW (pv 5) (Ep (bH hu (pv 0) aC (fun _ _=>rfl)) (pv 3) set_list))
   (ak (bO (fB PySem.F.plainAttrs_list PySem.F.slot_list_append PySem.F.type_list_append cG (aO bD (bH hu (pv 0) aC (fun _ _=>rfl)) (pv 3) (fun _ _=>rfl)) (aa (cg (aa aC (aa (aO bB (pv 1) az (fun _ _=>rfl)) (aa (aO bD (bN (aa aC (aa aC ao))) (ig mq (by rfl) T.Nb PyProof.Rows.Boot.«int» (aa (mV cQ (aO bB (pv 1) az (fun _ _=>rfl)) aC (aW _)) ao)) (fun _ _=>rfl)) ao)))) ao)))
   (aA (aZ aC))))))))))))),?_⟩
  try dsimp only[dD,Cx.kZ]
  show let Z1:L2.TS:=_;let Z2:L2.TS:=_;let Z3:L2.TS:=cT _ Z2 bJ;let Z4:L2.TS:=_;let Z5:L2.TS:=_;let Z6:L2.TS:=cT _ Z5 bJ;let Z7:L2.TS:=_;let Z8:L2.TS:=cT _ Z7 bJ;let Z9:L2.TS:=_;let yW:L2.TS:=_;let IV:L2.TS:=cT _ yW bJ;let IW:L2.TS:=_;let Nj:L2.TS:=_;let Nk:L2.TS:=aU IV (aU IW (Nj));let Yk:L2.TS:=cT _ Nk bJ;let Z16:L2.TS:=_;let Z17:L2.TS:=_;let Z18:L2.TS:=_;let Z19:L2.TS:=aU Z17 (Z18);let Z20:L2.TS:=cT _ Z19 bJ;let Z21:L2.TS:=_;let Z22:L2.TS:=_;let Z23:L2.TS:=_;let D0:Ends:=_;(aU Z1 (aU Z3 (aU Z4 (aU Z6 (aU Z8 (aU Z9 (aU Yk (aU Z16 (aU Z20 (aU Z21 (aU Z22 (Z23)))))))))))) D0 _ _
  intro Z1 Z2 Z3 Z4 Z5 Z6 Z7 Z8 Z9 yW IV IW Nj Nk Yk Z16 Z17 Z18 Z19 Z20 Z21 Z22 Z23 D0
  refine⟨_,rfl,_,rfl,A,n,m,S,se,a,x,rfl,M,ha,fun H1 s1=>?_⟩
  have M1:=M.same s1
  have f1:m6 H H1 A n m:=m6.of_same s1
  have ha1:=s1 _ _ ha
  refine⟨_,rfl,rfl,_,rfl,?_⟩
  by_cases hw:p7 n m S x=""
  ·refine aM (by rw[hw];rfl) ?_
   obtain⟨hdk,hx⟩:=aiV hw
   obtain⟨d,hd⟩:∃d:Nat,x.dk=(d:Int):=⟨x.dk.toNat,by unfold inR at hdk;lia⟩
   have hdn:d<n:=by unfold inR at hdk;lia
   rw[hw]
   refine zt rfl (cW.of ha1) (cC.at1 x) ?_
   rw[hd]
   by_cases hwd:∃d' w,x=wd d' w
   ·obtain⟨d',w,rfl⟩:=hwd
    have e:d'=(d:Int):=by rw[awY]at hd;exact hd
    subst e
    obtain⟨_,hy,hno⟩:=aw0 hw
    simp only[Int.toNat_natCast]at hno
    obtain⟨p,hp⟩:∃p:Nat,w.pg=(p:Int):=⟨w.pg.toNat,by unfold inR at hy;lia⟩
    have hpm:p<m:=by unfold inR at hy;lia
    obtain⟨est,ese⟩:=akh (S:=S) hdn hpm hp hno
    rw[est,ese,List.append_nil]at k
    have a0:Ql (wd d w).vs 0=some (.str w.tag):=by rw[<-at5 d w];exact cC.at0 _
    have hrow:=B.row
    have aw3:=B.up d
    refine zt rfl (cW.of ha1) a0 ⟨rfl,_,rfl,?_⟩
    refine aM (dm (awZ w)) ?_
    refine zt rfl (cW.of ha1) a0 ⟨rfl,_,rfl,?_⟩
    refine aM (dm (apu w)) ?_
    refine T8 rfl (fu M1.bA lO) rfl (cz.of M1.rights) (bM hdn) (zt rfl (cW.of ha1) (ank _ _) ⟨A (.rt d),_,p,_,rfl,by rw[hp],cz.of (M1.rt hdn),bM hpm,?_⟩)
    refine zt rfl (cW.of ha1) a0 ⟨rfl,_,rfl,?_⟩
    refine aM (dm (apv w)) ?_
    refine zt rfl (cW.of ha1) a0 ⟨zz1,fun z1 hz1=>?_⟩
    have s2:=aB (o:=.tup [.str w.tag]) hz1
    have aw4:upd H1 z1 (.tup [.str w.tag]) z1=some (.tup [.str w.tag]):=aj
    generalize upd H1 z1 (.tup [.str w.tag])=H2 at s2 aw4
    refine⟨_,rfl,_,rfl,a,_,rfl,cW.of (s2 _ _ ha1),awX _ _,fun z2 hz2=>?_⟩
    rw[at4]
    have s3:=aB (o:=.tup w.vs.tail) hz2
    have aw5:upd H2 z2 (.tup w.vs.tail) z2=some (.tup w.vs.tail):=aj
    generalize upd H2 z2 (.tup w.vs.tail)=H3 at s3 aw5
    refine⟨z1,z2,[.str w.tag],w.vs.tail,rfl,rfl,cW.of (s3 _ _ aw4),cW.of aw5,by simp,at6 d w,fun z=>absurd z (awW w),fun _ z3 hz3=>?_⟩
    have ew:[V.str w.tag]++w.vs.tail=w.vs:=(az6 w).symm
    rw[ew]
    have s4:=aB (o:=.tup w.vs) hz3
    have apw:upd H3 z3 (.tup w.vs) z3=some (.tup w.vs):=aj
    generalize upd H3 z3 (.tup w.vs)=H4 at s4 apw
    have sA:=(s2.trans s3).trans s4
    have M4:=M1.same sA
    have f4:=f1.trans (m6.of_same (A:=A) sA) (Mv.refl _ _ _ _)
    have ha4:=sA _ _ ha1
    refine⟨_,rfl,_,rfl,(S.ds d).rt p,z3,w,rfl,apw,_,rfl,?_⟩
    have aiU:(S.ds d).ok w↔w.need.k<=((S.ds d).rt p).k:=by unfold DS.ok;rw[hp]
    by_cases hok:w.need.k<=((S.ds d).rt p).k
    ·refine bG (decide_eq_true hok) ?_
     rw[if_pos (aiU.mpr hok)]at k
     refine⟨_,rfl,_,rfl,_,rfl,A,n,m,S,se,z3,w,d,p,rfl,M4,hdn,apw,hp,hpm,(by lia),fun H5 M5 f5=>?_⟩
     have ha5:=(f5.tups M4) a _ ha4
     refine⟨_,rfl,vA,fun z4 hz4=>?_⟩
     have s6:=aB (o:=.lst [.int ((S.ds d).num w),.str "done"]) hz4
     have ewr:(S.ds d).gZ w p=((S.ds d).done w,[(w.m5,w.pg,(S.ds d).num w)],[]):=by unfold DS.gZ;rw[if_pos (aiU.mpr hok)]
     have M6:bh (upd H5 z4 (.lst [.int ((S.ds d).num w),.str "done"])) A n m (S.jX d ((S.ds d).gZ w p)) se:=by
      have:=M5.same s6
      rw[ewr]
      have e:S.jX d ((S.ds d).done w,[(w.m5,w.pg,(S.ds d).num w)],[])={S with ds:=aF S.ds d ((S.ds d).done w),row:=dg S.row d [(w.m5,w.pg,(S.ds d).num w)]}:=by
       simp only[TS.jX,List.append_nil,dX]
      rw[e];exact this
     have f6:=(f4.trans f5 (Mv.refl _ _ _ _)).trans (m6.of_same (A:=A) s6) (Mv.refl _ _ _ _)
     refine zt rfl (cW.of (s6 _ _ ha5)) a0 ⟨rfl,.inr ⟨_,rfl,z4,_,_,_,rfl,rfl,cz.of aj,awH,?_⟩⟩
     refine k _ A _ M6 f6 (Mv.refl _ _ _ _) ?_
     cases w with
     | look y =>
       have hyp:y=(p:Int):=hp
       have e:decide (V.str (W.look y).tag=V.str "put")=false:=dm (show("look":Str)≠"put" by decide +kernel)
       rw[e]
       simp only[acu,Rep]
       rfl
     | put y q =>
       have e:decide (V.str (W.put y q).tag=V.str "put")=true:=fJ
       rw[e]
       simp only[acu,Rep]
       rfl
    ·refine aM (decide_eq_false hok) ?_
     rw[if_neg fun z=>hok (aiU.mp z)]at k
     have ewr:(S.ds d).gZ w p=({S.ds d with ws:=some w},[],[.ask p w.need]):=by unfold DS.gZ;rw[if_neg fun z=>hok (aiU.mp z)]
     obtain⟨wv,w1,w2,_⟩:=M4.dR
     refine⟨_,rfl,zd rfl (fu M4.bA pK) ⟨_,rfl,A .dR,_,_,d,rfl,rfl,w1,by rw[w2];exact wC hdn,?_⟩⟩
     obtain⟨M5,f5⟩:=M4.amP hdn (v:=.ref z3) (o:=some w) w1 ⟨z3,rfl,apw⟩
     have ha5:=(f5.tups M4) a _ ha4
     have f45:=f4.trans f5 (Mv.refl _ _ _ _)
     generalize upd H4 (A .dR) (.lst (wv.set d (.ref z3)))=H5 at M5 f5 ha5 f45
     obtain⟨uv,u1,u2⟩:=M5.up hdn
     have anh:uv.length<sizeLine:=by rw[u2.length,List.length_map];show(S.up d).length<_;lia
     refine T8 rfl (fu M5.bA Mh) rfl (cz.of M5.ups) (bM hdn) ⟨.inl ⟨rfl,_,cz.of u1⟩,zt rfl (cW.of ha5) (ank _ _) ⟨vA,fun z4 hz4=>?_⟩⟩
     have s6:=aB (o:=.lst [.str "read",.str "write"]) hz4
     refine zt rfl (cW.of (s6 _ _ ha5)) a0 ⟨rfl,.inr ⟨_,rfl,z4,_,_,.str w.need.s,rfl,rfl,cz.of aj,?_,zz3,fun c hc=>?_⟩⟩
     ·cases w with
      | look y =>
        have e:decide (V.str (W.look y).tag=V.str "put")=false:=dm (show("look":Str)≠"put" by decide +kernel)
        rw[e];rfl
      | put y q =>
        have e:decide (V.str (W.put y q).tag=V.str "put")=true:=fJ
        rw[e];rfl
     ·have s7:=aB (o:=.tup [.str "ask",.int w.pg,.str w.need.s]) hc
      rw[hp]at s7 ⊢
      have sB:=s6.trans s7
      refine⟨A (.up d),uv,_,rfl,rfl,sB _ _ u1,anh,?_⟩
      have rp:aH (upd (upd H5 z4 (.lst [.str "read",.str "write"])) c (.tup [.str "ask",.int p,.str w.need.s])) (uv++[.ref c]) ((S.up d++[UL.ask p w.need]).map UL.d):=by
       rw[List.map_append]
       exact aH.snoc (u2.aX (bc sB) (bL UL.flat _)) (Ym (l:=.ask p w.need) aj)
      obtain⟨M7,f7⟩:=(M5.same sB).agg hdn rp
      refine k (.str "waits") A _ ?_ ((f45.trans (m6.of_same (A:=A) sB) (Mv.refl _ _ _ _)).trans f7 (Mv.refl _ _ _ _)) (Mv.refl _ _ _ _) (by simp only[Rep])
      have e:S.jX d ((S.ds d).gZ w p)={S with ds:=aF S.ds d {S.ds d with ws:=some w},up:=aF S.up d (S.up d++[UL.ask p w.need])}:=by
       rw[ewr];simp[TS.jX,dg]
      rw[e]
      exact M7
   cases x with
   | up d' =>
     have e:d'=(d:Int):=hd
     subst e
     have anl:inR (d:Int) n:=hdk
     simp only[TS.step,TS.lC,if_pos anl,Int.toNat_natCast,TS.upD]at k hx
     obtain⟨l,r,hup⟩:=List.exists_cons_of_ne_nil hx
     rw[hup]at k
     obtain⟨I',hlp,hgd,_⟩:=I.take hdn hup
     have hmu:=B.mu l.pg
     refine zt rfl (cW.of ha1) rfl ⟨rfl,_,rfl,?_⟩
     refine bG fJ ?_
     refine⟨_,rfl,_,rfl,A,n,m,S,se,d,l,r,rfl,M1,hdn,hup,hlp,I.pn _ hlp,I.am _ hlp,hgd,(by lia),B.room ht (by lia),fun b A' H' M' f' mv' hb'=>?_⟩
     exact k (.ref b) A' H' M' (f1.trans f' (Mv.refl _ _ _ _)) (fun y hy=>(mv' y hy).imp id fun e=>⟨e.1,f1.lv _ e.2⟩) (Ym hb')
   | down d' =>
     have e:d'=(d:Int):=hd
     subst e
     have anl:inR (d:Int) n:=hdk
     simp only[TS.step,TS.lC,if_pos anl,Int.toNat_natCast,TS.Xb]at k hx
     obtain⟨l,r,hdn'⟩:=List.exists_cons_of_ne_nil hx
     rw[hdn']at k
     obtain⟨p,hp,hlp,hni⟩:=I.dn d hdn l (by rw[hdn'];simp)
     refine zt rfl (cW.of ha1) rfl ⟨rfl,_,rfl,?_⟩
     refine aM (dm (show("down":Str)≠"up" by decide +kernel)) ?_
     refine zt rfl (cW.of ha1) rfl ⟨rfl,_,rfl,?_⟩
     refine bG fJ ?_
     have hrow:=B.row
     have aw3:=B.up d
     refine⟨_,rfl,_,rfl,A,n,m,S,se,l,r,d,p,rfl,M1,hdn,hdn',hlp,hp,hni,I.ws d hdn,(by lia),(by lia),fun b H' M' f' hb'=>?_⟩
     exact k (.ref b) A H' (by rw[List.append_nil];exact M') (f1.trans f' (Mv.refl _ _ _ _)) (Mv.refl _ _ _ _) (akg hb')
   | rest d' y =>
     have e:d'=(d:Int):=hd
     subst e
     have anl:inR (d:Int) n:=hdk
     obtain⟨hy,hno⟩:=hx
     obtain⟨p,hp⟩:∃p:Nat,y=(p:Int):=⟨y.toNat,by unfold inR at hy;lia⟩
     subst hp
     have hpm:p<m:=by unfold inR at hy;lia
     simp only[TS.step,TS.lC,if_pos anl,if_pos hy,Int.toNat_natCast]at k hno
     rw[if_neg hno]at k
     refine zt rfl (cW.of ha1) rfl ⟨rfl,_,rfl,?_⟩
     refine aM (dm (show("rest":Str)≠"up" by decide +kernel)) ?_
     refine zt rfl (cW.of ha1) rfl ⟨rfl,_,rfl,?_⟩
     refine aM (dm (show("rest":Str)≠"down" by decide +kernel)) ?_
     refine T8 rfl (fu M1.bA lO) rfl (cz.of M1.rights) (bM hdn) (zt rfl (cW.of ha1) rfl ⟨A (.rt d),_,p,_,rfl,rfl,cz.of (M1.rt hdn),bM hpm,?_⟩)
     refine zt rfl (cW.of ha1) rfl ⟨rfl,_,rfl,?_⟩
     refine bG fJ ?_
     have aw3:=B.up d
     try dsimp only[bJ]
     refine f9 (fun σ' H'=>σ'=[some (.ref (A .bA)),some (.ref a),some (.str ""),some (.int d),some (.str ((S.ds d).rt p).s),none,none]/\bh H' A n m {S with up:=aF S.up d (S.up d++(if(S.ds d).rt p=.wr then [UL.gave p ((S.ds d).nm p)]else []))} se/\m6 H H' A n m/\H' a=some (.tup (cC.rest d p).vs)) (fun N hN=>?_) ?_
     ·refine⟨_,rfl,rfl,_,rfl,?_⟩
      by_cases ew:(S.ds d).rt p=.wr
      ·refine bG (by rw[ew];exact fJ) ?_
       rw[if_pos ew]at hN
       obtain⟨uv,u1,u2⟩:=M1.up hdn
       have anh:uv.length<sizeLine:=by rw[u2.length,List.length_map];lia
       refine T8 rfl (fu M1.bA Mh) rfl (cz.of M1.ups) (bM hdn) ⟨.inl ⟨rfl,_,cz.of u1⟩,zt rfl (cW.of ha1) rfl (T8 rfl (fu M1.bA uf) rfl (cz.of M1.copies) (bM hdn) (zt rfl (cW.of ha1) rfl ⟨A (.cp d),_,p,_,rfl,rfl,cz.of (M1.cp hdn),bM hpm,zz3,fun c hc=>?_⟩))⟩
       have s3:=aB (o:=.tup [.str "gave",.int p,.int ((S.ds d).nm p)]) hc
       refine⟨A (.up d),uv,_,rfl,rfl,s3 _ _ u1,anh,?_⟩
       have rp:aH (upd H1 c (.tup [.str "gave",.int p,.int ((S.ds d).nm p)])) (uv++[.ref c]) ((S.up d++[UL.gave p ((S.ds d).nm p)]).map UL.d):=by
        rw[List.map_append]
        exact aH.snoc (u2.aX (bc s3) (bL UL.flat _)) (Ym (l:=.gave p ((S.ds d).nm p)) aj)
       obtain⟨M4,f4⟩:=(M1.same s3).agg hdn rp
       exact hN _ _ ⟨rfl,M4,(f1.trans (m6.of_same (A:=A) s3) (Mv.refl _ _ _ _)).trans f4 (Mv.refl _ _ _ _),(f4.tups (M1.same s3)) a _ (s3 _ _ ha1)⟩
      ·refine aM (oN (x:="write") (q:=.wr) rfl ew) ?_
       rw[if_neg ew]at hN
       refine hN _ _ ⟨rfl,?_,f1,ha1⟩
       have:({S with up:=aF S.up d (S.up d++[])}:TS)=S:=by rw[List.append_nil,dX]
       rw[this];exact M1
     ·rintro σ' H2 ⟨rfl,M2,f2,ha2⟩
      refine T8 rfl (fu M2.bA lO) rfl (cz.of M2.rights) (bM hdn) (zt rfl (cW.of ha2) rfl ⟨A (.rt d),_,_,p,rfl,rfl,M2.rt hdn,wC (by simpa using hpm),?_⟩)
      have e1:((List.range m).map fun q:Nat=>V.str ((S.ds d).rt q).s).set p (.str "none")=(List.range m).map fun q:Nat=>V.str (((S.ds d).hold p .no ((S.ds d).nm p)).rt q).s:=by
       refine yX hpm ?_ fun q hq=>?_
       ·show V.str (if(p:Int)=p then Rt.no else _).s=_;rw[if_pos rfl];rfl
       ·show V.str (if(q:Int)=p then Rt.no else _).s=_;rw[if_neg (by lia)]
      dsimp only
      rw[e1]
      have enm:((S.ds d).hold p .no ((S.ds d).nm p)).nm=(S.ds d).nm:=by funext q;show(if q=(p:Int)then(S.ds d).nm p else(S.ds d).nm q)=_;split<;>simp_all
      obtain⟨M3,f3⟩:=M2.atg hdn (D':=(S.ds d).hold p .no ((S.ds d).nm p)) enm rfl
      refine k (.str "done") A _ ?_ (f2.trans f3 (Mv.refl _ _ _ _)) (Mv.refl _ _ _ _) (by simp only[Rep])
      rw[List.append_nil]
      have:S.lg d p={S with ds:=aF S.ds d ((S.ds d).hold p .no ((S.ds d).nm p)),up:=aF S.up d (S.up d++(if(S.ds d).rt p=.wr then [UL.gave p ((S.ds d).nm p)]else []))}:=by
       simp[TS.lg,TS.jX,dg]
      rw[this]
      exact M3
   | look d' y=>exact absurd ⟨_,.look _,rfl⟩ hwd
   | put d' y q=>exact absurd ⟨_,.put _ _,rfl⟩ hwd
  ·refine bG (adG hw) ?_
   obtain⟨e1,e2⟩:=agW hw
   refine⟨_,rfl,k _ A H1 ?_ f1 (Mv.refl _ _ _ _) ?_⟩
   ·rw[e1,e2,List.append_nil];exact M1
   ·rw[e1];simp only[Rep]
end
end gn
namespace gn
open PySem L2
def apx:Sp:=fun vs H Q _=>∃k,vs=[.int k]/\Q (.bl true) H
def at7:Sp:=fun vs H Q _=>∃v u d,vs=[v,u]/\Rep H v d/\Rep H u d/\d.size<=1000000/\∀H',bZ H H'->Q (.bl true) H'
section
variable{P:Program}{w:World}{K:PySem.W.Frag}{mg:Str->Option Value}{base:Heap}{t:JR}
theorem Yp(T:Txt K w mg t):dj P w K mg base oM 1 t.mJ t.JS ["_law_found"] apx:=by
 refine T.QM.ok aiN (fun vs H Q E h=>?_) (fun cdv A outer s H vs Q E hr h=>?_)
 ·obtain⟨k,rfl,_⟩:=h;rfl
 ·obtain⟨k,rfl,q⟩:=h
  refine⟨_,(aA (aZ (al3 (cX jt (by rfl) T.d9 PyProof.Rows.Boot.«isinstance» (aa (pv 0) (aa (pI (by rfl) T.Nb PyProof.Rows.Boot.«int») ao))) (ah7 (ar9 (cX jt (by rfl) T.d9 PyProof.Rows.Boot.«isinstance» (aa (pv 0) (aa (pI (by rfl) T.atD PyProof.Rows.Boot.«bool») ao)))))))),?_⟩
  try dsimp only[dD,Cx.kZ]
  refine⟨_,rfl,_,_,.type "int",true,rfl,.int _,.inl ⟨_,rfl,asK⟩,_,rfl,qt ?_⟩
  exact⟨_,rfl,_,_,.type "int",false,rfl,.int _,.inl ⟨_,rfl,asL⟩,_,rfl,q⟩
theorem ald{H:Hp}{v:V}:∀{d:D},Rep H v d->(d=.n/\v=.non)\/(∃k,d=.i k/\v=.int k)\/(∃x,d=.s x/\v=.str x)\/(∃ds a xs,d=.t ds/\v=.ref a/\H a=some (.tup xs)/\aH H xs ds)\/(∃ds a xs,d=.l ds/\v=.ref a/\H a=some (.lst xs)/\aH H xs ds)
 | .n,r=>by simp only[Rep]at r;exact .inl ⟨rfl,r⟩
 | .i k,r=>by simp only[Rep]at r;exact .inr (.inl ⟨k,rfl,r⟩)
 | .s x,r=>by simp only[Rep]at r;exact .inr (.inr (.inl ⟨x,rfl,r⟩))
 | .t ds,r=>by simp only[Rep]at r;obtain⟨a,xs,h1,h2,h3⟩:=r;exact .inr (.inr (.inr (.inl ⟨ds,a,xs,rfl,h1,h2,h3⟩)))
 | .l ds,r=>by simp only[Rep]at r;obtain⟨a,xs,h1,h2,h3⟩:=r;exact .inr (.inr (.inr (.inr ⟨ds,a,xs,rfl,h1,h2,h3⟩)))
theorem agX{α:Type}(xs:List α)(x:α):(xs++[x])[(xs++[x]).length - 1]? = some x:=by simp
theorem agY{α:Type}(xs:List α)(x:α):(xs++[x]).dropLast=xs:=by simp
set_option maxHeartbeats 8000000 in
theorem QT(T:Txt K w mg t):dj P w K mg base oM 2 t.qC t.QC ["_law_found","_law_due"] at7:=by
 refine T.MN.ok yz (fun vs H Q E h=>?_) (fun cdv A outer s H vs Q E hr h=>?_)
 ·obtain⟨v,u,d,rfl,_⟩:=h;rfl
 ·obtain⟨v,u,d,rfl,rv,ru,hsz,k⟩:=h
  refine⟨_,(ak (bx (i:=2) yz.nd rfl (Or.inl rfl) (bN (aa (pv 0) ao)))
   (ak (bx (i:=3) yz.nd rfl (Or.inl rfl) (bN (aa (pv 1) ao)))
   (ak (WD PassesOwn.never (aQ (af5 hr.aif) (pv 3) (bN ao) (aW _)) (ak (bx (i:=4) yz.nd rfl (Or.inl rfl) (ami PySem.F.plainAttrs_list PySem.F.slot_list_pop PySem.F.type_list_pop amk (pv 2)))
   (ak (bx (i:=5) yz.nd rfl (Or.inl rfl) (ami PySem.F.plainAttrs_list PySem.F.slot_list_pop PySem.F.type_list_pop amk (pv 3)))
   (aA (bU (jO (cX jt (by rfl) T.d9 PyProof.Rows.Boot.«isinstance» (aa (pv 5) (aa (cg (aa (pI (by rfl) T.Gj PyProof.Rows.Boot.«list») (aa (pI (by rfl) T.Ww PyProof.Rows.Boot.«tuple») ao))) ao)))) (ak (bU (aQ tZ (cX jt (by rfl) T.d9 PyProof.Rows.Boot.«isinstance» (aa (pv 4) (aa (pI (by rfl) T.Gj PyProof.Rows.Boot.«list») ao))) (cX jt (by rfl) T.d9 PyProof.Rows.Boot.«isinstance» (aa (pv 5) (aa (pI (by rfl) T.Gj PyProof.Rows.Boot.«list») ao))) (aW _)) (aA (aZ vC)) bw)
   (ak (bU (PW.pt (mU (aQ tZ (cX jt (by rfl) T.d9 PyProof.Rows.Boot.«isinstance» (aa (pv 4) (aa (pI (by rfl) T.Ww PyProof.Rows.Boot.«tuple») ao))) (cX jt (by rfl) T.d9 PyProof.Rows.Boot.«isinstance» (aa (pv 5) (aa (pI (by rfl) T.Ww PyProof.Rows.Boot.«tuple») ao))) (aW _)) (lL (aQ tZ (cX dq (by rfl) T.wA PySem.boot_len (aa (pv 4) ao)) (cX dq (by rfl) T.wA PySem.boot_len (aa (pv 5) ao)) (aW _))))) (aA (aZ vC)) bw)
   (ak (bO (fB PySem.F.plainAttrs_list PySem.F.slot_list_extend PySem.F.type_list_extend lM (pv 2) (aa (pv 4) ao)))
   (aA (bO (fB PySem.F.plainAttrs_list PySem.F.slot_list_extend PySem.F.type_list_extend lM (pv 3) (aa (pv 5) ao))))))) (aA (bU (wW (ah6 (pv 5))) (aA (bU (wW (vD (pv 4))) (aA (aZ vC)) bw)) (aA (bU (jO (cX jt (by rfl) T.d9 PyProof.Rows.Boot.«isinstance» (aa (pv 5) (aa (pI (by rfl) T.am2 PyProof.Rows.Boot.«str») ao)))) (aA (bU (PW.pt (mU (qW (jO (cX jt (by rfl) T.d9 PyProof.Rows.Boot.«isinstance» (aa (pv 4) (aa (pI (by rfl) T.am2 PyProof.Rows.Boot.«str») ao))))) (lL (aQ tZ (pv 4) (pv 5) (aW _))))) (aA (aZ vC)) bw)) (aA (bU (PW.pt (mU (qW (jO (cB (Yp T) (hr.mono (by decide):bQ 1 _) (by rfl) T.acj T.QM.kp T.aci .nil bW (aa (pv 4) ao)))) (lL (aQ tZ (pv 4) (pv 5) (aW _))))) (aA (aZ vC)) bw)))))))))))
   (aA (aZ vC))))),?_⟩
  try dsimp only[dD,Cx.kZ]
  show let Z1:L2.TS:=_;let Z2:L2.TS:=_;let Z3:L2.TS:=_;let Z4:L2.TS:=_;let Z5:L2.TS:=_;let Z6:L2.TS:=cT _ Z5 bJ;let Z7:L2.TS:=_;let Z8:L2.TS:=cT _ Z7 bJ;let Z9:L2.TS:=_;let yW:L2.TS:=_;let IV:L2.TS:=aU Z6 (aU Z8 (aU Z9 (yW)));let IW:L2.TS:=_;let Nj:L2.TS:=cT _ IW bJ;let Nk:L2.TS:=_;let Yk:L2.TS:=cT _ Nk bJ;let Z16:L2.TS:=_;let Z17:L2.TS:=cT _ Z16 bJ;let Z18:L2.TS:=cT _ Yk Z17;let Z19:L2.TS:=cT _ Nj Z18;let Z20:L2.TS:=cT _ IV Z19;let Z21:L2.TS:=aU Z3 (aU Z4 (Z20));let Z22:L2.TS:=acL _ Z21;let Z23:L2.TS:=_;let D0:Ends:=_;(aU Z1 (aU Z2 (aU Z22 (Z23)))) D0 _ _
  intro Z1 Z2 Z3 Z4 Z5 Z6 Z7 Z8 Z9 yW IV IW Nj Nk Yk Z16 Z17 Z18 Z19 Z20 Z21 Z22 Z23 D0
  refine⟨_,rfl,zz1,fun L hL=>⟨_,rfl,zz1,fun R hR=>?_⟩⟩
  have nLR:L≠R:=fun e=>by subst e;rw[aj]at hR;cases hR
  have hR0:H R=none:=by rw[aq nLR.symm]at hR;exact hR
  refine⟨fun m σ H2=>∃ds xs ys o1 o2,σ=[some v,some u,some (.ref L),some (.ref R),o1,o2]/\bZ H H2/\H2 L=some (.lst xs)/\H2 R=some (.lst ys)/\aH H xs ds/\aH H ys ds/\m=D.sizes ds/\D.sizes ds<=1000000,
   ⟨_,[d],[v],[u],none,none,rfl,(aB hL).trans (aB hR),(by rw[aq nLR,aj]),aj,by simp only[aH];exact⟨v,[],rfl,rv,rfl⟩,by simp only[aH];exact⟨u,[],rfl,ru,rfl⟩,rfl,by simp only[D.sizes];lia⟩,?_⟩
  rintro m σ H2 ⟨ds,xs,ys,o1,o2,rfl,s2,gL,gR,rx,ry,rfl,hb⟩
  refine⟨_,rfl,Eo,fun e he=>⟨R,e,ys,rfl,rfl,cz.of (aB he _ _ gR),cz.of aj,_,rfl,?_⟩⟩
  have s3:bZ H (upd H2 e (.lst [])):=s2.trans (aB he)
  have gL3:upd H2 e (.lst []) L=some (.lst xs):=aB he _ _ gL
  have gR3:upd H2 e (.lst []) R=some (.lst ys):=aB he _ _ gR
  generalize upd H2 e (.lst [])=H3 at s3 gL3 gR3
  clear gL gR s2 he
  rcases List.eq_nil_or_concat ds with rfl | ⟨ds0,dd,rfl⟩
  ·simp only[aH]at ry
   subst ry
   refine aM rfl ?_
   exact k H3 s3
  ·rw[List.concat_eq_append]at rx ry hb ⊢
   obtain⟨xs0,x,rfl,rx0,rxl⟩:=aH.last rx
   obtain⟨ys0,y,rfl,ry0,ryl⟩:=aH.last ry
   refine bG (by simp) ?_
   refine⟨fun σ' H'=>∃m',m'<D.sizes (ds0++[dd])/\∃ds xs ys o1 o2,σ'=[some v,some u,some (.ref L),some (.ref R),o1,o2]/\bZ H H'/\H' L=some (.lst xs)/\H' R=some (.lst ys)/\aH H xs ds/\aH H ys ds/\m'=D.sizes ds/\D.sizes ds<=1000000,fun σ' H' z=>z,?_⟩
   refine⟨_,rfl,.inl ⟨rfl,_,cz.of gL3⟩,L,_,x,rfl,rfl,gL3,agX _ _,?_⟩
   rw[agY]
   have gR4:upd H3 L (.lst xs0) R=some (.lst (ys0++[y])):=by rw[aq nLR.symm];exact gR3
   refine⟨_,rfl,.inl ⟨rfl,_,cz.of gR4⟩,R,_,y,rfl,rfl,gR4,agX _ _,?_⟩
   rw[agY]
   have s5:bZ H (upd (upd H3 L (.lst xs0)) R (.lst ys0)):=fun b o hbo=>by
    rw[aq (aG hbo hR0),aq (aG hbo hL)]
    exact s3 b o hbo
   have gL5:upd (upd H3 L (.lst xs0)) R (.lst ys0) L=some (.lst xs0):=by rw[aq nLR,aj]
   have gR5:upd (upd H3 L (.lst xs0)) R (.lst ys0) R=some (.lst ys0):=aj
   generalize upd (upd H3 L (.lst xs0)) R (.lst ys0)=H5 at s5 gL5 gR5
   have aDb:D.sizes (ds0++[dd])=D.sizes ds0+dd.size:=by rw[D.sI];simp[D.sizes]
   have go:∀(H6:Hp),bZ H5 H6->∃m',m'<D.sizes (ds0++[dd])/\∃ds xs ys o1 o2,[some v,some u,some (.ref L),some (.ref R),some x,some y]=[some v,some u,some (.ref L),some (.ref R),o1,o2]/\bZ H H6/\H6 L=some (.lst xs)/\H6 R=some (.lst ys)/\aH H xs ds/\aH H ys ds/\m'=D.sizes ds/\D.sizes ds<=1000000:=fun H6 s6=>by
    have:=dd.size_pos
    exact⟨_,by lia,ds0,xs0,ys0,_,_,rfl,s5.trans s6,s6 _ _ gL5,s6 _ _ gR5,rx0,ry0,rfl,by lia⟩
   refine⟨_,rfl,vA,fun tt ht=>?_⟩
   have s6:bZ H5 (upd H5 tt (.tup [.ty "list",.ty "tuple"])):=aB ht
   have h6:upd H5 tt (.tup [.ty "list",.ty "tuple"]) tt=some (.tup [.ty "list",.ty "tuple"]):=aj
   generalize upd H5 tt (.tup [.ty "list",.ty "tuple"])=H6 at s6 h6
   have sH6:=s5.trans s6
   have grow:∀(es:List D) (zs ws:List V),aH H zs es->aH H ws es->dd.size=1+D.sizes es->∀H7,bZ H6 H7->∃m',m'<D.sizes (ds0++[dd])/\∃ds xs ys o1 o2,[some v,some u,some (.ref L),some (.ref R),some x,some y]=[some v,some u,some (.ref L),some (.ref R),o1,o2]/\bZ H (upd (upd H7 L (.lst (xs0++zs))) R (.lst (ys0++ws)))/\(upd (upd H7 L (.lst (xs0++zs))) R (.lst (ys0++ws))) L=some (.lst xs)/\(upd (upd H7 L (.lst (xs0++zs))) R (.lst (ys0++ws))) R=some (.lst ys)/\aH H xs ds/\aH H ys ds/\m'=D.sizes ds/\D.sizes ds<=1000000:=fun es zs ws rz rw' he H7 s7=>by
    refine⟨_,?_,ds0++es,xs0++zs,ys0++ws,_,_,rfl,fun b o hbo=>?_,by rw[aq nLR,aj],aj,rx0.append rz,ry0.append rw',rfl,?_⟩
    ·rw[D.sI];lia
    ·rw[aq (aG hbo hR0),aq (aG hbo hL)]
     exact s7 b o (sH6 b o hbo)
    ·rw[D.sI];lia
   rcases ald rxl with ⟨rfl,rfl⟩ | ⟨k1,rfl,rfl⟩ | ⟨x1,rfl,rfl⟩ | ⟨es,a,zs,rfl,rfl,ha,rz⟩ | ⟨es,a,zs,rfl,rfl,ha,rz⟩
   ·simp only[Rep]at ryl
    subst ryl
    refine⟨_,_,_,false,rfl,.non,.inr ⟨tt,_,[.type "list",.type "tuple"],rfl,h6,rfl,asQ⟩,_,rfl,wY ?_⟩
    refine⟨_,rfl,_,rfl,bG rfl ?_⟩
    refine⟨_,rfl,_,rfl,aM rfl ?_⟩
    exact go H6 s6
   ·simp only[Rep]at ryl
    subst ryl
    refine⟨_,_,_,false,rfl,.int _,.inr ⟨tt,_,[.type "list",.type "tuple"],rfl,h6,rfl,asN⟩,_,rfl,wY ?_⟩
    refine⟨_,rfl,_,rfl,aM rfl ?_⟩
    refine⟨_,rfl,_,_,_,false,rfl,.int _,.inl ⟨_,rfl,kit_is⟩,_,rfl,wY ?_⟩
    refine⟨_,rfl,k1,rfl,_,rfl,wY ?_⟩
    refine⟨_,rfl,_,rfl,rfl,_,rfl,aM (by simp) ?_⟩
    exact go H6 s6
   ·simp only[Rep]at ryl
    subst ryl
    refine⟨_,_,_,false,rfl,.str _,.inr ⟨tt,_,[.type "list",.type "tuple"],rfl,h6,rfl,asO⟩,_,rfl,wY ?_⟩
    refine⟨_,rfl,_,rfl,aM rfl ?_⟩
    refine⟨_,rfl,_,_,_,true,rfl,.str _,.inl ⟨_,rfl,aiu⟩,_,rfl,qt ?_⟩
    refine⟨_,rfl,_,_,_,true,rfl,.str _,.inl ⟨_,rfl,aiu⟩,_,rfl,wY ?_⟩
    refine⟨_,rfl,_,rfl,rfl,_,rfl,aM (by simp) ?_⟩
    exact go H6 s6
   ·simp only[Rep]at ryl
    obtain⟨a2,zs2,rfl,ha2,rz2⟩:=ryl
    have ha6:=sH6 _ _ ha
    have Yq:=sH6 _ _ ha2
    have hl1:=rz.length
    have hl2:=rz2.length
    refine⟨_,_,_,true,rfl,.tup Yq,.inr ⟨tt,_,[.type "list",.type "tuple"],rfl,h6,rfl,kit_at⟩,_,rfl,qt ?_⟩
    refine⟨_,rfl,_,_,_,false,rfl,.tup ha6,.inl ⟨_,rfl,amB⟩,_,rfl,_,_,_,false,rfl,.tup Yq,.inl ⟨_,rfl,amB⟩,rfl,_,rfl,aM rfl ?_⟩
    refine⟨_,rfl,_,_,_,true,rfl,.tup ha6,.inl ⟨_,rfl,aiw⟩,_,rfl,_,_,_,true,rfl,.tup Yq,.inl ⟨_,rfl,aiw⟩,rfl,_,rfl,aM rfl ?_⟩
    refine⟨_,rfl,a,zs,rfl,.inr (cW.of ha6),_,rfl,a2,zs2,rfl,.inr (cW.of Yq),rfl,_,rfl,aM (by rw[hl1,hl2];simp) ?_⟩
    have b1:xs0.length+zs.length<=sizeLine:=by
     have q1:=rx0.length
     have q2:=D.dW ds0
     have q3:=D.dW es
     have q4:(D.t es).size=1+D.sizes es:=by simp[D.size]
     have:(1000000:Nat)<=sizeLine:=by decide
     lia
    have b2:ys0.length+zs2.length<=sizeLine:=by
     have q1:=ry0.length
     have q2:=D.dW ds0
     have q3:=D.dW es
     have q4:(D.t es).size=1+D.sizes es:=by simp[D.size]
     have:(1000000:Nat)<=sizeLine:=by decide
     lia
    have at9:a2≠L:=aG ha2 hL
    have gL6:=s6 _ _ gL5
    have gR6:upd H6 L (.lst (xs0++zs)) R=some (.lst ys0):=by rw[aq nLR.symm];exact s6 _ _ gR5
    refine⟨_,rfl,.inl ⟨rfl,_,cz.of gL6⟩,_,rfl,L,a,xs0,zs,rfl,rfl,gL6,(.inr (cW.of ha6)),b1,?_⟩
    refine⟨_,rfl,.inl ⟨rfl,_,cz.of gR6⟩,_,rfl,R,a2,ys0,zs2,rfl,rfl,gR6,(.inr (cW.of (by rw[aq at9];exact Yq))),b2,?_⟩
    exact grow es zs zs2 rz rz2 (by simp[D.size]) H6 (bZ.refl _)
   ·simp only[Rep]at ryl
    obtain⟨a2,zs2,rfl,ha2,rz2⟩:=ryl
    have ha6:=sH6 _ _ ha
    have Yq:=sH6 _ _ ha2
    have hl1:=rz.length
    have hl2:=rz2.length
    refine⟨_,_,_,true,rfl,.lst Yq,.inr ⟨tt,_,[.type "list",.type "tuple"],rfl,h6,rfl,asM⟩,_,rfl,qt ?_⟩
    refine⟨_,rfl,_,_,_,true,rfl,.lst ha6,.inl ⟨_,rfl,aiv⟩,_,rfl,_,_,_,true,rfl,.lst Yq,.inl ⟨_,rfl,aiv⟩,rfl,_,rfl,aM rfl ?_⟩
    refine⟨_,rfl,_,_,_,false,rfl,.lst ha6,.inl ⟨_,rfl,amC⟩,_,rfl,_,_,_,false,rfl,.lst Yq,.inl ⟨_,rfl,amC⟩,rfl,_,rfl,aM rfl ?_⟩
    refine⟨_,rfl,a,zs,rfl,.inl (cz.of ha6),_,rfl,a2,zs2,rfl,.inl (cz.of Yq),rfl,_,rfl,aM (by rw[hl1,hl2];simp) ?_⟩
    have b1:xs0.length+zs.length<=sizeLine:=by
     have q1:=rx0.length
     have q2:=D.dW ds0
     have q3:=D.dW es
     have q4:(D.l es).size=1+D.sizes es:=by simp[D.size]
     have:(1000000:Nat)<=sizeLine:=by decide
     lia
    have b2:ys0.length+zs2.length<=sizeLine:=by
     have q1:=ry0.length
     have q2:=D.dW ds0
     have q3:=D.dW es
     have q4:(D.l es).size=1+D.sizes es:=by simp[D.size]
     have:(1000000:Nat)<=sizeLine:=by decide
     lia
    have at9:a2≠L:=aG ha2 hL
    have gL6:=s6 _ _ gL5
    have gR6:upd H6 L (.lst (xs0++zs)) R=some (.lst ys0):=by rw[aq nLR.symm];exact s6 _ _ gR5
    refine⟨_,rfl,.inl ⟨rfl,_,cz.of gL6⟩,_,rfl,L,a,xs0,zs,rfl,rfl,gL6,(.inl (cz.of ha6)),b1,?_⟩
    refine⟨_,rfl,.inl ⟨rfl,_,cz.of gR6⟩,_,rfl,R,a2,ys0,zs2,rfl,rfl,gR6,(.inl (cz.of (by rw[aq at9];exact Yq))),b2,?_⟩
    exact grow es zs zs2 rz rz2 (by simp[D.size]) H6 (bZ.refl _)
end
end gn
namespace gn
open PySem L2
def nm0(ns:List Int)(i:Int):Int:=(ns[i.toNat]?).getD 0
def S0(ns:List Int):TS:=⟨fun _=>⟨fun _=>.no,nm0 ns,none⟩,pg0 ns,fun _=>[],fun _=>[],[]⟩
theorem aki(ns:List Int):ns.map V.int=(List.range ns.length).map fun p:Nat=>V.int (nm0 ns p):=by
 refine List.ext_getElem? fun i=>?_
 rw[List.getElem?_map,List.getElem?_map]
 by_cases h:i<ns.length
 ·rw[List.getElem?_range h,List.getElem?_eq_getElem h]
  simp[nm0,h]
 ·rw[List.getElem?_eq_none (by lia),List.getElem?_eq_none (by simpa using h)]
  rfl
theorem ale(n:Nat)(v:V):List.replicate n v=(List.range n).map fun _=>v:=by
 rw[List.map_const',List.length_range]
theorem yZ{n:Nat}{acc:Addr}{te:TE}{σ:St}{H1:Hp}{Q:VK}{c:List V}(Pσ:St->Prop)(h0:Pσ σ)(hacc:H1 acc=none)(hn:n<=1000)
 (hg:∀i σ',Pσ σ'->Pσ (σ'.set 0 (some (.int i))))
 (hel:∀σ' H' (R:VK),Pσ σ'->bZ H1 H'->(∀l H'',H' l=none->bZ H' H''->H'' l=some (.lst c)->R (.ref l) H'')->te σ' H' R)
 (hd:∀(f:Nat->Addr) H',bZ H1 H'->H' acc=some (.lst ((List.range n).map fun d=>V.ref (f d)))->(∀d,d<n->H1 (f d)=none/\f d≠acc/\H' (f d)=some (.lst c))->(∀d e,d<n->e<n->f d=f e->d=e)->Q (.ref acc) H') :
 Ew (Itr 0 n) (abW 0) akV te σ acc H1 Q:=by
 have sl:sizeLine=16777216:=by decide
 let PV1:Nat->List V->St->Hp->Prop:=fun i zs σ' H'=>Pσ σ'/\bZ H1 H'/\H' acc=some (.lst zs)/\∃f:Nat->Addr,zs=(List.range i).map (fun d=>V.ref (f d))/\(∀d,d<i->H1 (f d)=none/\f d≠acc/\H' (f d)=some (.lst c))/\∀d e,d<i->e<i->f d=f e->d=e
 refine JL PV1 ?_ ?_ ?_ ?_
 ·exact⟨h0,aB hacc,aj,fun _=>0,rfl,fun d hd=>absurd hd (Nat.not_lt_zero _),fun d e hd=>absurd hd (Nat.not_lt_zero _)⟩
 ·rintro i zs σ' H' _ ⟨_,_,h,_⟩
  exact h
 ·rintro i zs σ' H' hi ⟨hp,s',ha',f,rfl,hf,inj⟩
  refine acV (hel _ H' _ (hg _ _ hp) s' fun l H'' hl s'' hl''=>?_)
  have apA:=s'' _ _ ha'
  have nal:acc≠l:=aG ha' hl
  have hz:((List.range i).map fun d=>V.ref (f d)).length<sizeLine:=by rw[List.length_map,List.length_range];lia
  refine Ey.mk hi apA hz ⟨hg _ _ hp,fU (s'.trans s'') hacc,aj,aF f i l,?_,fun d hd=>?_,fun d e hd he h=>?_⟩
  ·rw[List.range_succ,List.map_append]
   congr 1
   ·refine List.map_congr_left fun d hd=>?_
    rw[aY _ _ (Nat.ne_of_lt (List.mem_range.mp hd))]
   ·show [V.ref l]=[V.ref _];rw[aL]
  ·by_cases e:d=i
   ·subst e
    rw[aL]
    exact⟨bZ.free s' hl,nal.symm,by rw[aq nal.symm];exact hl''⟩
   ·rw[aY _ _ e]
    obtain⟨h1,h2,h3⟩:=hf d (by lia)
    exact⟨h1,h2,by rw[aq h2];exact s'' _ _ h3⟩
  ·have nl:∀d,d<i->f d≠l:=fun d hd=>aG (hf d hd).2.2 hl
   by_cases h1:d=i
   ·by_cases h2:e=i
    ·rw[h1,h2]
    ·rw[h1,aL,aY _ _ h2]at h;exact absurd h.symm (nl e (by lia))
   ·by_cases h2:e=i
    ·rw[h2,aL,aY _ _ h1]at h;exact absurd h (nl d (by lia))
    ·rw[aY _ _ h1,aY _ _ h2]at h;exact inj d e (by lia) (by lia) h
 ·rintro zs σ' H' ⟨_,s',ha',f,rfl,hf,inj⟩
  exact hd f H' s' ha' hf inj
def oc(n:Nat)(ns:List Int)(A:Mb->Addr):Mb->HO
 | .dR=>.lst (List.replicate n .non)
 | .rights=>.lst ((List.range n).map fun d=>V.ref (A (.rt d)))
 | .copies=>.lst ((List.range n).map fun d=>V.ref (A (.cp d)))
 | .ups=>.lst ((List.range n).map fun d=>V.ref (A (.up d)))
 | .downs=>.lst ((List.range n).map fun d=>V.ref (A (.dn d)))
 | .rt _=>.lst (List.replicate ns.length (.str "none"))
 | .cp _=>.lst (ns.map V.int)
 | .bR p=>.dK (zG (pg0 ns p) (A (.iV p)) (A (.jJ p)))
 | _=>.lst []
structure Stg(n:Nat)(ns:List Int)(H Hs:Hp)(A:Mb->Addr)(ok:Mb->Prop)(kv:List (Key×V))(zs:List V):Prop where
 sm:bZ H Hs
 inj:∀x y,ok x->ok y->A x=A y->x=y
 fr:∀x,ok x->H (A x)=none
 ct:∀x,ok x->x≠.bA->x≠.cV->Hs (A x)=some (oc n ns A x)
 ot:ok .bA
 os:ok .cV
 tw:Hs (A .bA)=some (.dK kv)
 sh:Hs (A .cV)=some (.lst zs)
theorem Stg.live{n:Nat}{ns:List Int}{H Hs:Hp}{A:Mb->Addr}{ok:Mb->Prop}{kv:List (Key×V)}{zs:List V}(S:Stg n ns H Hs A ok kv zs)(x:Mb)(hx:ok x):∃o,Hs (A x)=some o:=by
 by_cases h1:x=.bA
 ·rw[h1];exact⟨_,S.tw⟩
 ·by_cases h2:x=.cV
  ·rw[h2];exact⟨_,S.sh⟩
  ·exact⟨_,S.ct x hx h1 h2⟩
theorem Stg.same{n:Nat}{ns:List Int}{H Hs H2:Hp}{A:Mb->Addr}{ok:Mb->Prop}{kv:List (Key×V)}{zs:List V}(S:Stg n ns H Hs A ok kv zs)(s:bZ Hs H2):Stg n ns H H2 A ok kv zs :=
 ⟨S.sm.trans s,S.inj,S.fr,fun x hx h1 h2=>s _ _ (S.ct x hx h1 h2),S.ot,S.os,s _ _ S.tw,s _ _ S.sh⟩
theorem Stg.more{n:Nat}{ns:List Int}{H Hs H2:Hp}{A A':Mb->Addr}{ok new:Mb->Prop}{kv kv':List (Key×V)}{zs:List V}(S:Stg n ns H Hs A ok kv zs)(s2:bZ Hs H2)(hA:∀x,ok x->A' x=A x)(hoc:∀x,ok x->oc n ns A' x=oc n ns A x)
 (hn:∀x,new x->Hs (A' x)=none/\H2 (A' x)=some (oc n ns A' x)) (hi:∀x y,new x->new y->A' x=A' y->x=y):Stg n ns H (upd H2 (A .bA) (.dK kv')) A' (fun x=>ok x\/new x) kv' zs:=by
 have ntw:∀x,ok x->x≠.bA->A x≠A .bA:=fun x hx h e=>h (S.inj _ _ hx S.ot e)
 have aiW:∀x y,ok x->new y->A x≠A' y:=fun x y hx hy e=>by
  obtain⟨o,h1⟩:=S.live x hx
  rw[e,(hn y hy).1]at h1;cases h1
 have S2:=S.same s2
 refine⟨?_,fun x y hx hy e=>?_,fun x hx=>?_,fun x hx h1 h2=>?_,.inl S.ot,.inl S.os,?_,?_⟩
 ·exact fU (S.sm.trans s2) (S.fr _ S.ot)
 ·rcases hx with hx | hx
  ·rcases hy with hy | hy
   ·rw[hA x hx,hA y hy]at e;exact S.inj x y hx hy e
   ·rw[hA x hx]at e;exact absurd e (aiW x y hx hy)
  ·rcases hy with hy | hy
   ·rw[hA y hy]at e;exact absurd e.symm (aiW y x hy hx)
   ·exact hi x y hx hy e
 ·rcases hx with hx | hx
  ·rw[hA x hx];exact S.fr x hx
  ·exact bZ.free S.sm (hn x hx).1
 ·rcases hx with hx | hx
  ·rw[hA x hx,hoc x hx,aq (ntw x hx h1)];exact S2.ct x hx h1 h2
  ·rw[aq (aiW _ _ S.ot hx).symm];exact(hn x hx).2
 ·rw[hA _ S.ot,aj]
 ·rw[hA _ S.os,aq (ntw _ S.os (by intro z;cases z))];exact S2.sh
theorem Stg.bR{n:Nat}{ns:List Int}{H Hs H2:Hp}{A A':Mb->Addr}{ok new:Mb->Prop}{kv:List (Key×V)}{zs zs':List V}(S:Stg n ns H Hs A ok kv zs)(s2:bZ Hs H2)(hA:∀x,ok x->A' x=A x)(hoc:∀x,ok x->oc n ns A' x=oc n ns A x)
 (hn:∀x,new x->Hs (A' x)=none/\H2 (A' x)=some (oc n ns A' x)) (hi:∀x y,new x->new y->A' x=A' y->x=y):Stg n ns H (upd H2 (A .cV) (.lst zs')) A' (fun x=>ok x\/new x) kv zs':=by
 have nsh:∀x,ok x->x≠.cV->A x≠A .cV:=fun x hx h e=>h (S.inj _ _ hx S.os e)
 have aiW:∀x y,ok x->new y->A x≠A' y:=fun x y hx hy e=>by
  obtain⟨o,h1⟩:=S.live x hx
  rw[e,(hn y hy).1]at h1;cases h1
 have S2:=S.same s2
 refine⟨?_,fun x y hx hy e=>?_,fun x hx=>?_,fun x hx h1 h2=>?_,.inl S.ot,.inl S.os,?_,?_⟩
 ·exact fU (S.sm.trans s2) (S.fr _ S.os)
 ·rcases hx with hx | hx
  ·rcases hy with hy | hy
   ·rw[hA x hx,hA y hy]at e;exact S.inj x y hx hy e
   ·rw[hA x hx]at e;exact absurd e (aiW x y hx hy)
  ·rcases hy with hy | hy
   ·rw[hA y hy]at e;exact absurd e.symm (aiW y x hy hx)
   ·exact hi x y hx hy e
 ·rcases hx with hx | hx
  ·rw[hA x hx];exact S.fr x hx
  ·exact bZ.free S.sm (hn x hx).1
 ·rcases hx with hx | hx
  ·rw[hA x hx,hoc x hx,aq (nsh x hx h2)];exact S2.ct x hx h1 h2
  ·rw[aq (aiW _ _ S.os hx).symm];exact(hn x hx).2
 ·rw[hA _ S.ot,aq (nsh _ S.ot (by intro z;cases z))];exact S2.tw
 ·rw[hA _ S.os,aj]
theorem Stg.weak{n:Nat}{ns:List Int}{H Hs:Hp}{A:Mb->Addr}{ok ok':Mb->Prop}{kv:List (Key×V)}{zs:List V}(S:Stg n ns H Hs A ok kv zs)(h:∀x,ok' x->ok x)(ht:ok' .bA)(hs:ok' .cV):Stg n ns H Hs A ok' kv zs :=
 ⟨S.sm,fun x y hx hy e=>S.inj x y (h x hx) (h y hy) e,fun x hx=>S.fr x (h x hx),fun x hx=>S.ct x (h x hx),ht,hs,S.tw,S.sh⟩
theorem Stg.mir{n:Nat}{ns:List Int}{H Hs:Hp}{A:Mb->Addr}(S:Stg n ns H Hs A (Mb.ok n ns.length) (tkv A) ((List.range ns.length).map fun p=>V.ref (A (.bR p)))):bh Hs A n ns.length (S0 ns) []:=by
 refine⟨S.inj,fun x hx=>?_⟩
 cases x with
 | bA=>exact⟨_,S.tw,rfl⟩
 | cV=>exact⟨_,S.sh,rfl⟩
 | row=>exact⟨_,S.ct .row hx (by intro z;cases z) (by intro z;cases z),[],rfl,by simp[S0,aH]⟩
 | sent=>exact⟨_,S.ct .sent hx (by intro z;cases z) (by intro z;cases z),[],rfl,by simp[aH]⟩
 | dR =>
   refine⟨_,S.ct .dR hx (by intro z;cases z) (by intro z;cases z),_,rfl,List.length_replicate,fun d hd=>⟨.non,?_,rfl⟩⟩
   rw[List.getElem?_replicate,if_pos hd]
 | rights=>exact⟨_,S.ct .rights hx (by intro z;cases z) (by intro z;cases z),rfl⟩
 | copies=>exact⟨_,S.ct .copies hx (by intro z;cases z) (by intro z;cases z),rfl⟩
 | ups=>exact⟨_,S.ct .ups hx (by intro z;cases z) (by intro z;cases z),rfl⟩
 | downs=>exact⟨_,S.ct .downs hx (by intro z;cases z) (by intro z;cases z),rfl⟩
 | rt d=>exact⟨_,S.ct (.rt d) hx (by intro z;cases z) (by intro z;cases z),by show HO.lst _=HO.lst _;rw[ale];rfl⟩
 | cp d=>exact⟨_,S.ct (.cp d) hx (by intro z;cases z) (by intro z;cases z),by show HO.lst _=HO.lst _;rw[aki];rfl⟩
 | up d=>exact⟨_,S.ct (.up d) hx (by intro z;cases z) (by intro z;cases z),[],rfl,by simp[S0,aH]⟩
 | dn d=>exact⟨_,S.ct (.dn d) hx (by intro z;cases z) (by intro z;cases z),[],rfl,by simp[S0,aH]⟩
 | bR p=>exact⟨_,S.ct (.bR p) hx (by intro z;cases z) (by intro z;cases z),rfl⟩
 | iV p=>exact⟨_,S.ct (.iV p) hx (by intro z;cases z) (by intro z;cases z),rfl⟩
 | jJ p=>exact⟨_,S.ct (.jJ p) hx (by intro z;cases z) (by intro z;cases z),[],rfl,by simp[S0,pg0,aH]⟩
def ok0(x:Mb):Prop:=x=.bA\/x=.row\/x=.dR\/x=.cV\/x=.sent
def ok8(n:Nat)(x:Mb):Prop:=(((ok0 x\/(x=.rights\/∃d,d<n/\x=.rt d))\/(x=.copies\/∃d,d<n/\x=.cp d))\/(x=.ups\/∃d,d<n/\x=.up d))\/(x=.downs\/∃d,d<n/\x=.dn d)
def A0(tw row wi sh se:Addr):Mb->Addr
 | .bA=>tw
 | .row=>row
 | .dR=>wi
 | .cV=>sh
 | _=>se
def A1(A:Mb->Addr)(a:Addr)(f:Nat->Addr):Mb->Addr
 | .rights=>a
 | .rt d=>f d
 | x=>A x
def A2(A:Mb->Addr)(a:Addr)(f:Nat->Addr):Mb->Addr
 | .copies=>a
 | .cp d=>f d
 | x=>A x
def A3(A:Mb->Addr)(a:Addr)(f:Nat->Addr):Mb->Addr
 | .ups=>a
 | .up d=>f d
 | x=>A x
def A4(A:Mb->Addr)(a:Addr)(f:Nat->Addr):Mb->Addr
 | .downs=>a
 | .dn d=>f d
 | x=>A x
def Lk(row wi sh se:Addr):List (Key×V):=[(ks "row",.ref row),(ks "wishes",.ref wi),(ks "shelves",.ref sh),(ks "sent",.ref se)]
theorem alf{row wi sh se:Addr}:JK [] (Lk row wi sh se)=Lk row wi sh se:=by kernel_rfl
theorem apC{row wi sh se a:Addr}:putK (Lk row wi sh se) (ks "rights") (.ref a)=Lk row wi sh se++[(ks "rights",.ref a)]:=by kernel_rfl
theorem apD{row wi sh se a b:Addr}:putK (Lk row wi sh se++[(ks "rights",.ref a)]) (ks "copies") (.ref b)=Lk row wi sh se++[(ks "rights",.ref a),(ks "copies",.ref b)]:=by kernel_rfl
theorem apE{row wi sh se a b c:Addr}:putK (Lk row wi sh se++[(ks "rights",.ref a),(ks "copies",.ref b)]) (ks "ups") (.ref c)=Lk row wi sh se++[(ks "rights",.ref a),(ks "copies",.ref b),(ks "ups",.ref c)]:=by kernel_rfl
theorem apF{row wi sh se a b c d:Addr}:putK (Lk row wi sh se++[(ks "rights",.ref a),(ks "copies",.ref b),(ks "ups",.ref c)]) (ks "downs") (.ref d)=Lk row wi sh se++[(ks "rights",.ref a),(ks "copies",.ref b),(ks "ups",.ref c),(ks "downs",.ref d)]:=by kernel_rfl
theorem apG{row wi sh se:Addr}{l:List (Key×V)}:fQ (Lk row wi sh se++l) (ks "shelves")=some (.ref sh):=by kernel_rfl
theorem akj(n:Nat)(v:V):(List.replicate n [v]).flatten=List.replicate n v:=by
 induction n with
 | zero=>rfl
 | succ n ih=>rw[List.replicate_succ,List.flatten_cons,ih,List.replicate_succ];rfl
def kvS(x:Int)(r q:Addr):List (Key×V):=[(ks "number",.int x),(ks "writer",.int (-1)),(ks "readers",.ref r),(ks "asked",.ref q),(ks "missing",.int 0)]
theorem alg{x:Int}{r q:Addr}:JK [] (kvS x r q)=zG ⟨x,none,[],[],0⟩ r q:=by kernel_rfl
def anm:Sp:=fun vs H Q _=>∃n l,∃ns:List Int,vs=[.int ((n:Nat):Int),.ref l]/\H l=some (.lst (ns.map V.int))/\n<=1000/\ns.length<=1000/\
 ∀A H',bh H' A n ns.length (S0 ns) []->bZ H H'->(∀x:Mb,x.ok n ns.length->H (A x)=none)->Q (.ref (A .bA)) H'
section
variable{P:Program}{w:World}{K:PySem.W.Frag}{mg:Str->Option Value}{base:Heap}{t:JR}
theorem adH(T:Txt K w mg t):dj P w K mg base oM 1 t.jh t.Am ["_law_count","_law_numbers"] anm:=by
 refine T.Sd.ok sU (fun vs H Q E h=>?_) (fun cdv A outer s H vs Q E hr h=>?_)
 ·obtain⟨n,l,ns,rfl,_⟩:=h;rfl
 ·obtain⟨n,l,ns,rfl,hl,hn,hm,k⟩:=h
  have hu:=lA hr
  have sl:sizeLine=16777216:=by decide
  refine' ⟨_,?sr,?_⟩
  case' sr=>refine' ak ?Yr ?J3
  case' J3=>refine' ak ?Ys ?J4
  case' J4=>refine' ak ?Yt ?J5
  case' J5=>refine' ak ?Yu ?Yv
  case' Yv=>refine' ak ?ag0 ?Yw
  case' Yw=>refine' ak ?ag1 ?Yx
  case' Yx=>refine' aA ?ag2
  case' Yr=>refine' bx (X:=_) (x:="_law_town") (e:=_) (te:=_) (i:=2) ?apH ?apI ?apJ ?aub ?apK ?apL
  case' apH=>exact sU.nd
  case' apI=>rfl
  case' apJ=>exact(Or.inl rfl)
  case' apK=>rfl
  case' apL=>exact .inl rfl
  case' aub=>refine' ajE (X:=_) (trs:=_) ?auc ?apM ?apO ?apP ?apQ
  case' apM=>rfl
  case' apO=>rfl
  case' apP=>exact List.cons_ne_nil _ _
  case' apQ=>decide
  case' auc=>refine' mX (X:=_) (tk:=_) (tv:=_) (trs:=_) ?apR ?apS ?ano
  case' apR=>exact aC
  case' apS=>refine' (bN ao)
  case' ano=>refine' mX (X:=_) (tk:=_) (tv:=_) (trs:=_) ?apT ?apU ?anp
  case' apT=>exact aC
  case' apU=>refine' bF aml ?anq ?anr
  case' anq=>refine' (bN (aa tV ao))
  case' anr=>refine' (pv 0)
  case' anp=>refine' mX (X:=_) (tk:=_) (tv:=_) (trs:=_) ?apV ?apW ?ant
  case' apV=>exact aC
  case' apW=>refine' (bN ao)
  case' ant=>refine' mX (X:=_) (tk:=_) (tv:=_) (trs:=_) ?apY ?apZ ?anu
  case' apY=>exact aC
  case' apZ=>refine' (bN ao)
  case' anu=>exact ajD
  case' Ys=>exact(lG hu (pv 2) aC (mY (iY (xs:=["_law_k"]) (ys:=["_law_numbers"]) (js:=[1]) rfl (by decide +kernel) (by decide +kernel) (by decide +kernel) (by rfl) ⟨⟨rfl,Or.inl rfl⟩,trivial⟩) rfl (iW (by rfl) T.nZ (aa (pv 0) ao)) (fun _ _ _ _ _=>(cM (i:=0) (show List.Nodup ((["_law_k"]:List Str)++(["_law_numbers"]:List Str):List Str)by decide +kernel) rfl (Or.inl rfl))) (fun _ _ _ _ _=>sJ) (fun _ _ _ _ _=>(bF aml (bN (aa aC ao)) (cX (aax (K:=K) rfl) (by rfl) T.wA PySem.boot_len (aa (pv 1) ao))))) (by rfl))
  case' Yt=>exact(lG hu (pv 2) aC (mY (iY (xs:=["_law_k"]) (ys:=["_law_numbers"]) (js:=[1]) rfl (by decide +kernel) (by decide +kernel) (by decide +kernel) (by rfl) ⟨⟨rfl,Or.inl rfl⟩,trivial⟩) rfl (iW (by rfl) T.nZ (aa (pv 0) ao)) (fun _ _ _ _ _=>(cM (i:=0) (show List.Nodup ((["_law_k"]:List Str)++(["_law_numbers"]:List Str):List Str)by decide +kernel) rfl (Or.inl rfl))) (fun _ _ _ _ _=>sJ) (fun _ _ _ _ _=>(ig (aay (K:=K) rfl) (by rfl) T.Gj PyProof.Rows.Boot.«list» (aa (pv 1) ao)))) (by rfl))
  case' Yu=>exact(lG hu (pv 2) aC (mY (iY (xs:=["_law_k"]) (ys:=[]) (js:=[]) rfl (by decide +kernel) (by decide +kernel) (by decide +kernel) (by rfl) trivial) rfl (iW (by rfl) T.nZ (aa (pv 0) ao)) (fun _ _ _ _ _=>(cM (i:=0) (show List.Nodup ((["_law_k"]:List Str)++([]:List Str):List Str)by decide +kernel) rfl (Or.inl rfl))) (fun _ _ _ _ _=>sJ) (fun _ _ _ _ _=>(bN ao))) (by rfl))
  case' ag0=>exact(lG hu (pv 2) aC (mY (iY (xs:=["_law_k"]) (ys:=[]) (js:=[]) rfl (by decide +kernel) (by decide +kernel) (by decide +kernel) (by rfl) trivial) rfl (iW (by rfl) T.nZ (aa (pv 0) ao)) (fun _ _ _ _ _=>(cM (i:=0) (show List.Nodup ((["_law_k"]:List Str)++([]:List Str):List Str)by decide +kernel) rfl (Or.inl rfl))) (fun _ _ _ _ _=>sJ) (fun _ _ _ _ _=>(bN ao))) (by rfl))
  case' ag1=>refine' tX PassesOwn.never rfl (sG (pv 1)) (cM (i:=3) sU.nd rfl (Or.inl rfl)) ?anv
  case' anv=>refine' ak ?Yy ?aiX
  case' aiX=>refine' aA ?anw
  case' Yy=>refine' bx (X:=_) (x:="_law_shelf") (e:=_) (te:=_) (i:=4) ?ap0 ?ap1 ?ap2 ?aud ?ap3 ?ap4
  case' ap0=>exact sU.nd
  case' ap1=>rfl
  case' ap2=>exact(Or.inl rfl)
  case' ap3=>rfl
  case' ap4=>exact .inl rfl
  case' aud=>refine' ajE (X:=_) (trs:=_) ?aue ?ap5 ?ap6 ?ap7 ?ap8
  case' ap5=>rfl
  case' ap6=>rfl
  case' ap7=>exact List.cons_ne_nil _ _
  case' ap8=>decide
  case' aue=>refine' mX (X:=_) (tk:=_) (tv:=_) (trs:=_) ?ap9 ?aqa ?anx
  case' ap9=>exact aC
  case' aqa=>refine' (pv 3)
  case' anx=>refine' mX (X:=_) (tk:=_) (tv:=_) (trs:=_) ?aqb ?aqc ?anz
  case' aqb=>exact aC
  case' aqc=>refine' (RX Er az)
  case' anz=>refine' mX (X:=_) (tk:=_) (tv:=_) (trs:=_) ?aqd ?aqe ?anA
  case' aqd=>exact aC
  case' aqe=>refine' (bN ao)
  case' anA=>refine' mX (X:=_) (tk:=_) (tv:=_) (trs:=_) ?aqf ?aqg ?anB
  case' aqf=>exact aC
  case' aqg=>refine' (bN ao)
  case' anB=>refine' mX (X:=_) (tk:=_) (tv:=_) (trs:=_) ?aqh ?aqi ?anC
  case' aqh=>exact aC
  case' aqi=>refine' az
  case' anC=>exact ajD
  case' anw=>exact(bO (fB PySem.F.plainAttrs_list PySem.F.slot_list_append PySem.F.type_list_append cG (bH hu (pv 2) aC (fun _ _=>rfl)) (aa (pv 4) ao)))
  case' ag2=>exact(aZ (pv 2))
  try dsimp only[dD,Cx.kZ]
  show let Z1:L2.TS:=_;let Z2:L2.TS:=_;let Z3:L2.TS:=_;let Z4:L2.TS:=_;let Z5:L2.TS:=_;let Z6:L2.TS:=_;let Z7:L2.TS:=_;let Z8:L2.TS:=aU Z6 (Z7);let Z9:L2.TS:=TQ _ _ Z8;let yW:L2.TS:=_;let D0:Ends:=_;(aU Z1 (aU Z2 (aU Z3 (aU Z4 (aU Z5 (aU Z9 (yW))))))) D0 _ _
  intro Z1 Z2 Z3 Z4 Z5 Z6 Z7 Z8 Z9 yW D0
  refine fun tw htw=>⟨Eo,fun row hrow=>⟨zz1,fun q0 hq0=>⟨_,rfl,q0,(n:Int),[.non],rfl,rfl,aj,(by lia),(by lia),?_,fun wi hwi=>⟨Eo,fun sh hsh=>⟨Eo,fun se hse=>?_⟩⟩⟩⟩⟩
  ·rw[Int.toNat_natCast];simp only[List.length_singleton];lia
  rw[Int.toNat_natCast,akj]at *
  have ntr:tw≠row:=fun z=>by rw[<-z,aj]at hrow;cases hrow
  have ntq:tw≠q0:=fun z=>by rw[<-z,aq ntr,aj]at hq0;cases hq0
  have nrq:row≠q0:=fun z=>by rw[<-z,aj]at hq0;cases hq0
  have ntw:tw≠wi:=fun z=>by rw[<-z,aq ntq,aq ntr,aj]at hwi;cases hwi
  have nrw:row≠wi:=fun z=>by rw[<-z,aq nrq,aj]at hwi;cases hwi
  have nqw:q0≠wi:=fun z=>by rw[<-z,aj]at hwi;cases hwi
  have nts:tw≠sh:=fun z=>by rw[<-z,aq ntw,aq ntq,aq ntr,aj]at hsh;cases hsh
  have nrs:row≠sh:=fun z=>by rw[<-z,aq nrw,aq nrq,aj]at hsh;cases hsh
  have nqs:q0≠sh:=fun z=>by rw[<-z,aq nqw,aj]at hsh;cases hsh
  have nws:wi≠sh:=fun z=>by rw[<-z,aj]at hsh;cases hsh
  have nte:tw≠se:=fun z=>by rw[<-z,aq nts,aq ntw,aq ntq,aq ntr,aj]at hse;cases hse
  have nre:row≠se:=fun z=>by rw[<-z,aq nrs,aq nrw,aq nrq,aj]at hse;cases hse
  have nqe:q0≠se:=fun z=>by rw[<-z,aq nqs,aq nqw,aj]at hse;cases hse
  have nwe:wi≠se:=fun z=>by rw[<-z,aq nws,aj]at hse;cases hse
  have nse:sh≠se:=fun z=>by rw[<-z,aj]at hse;cases hse
  refine⟨by rw[aq nte,aq nts,aq ntw,aq ntq,aq ntr,aj],Lk row wi sh se,rfl,(by show 4<=15;decide),?_⟩
  rw[alf]
  have aAb:H row=none:=Lv.upd _ hrow
  have fwi:H wi=none:=Lv.upd _ (Lv.upd _ (Lv.upd _ hwi))
  have fsh:H sh=none:=Lv.upd _ (Lv.upd _ (Lv.upd _ (Lv.upd _ hsh)))
  have fse:H se=none:=Lv.upd _ (Lv.upd _ (Lv.upd _ (Lv.upd _ (Lv.upd _ hse))))
  have G0:Stg n ns H (upd (upd (upd (upd (upd (upd (upd H tw (.dK [])) row (.lst [])) q0 (.lst [.non])) wi (.lst (List.replicate n .non))) sh (.lst [])) se (.lst [])) tw (.dK (Lk row wi sh se))) (A0 tw row wi sh se) ok0 (Lk row wi sh se) []:=by
   refine⟨?_,fun x y hx hy e=>?_,fun x hx=>?_,fun x hx h1 h2=>?_,.inl rfl,.inr (.inr (.inr (.inl rfl))),aj,?_⟩
   ·refine fU ?_ htw
    exact(((((aB htw).trans (aB hrow)).trans (aB hq0)).trans (aB hwi)).trans (aB hsh)).trans (aB hse)
   ·rcases hx with rfl | rfl | rfl | rfl | rfl<;>rcases hy with rfl | rfl | rfl | rfl | rfl<;>first
     | rfl
     | (exfalso;exact ntr e) | (exfalso;exact ntw e) | (exfalso;exact nts e) | (exfalso;exact nte e) | (exfalso;exact nrw e) | (exfalso;exact nrs e) | (exfalso;exact nre e) | (exfalso;exact nws e) | (exfalso;exact nwe e) | (exfalso;exact nse e)
     | (exfalso;exact ntr e.symm) | (exfalso;exact ntw e.symm) | (exfalso;exact nts e.symm) | (exfalso;exact nte e.symm) | (exfalso;exact nrw e.symm) | (exfalso;exact nrs e.symm) | (exfalso;exact nre e.symm) | (exfalso;exact nws e.symm) | (exfalso;exact nwe e.symm) | (exfalso;exact nse e.symm)
   ·rcases hx with rfl | rfl | rfl | rfl | rfl
    ·exact htw
    ·exact aAb
    ·exact fwi
    ·exact fsh
    ·exact fse
   ·rcases hx with rfl | rfl | rfl | rfl | rfl
    ·exact absurd rfl h1
    ·show upd _ tw _ row=_;rw[aq ntr.symm,aq nre,aq nrs,aq nrw,aq nrq,aj];rfl
    ·show upd _ tw _ wi=_;rw[aq ntw.symm,aq nwe,aq nws,aj];rfl
    ·exact absurd rfl h2
    ·show upd _ tw _ se=_;rw[aq nte.symm,aj];rfl
   ·show upd _ tw _ sh=_;rw[aq nts.symm,aq nse,aj]
  generalize upd (upd (upd (upd (upd (upd (upd H tw (.dK [])) row (.lst [])) q0 (.lst [.non])) wi (.lst (List.replicate n .non))) sh (.lst [])) se (.lst [])) tw (.dK (Lk row wi sh se))=H0 at G0
  clear hrow hq0 hwi hsh hse ntr ntq nrq ntw nrw nqw nts nrs nqs nws nte nre nqe nwe nse
  have nb : -(2 ^ 62)<=((n:Nat):Int)/\((n:Nat):Int)<2 ^ 62:=⟨by lia,by lia⟩
  refine⟨_,rfl,(n:Int),rfl,nb.1,nb.2,fun ar har=>?_⟩
  rw[Int.toNat_natCast]
  refine yZ (c:=List.replicate ns.length (.str "none")) (fun σ'=>∃o,σ'=[o,some (.ref l)]) ⟨_,rfl⟩ har hn (fun i σ' h=>by obtain⟨o,rfl⟩:=h;exact⟨_,rfl⟩) (fun σ' H' R ⟨o,e⟩ s' hR=>?_) (fun f1 H1 s1 ha1 hf1 aAc=>?_)
  ·subst e
   have hl':=s' _ _ (G0.sm _ _ hl)
   refine⟨zz1,fun q hq=>⟨_,rfl,l,_,rfl,.inl (cz.of (aB hq _ _ hl')),q,_,[.str "none"],rfl,rfl,aj,(by lia),?_,?_,fun z hz=>?_⟩⟩
   ·rw[List.length_map];lia
   ·rw[List.length_map,Int.toNat_natCast];simp only[List.length_singleton];lia
   ·rw[List.length_map,Int.toNat_natCast,akj]
    exact hR z _ (Lv.upd _ hz) ((aB hq).trans (aB hz)) aj
  have gt1:H1 tw=some (.dK _):=s1 _ _ G0.tw
  refine⟨_,rfl,tw,_,rfl,dput gt1 (by show 4<sizeLine;decide) apC,?_⟩
  have G1:=G0.more (A':=A1 (A0 tw row wi sh se) ar f1) (new:=fun x=>x=.rights\/∃d,d<n/\x=.rt d) (kv':=Lk row wi sh se++[(ks "rights",.ref ar)]) s1 (fun x hx=>by rcases hx with rfl | rfl | rfl | rfl | rfl<;>rfl) (fun x hx=>by rcases hx with rfl | rfl | rfl | rfl | rfl<;>rfl)
   (fun x hx=>by
     rcases hx with rfl | ⟨d,hd,rfl⟩
     ·exact⟨har,ha1⟩
     ·exact⟨(hf1 d hd).1,(hf1 d hd).2.2⟩)
   (fun x y hx hy e=>by
     rcases hx with rfl | ⟨d,hd,rfl⟩<;>rcases hy with rfl | ⟨d',hd',rfl⟩
     ·rfl
     ·exact absurd e.symm (hf1 d' hd').2.1
     ·exact absurd e (hf1 d hd).2.1
     ·rw[aAc d d' hd hd' e])
  have G1':Stg n ns H (upd H1 tw (.dK (Lk row wi sh se++[(ks "rights",.ref ar)]))) _ _ _ []:=G1
  generalize upd H1 tw (.dK (Lk row wi sh se++[(ks "rights",.ref ar)]))=H1' at G1'
  clear G1
  refine⟨_,rfl,(n:Int),rfl,nb.1,nb.2,fun ac hac=>?_⟩
  rw[Int.toNat_natCast]
  refine yZ (c:=ns.map V.int) (fun σ'=>∃o,σ'=[o,some (.ref l)]) ⟨_,rfl⟩ hac hn (fun i σ' h=>by obtain⟨o,rfl⟩:=h;exact⟨_,rfl⟩) (fun σ' H' R ⟨o,e⟩ s' hR=>?_) (fun f2 H2 s2 ha2 hf2 anD=>?_)
  ·subst e
   have hl':=s' _ _ (G1'.sm _ _ hl)
   exact⟨_,rfl,l,_,rfl,.inl (cz.of hl'),fun z hz=>hR z _ hz (aB hz) aj⟩
  have gt2:H2 tw=some (.dK _):=s2 _ _ G1'.tw
  refine⟨_,rfl,tw,_,rfl,dput gt2 (by show 5<sizeLine;decide) apD,?_⟩
  have G2:=G1'.more (A':=A2 (A1 (A0 tw row wi sh se) ar f1) ac f2) (new:=fun x=>x=.copies\/∃d,d<n/\x=.cp d) (kv':=Lk row wi sh se++[(ks "rights",.ref ar),(ks "copies",.ref ac)]) s2 (fun x hx=>by rcases hx with (rfl | rfl | rfl | rfl | rfl) | rfl | ⟨d,_,rfl⟩<;>rfl) (fun x hx=>by rcases hx with (rfl | rfl | rfl | rfl | rfl) | rfl | ⟨d,_,rfl⟩<;>rfl)
   (fun x hx=>by
     rcases hx with rfl | ⟨d,hd,rfl⟩
     ·exact⟨hac,ha2⟩
     ·exact⟨(hf2 d hd).1,(hf2 d hd).2.2⟩)
   (fun x y hx hy e=>by
     rcases hx with rfl | ⟨d,hd,rfl⟩<;>rcases hy with rfl | ⟨d',hd',rfl⟩
     ·rfl
     ·exact absurd e.symm (hf2 d' hd').2.1
     ·exact absurd e (hf2 d hd).2.1
     ·rw[anD d d' hd hd' e])
  have G2':Stg n ns H (upd H2 tw (.dK (Lk row wi sh se++[(ks "rights",.ref ar),(ks "copies",.ref ac)]))) _ _ _ []:=G2
  generalize upd H2 tw (.dK (Lk row wi sh se++[(ks "rights",.ref ar),(ks "copies",.ref ac)]))=H2' at G2'
  clear G2
  refine⟨_,rfl,(n:Int),rfl,nb.1,nb.2,fun au hau=>?_⟩
  rw[Int.toNat_natCast]
  refine yZ (c:=[]) (fun σ'=>∃o,σ'=[o]) ⟨_,rfl⟩ hau hn (fun i σ' h=>by obtain⟨o,rfl⟩:=h;exact⟨_,rfl⟩) (fun σ' H' R ⟨o,e⟩ s' hR=>?_) (fun f3 H3 s3 ha3 hf3 aAe=>?_)
  ·exact⟨Eo,fun z hz=>hR z _ hz (aB hz) aj⟩
  have gt3:H3 tw=some (.dK _):=s3 _ _ G2'.tw
  refine⟨_,rfl,tw,_,rfl,dput gt3 (by show 6<sizeLine;decide) apE,?_⟩
  have G3:=G2'.more (A':=A3 (A2 (A1 (A0 tw row wi sh se) ar f1) ac f2) au f3) (new:=fun x=>x=.ups\/∃d,d<n/\x=.up d) (kv':=Lk row wi sh se++[(ks "rights",.ref ar),(ks "copies",.ref ac),(ks "ups",.ref au)]) s3 (fun x hx=>by rcases hx with ((rfl | rfl | rfl | rfl | rfl) | rfl | ⟨d,_,rfl⟩) | rfl | ⟨d,_,rfl⟩<;>rfl) (fun x hx=>by rcases hx with ((rfl | rfl | rfl | rfl | rfl) | rfl | ⟨d,_,rfl⟩) | rfl | ⟨d,_,rfl⟩<;>rfl)
   (fun x hx=>by
     rcases hx with rfl | ⟨d,hd,rfl⟩
     ·exact⟨hau,ha3⟩
     ·exact⟨(hf3 d hd).1,(hf3 d hd).2.2⟩)
   (fun x y hx hy e=>by
     rcases hx with rfl | ⟨d,hd,rfl⟩<;>rcases hy with rfl | ⟨d',hd',rfl⟩
     ·rfl
     ·exact absurd e.symm (hf3 d' hd').2.1
     ·exact absurd e (hf3 d hd).2.1
     ·rw[aAe d d' hd hd' e])
  have G3':Stg n ns H (upd H3 tw (.dK (Lk row wi sh se++[(ks "rights",.ref ar),(ks "copies",.ref ac),(ks "ups",.ref au)]))) _ _ _ []:=G3
  generalize upd H3 tw (.dK (Lk row wi sh se++[(ks "rights",.ref ar),(ks "copies",.ref ac),(ks "ups",.ref au)]))=H3' at G3'
  clear G3
  refine⟨_,rfl,(n:Int),rfl,nb.1,nb.2,fun ad had=>?_⟩
  rw[Int.toNat_natCast]
  refine yZ (c:=[]) (fun σ'=>∃o,σ'=[o]) ⟨_,rfl⟩ had hn (fun i σ' h=>by obtain⟨o,rfl⟩:=h;exact⟨_,rfl⟩) (fun σ' H' R ⟨o,e⟩ s' hR=>?_) (fun f4 H4 s4 ha4 hf4 auf=>?_)
  ·exact⟨Eo,fun z hz=>hR z _ hz (aB hz) aj⟩
  have gt4:H4 tw=some (.dK _):=s4 _ _ G3'.tw
  refine⟨_,rfl,tw,_,rfl,dput gt4 (by show 7<sizeLine;decide) apF,?_⟩
  have G4:=G3'.more (A':=A4 (A3 (A2 (A1 (A0 tw row wi sh se) ar f1) ac f2) au f3) ad f4) (new:=fun x=>x=.downs\/∃d,d<n/\x=.dn d) (kv':=Lk row wi sh se++[(ks "rights",.ref ar),(ks "copies",.ref ac),(ks "ups",.ref au),(ks "downs",.ref ad)]) s4 (fun x hx=>by rcases hx with (((rfl | rfl | rfl | rfl | rfl) | rfl | ⟨d,_,rfl⟩) | rfl | ⟨d,_,rfl⟩) | rfl | ⟨d,_,rfl⟩<;>rfl) (fun x hx=>by rcases hx with (((rfl | rfl | rfl | rfl | rfl) | rfl | ⟨d,_,rfl⟩) | rfl | ⟨d,_,rfl⟩) | rfl | ⟨d,_,rfl⟩<;>rfl)
   (fun x hx=>by
     rcases hx with rfl | ⟨d,hd,rfl⟩
     ·exact⟨had,ha4⟩
     ·exact⟨(hf4 d hd).1,(hf4 d hd).2.2⟩)
   (fun x y hx hy e=>by
     rcases hx with rfl | ⟨d,hd,rfl⟩<;>rcases hy with rfl | ⟨d',hd',rfl⟩
     ·rfl
     ·exact absurd e.symm (hf4 d' hd').2.1
     ·exact absurd e (hf4 d hd).2.1
     ·rw[auf d d' hd hd' e])
  have G4':Stg n ns H (upd H4 tw (.dK (Lk row wi sh se++[(ks "rights",.ref ar),(ks "copies",.ref ac),(ks "ups",.ref au),(ks "downs",.ref ad)]))) _ _ _ []:=G4
  generalize upd H4 tw (.dK (Lk row wi sh se++[(ks "rights",.ref ar),(ks "copies",.ref ac),(ks "ups",.ref au),(ks "downs",.ref ad)]))=H4' at G4'
  clear G4
  have okB:∀x,ok8 n x->(((ok0 x\/(x=.rights\/∃d,d<n/\x=.rt d))\/(x=.copies\/∃d,d<n/\x=.cp d))\/(x=.ups\/∃d,d<n/\x=.up d))\/(x=.downs\/∃d,d<n/\x=.dn d):=fun x hx=>hx
  have G5:=G4'.weak (ok':=ok8 n) okB (.inl (.inl (.inl (.inl (.inl rfl))))) (.inl (.inl (.inl (.inl (.inr (.inr (.inr (.inl rfl))))))))
  clear G4' okB
  generalize hAB:A4 (A3 (A2 (A1 (A0 tw row wi sh se) ar f1) ac f2) au f3) ad f4=AB at G5
  have hkv:Lk row wi sh se++[(ks "rights",.ref ar),(ks "copies",.ref ac),(ks "ups",.ref au),(ks "downs",.ref ad)]=tkv AB:=by rw[<-hAB];rfl
  have axf:AB .bA=tw:=by rw[<-hAB];rfl
  have aAh:AB .cV=sh:=by rw[<-hAB];rfl
  refine⟨_,rfl,l,rfl,⟨_,cz.of (G5.sm _ _ hl)⟩,?_⟩
  let PV2:Nat->St->Hp->Prop:=fun i σ' H'=>(∃o3 o4,σ'=[some (.int n),some (.ref l),some (.ref tw),o3,o4])/\∃A,(∀x,ok8 n x->A x=AB x)/\Stg n ns H H' A (fun x=>ok8 n x\/∃p,p<i/\(x=.bR p\/x=.iV p\/x=.jJ p)) (Lk row wi sh se++[(ks "rights",.ref ar),(ks "copies",.ref ac),(ks "ups",.ref au),(ks "downs",.ref ad)]) ((List.range i).map fun p=>V.ref (A (.bR p)))
  refine tY (xs:=ns.map V.int) PV2 ?_ ?_ ?_ ?_
  ·refine⟨⟨_,_,rfl⟩,AB,fun x _=>rfl,G5.weak (fun x hx=>hx.elim id fun z=>by obtain⟨p,hp,_⟩:=z;exact absurd hp (Nat.not_lt_zero _)) (.inl G5.ot) (.inl G5.os)⟩
  ·rintro i σ' H' _ ⟨_,A',_,G⟩
   exact cz.of (G.sm _ _ hl)
  ·rintro i y σ' H' hy ⟨⟨o3,o4,rfl⟩,A',hA',G⟩
   have hi:i<ns.length:=by have:=(List.getElem?_eq_some_iff.mp hy).1;simpa using this
   have hy':y=.int ns[i]:=by
    rw[List.getElem?_map,List.getElem?_eq_getElem hi]at hy
    exact(Option.some.inj hy).symm
   subst hy'
   refine fun sf hsf=>⟨_,rfl,_,rfl,⟨Eo,fun r hr=>⟨Eo,fun q hq=>?_⟩⟩⟩
   have nsr:sf≠r:=fun z=>by rw[<-z,aj]at hr;cases hr
   have nsq:sf≠q:=fun z=>by rw[<-z,aq nsr,aj]at hq;cases hq
   have nrq:r≠q:=fun z=>by rw[<-z,aj]at hq;cases hq
   have hr0:H' r=none:=Lv.upd _ hr
   have hq0:H' q=none:=Lv.upd _ (Lv.upd _ hq)
   refine⟨by rw[aq nsq,aq nsr,aj],kvS ns[i] r q,rfl,(by show 5<=15;decide),?_⟩
   rw[alg]
   have hpg:pg0 ns i=⟨ns[i],none,[],[],0⟩:=by unfold pg0;rw[List.getElem?_eq_getElem hi];rfl
   rw[<-hpg]
   have s1:bZ H' (upd (upd (upd (upd H' sf (.dK [])) r (.lst [])) q (.lst [])) sf (.dK (zG (pg0 ns i) r q))):=fU (((aB hsf).trans (aB hr)).trans (aB hq)) hsf
   have c1:upd (upd (upd (upd H' sf (.dK [])) r (.lst [])) q (.lst [])) sf (.dK (zG (pg0 ns i) r q)) sf=some (.dK (zG (pg0 ns i) r q)):=aj
   have c2:upd (upd (upd (upd H' sf (.dK [])) r (.lst [])) q (.lst [])) sf (.dK (zG (pg0 ns i) r q)) r=some (.lst []):=by rw[aq nsr.symm,aq nrq,aj]
   have c3:upd (upd (upd (upd H' sf (.dK [])) r (.lst [])) q (.lst [])) sf (.dK (zG (pg0 ns i) r q)) q=some (.lst []):=by rw[aq nsq.symm,aj]
   generalize upd (upd (upd (upd H' sf (.dK [])) r (.lst [])) q (.lst [])) sf (.dK (zG (pg0 ns i) r q))=H2 at s1 c1 c2 c3
   have htw:A' .bA=tw:=by rw[hA' _ G5.ot,axf]
   have hsh:A' .cV=sh:=by rw[hA' _ G5.os,aAh]
   have gt:=s1 _ _ G.tw
   have gs:=s1 _ _ G.sh
   rw[htw]at gt
   rw[hsh]at gs
   refine zd rfl (fu gt apG) ⟨.inl ⟨rfl,_,cz.of gs⟩,_,rfl,sh,_,_,rfl,rfl,gs,by rw[List.length_map,List.length_range];lia,?_⟩
   have auh:∀x,(ok8 n x\/∃p,p<i/\(x=.bR p\/x=.iV p\/x=.jJ p))->x≠.bR i/\x≠.iV i/\x≠.jJ i:=by
    intro x hx
    rcases hx with hx | ⟨p,hp,hx⟩
    ·refine⟨?_,?_,?_⟩<;>(intro z;subst z;simp[ok8,ok0]at hx)
    ·rcases hx with rfl | rfl | rfl<;>refine⟨?_,?_,?_⟩<;>(intro z;cases z<;>exact absurd hp (Nat.lt_irrefl _))
   generalize hA2:jN (jN (jN A' (.bR i) sf) (.iV i) r) (.jJ i) q=A2'
   have e1:A2' (.bR i)=sf:=by rw[<-hA2];simp[jN]
   have e2:A2' (.iV i)=r:=by rw[<-hA2];simp[jN]
   have e3:A2' (.jJ i)=q:=by rw[<-hA2];simp[jN]
   have eo:∀x,x≠.bR i->x≠.iV i->x≠.jJ i->A2' x=A' x:=fun x h1 h2 h3=>by rw[<-hA2,bI _ _ h3,bI _ _ h2,bI _ _ h1]
   have G6:=G.bR (A':=A2') (new:=fun x=>x=.bR i\/x=.iV i\/x=.jJ i) (zs':=((List.range i).map fun p=>V.ref (A' (.bR p)))++[.ref sf]) s1
    (fun x hx=>by obtain⟨h1,h2,h3⟩:=auh x hx;exact eo x h1 h2 h3)
    (fun x hx=>by
      obtain⟨h1,h2,h3⟩:=auh x hx
      cases x with
      | bR p =>
        have hp:p≠i:=fun z=>h1 (by rw[z])
        show HO.dK _=HO.dK _
        rw[eo (.iV p) (by intro z;cases z) (by intro z;cases z;exact hp rfl) (by intro z;cases z),eo (.jJ p) (by intro z;cases z) (by intro z;cases z) (by intro z;cases z;exact hp rfl)]
      | rights=>show HO.lst _=HO.lst _;congr 1;exact List.map_congr_left fun d _=>by rw[eo (.rt d) (by intro z;cases z) (by intro z;cases z) (by intro z;cases z)]
      | copies=>show HO.lst _=HO.lst _;congr 1;exact List.map_congr_left fun d _=>by rw[eo (.cp d) (by intro z;cases z) (by intro z;cases z) (by intro z;cases z)]
      | ups=>show HO.lst _=HO.lst _;congr 1;exact List.map_congr_left fun d _=>by rw[eo (.up d) (by intro z;cases z) (by intro z;cases z) (by intro z;cases z)]
      | downs=>show HO.lst _=HO.lst _;congr 1;exact List.map_congr_left fun d _=>by rw[eo (.dn d) (by intro z;cases z) (by intro z;cases z) (by intro z;cases z)]
      | _=>rfl)
    (fun x hx=>by
      rcases hx with rfl | rfl | rfl
      ·rw[e1];exact⟨hsf,by rw[c1];show some (HO.dK _)=some (HO.dK _);rw[e2,e3]⟩
      ·rw[e2];exact⟨hr0,c2⟩
      ·rw[e3];exact⟨hq0,c3⟩)
    (fun x y hx hy e=>by
      rcases hx with rfl | rfl | rfl<;>rcases hy with rfl | rfl | rfl<;>first
       | rfl
       | (exfalso;rw[e1,e2]at e;exact nsr e) | (exfalso;rw[e1,e3]at e;exact nsq e) | (exfalso;rw[e2,e3]at e;exact nrq e)
       | (exfalso;rw[e2,e1]at e;exact nsr e.symm) | (exfalso;rw[e3,e1]at e;exact nsq e.symm) | (exfalso;rw[e3,e2]at e;exact nrq e.symm))
   rw[hsh]at G6
   refine⟨⟨_,_,rfl⟩,A2',fun x hx=>?_,?_⟩
   ·obtain⟨h1,h2,h3⟩:=auh x (.inl hx)
    rw[eo x h1 h2 h3];exact hA' x hx
   ·have ez:((List.range i).map fun p=>V.ref (A' (.bR p)))++[.ref sf]=(List.range (i+1)).map fun p=>V.ref (A2' (.bR p)):=by
     rw[List.range_succ,List.map_append]
     congr 1
     ·exact List.map_congr_left fun p hp=>by rw[eo (.bR p) (by intro z;cases z;exact absurd (List.mem_range.mp hp) (Nat.lt_irrefl _)) (by intro z;cases z) (by intro z;cases z)]
     ·show [V.ref sf]=[V.ref _];rw[e1]
    rw[ez]at G6 ⊢
    refine G6.weak (ok':=fun x=>ok8 n x\/∃p,p<i+1/\(x=.bR p\/x=.iV p\/x=.jJ p)) (fun x hx=>?_) (Or.inl G5.ot) (Or.inl G5.os)
    rcases hx with hx | ⟨p,hp,hx⟩
    ·exact .inl (.inl hx)
    ·by_cases e:p=i
     ·subst e;exact .inr hx
     ·exact .inl (.inr ⟨p,by lia,hx⟩)
  ·rintro σ' H' ⟨⟨o3,o4,rfl⟩,A',hA',G⟩
   rw[List.length_map]at G
   have hk:Lk row wi sh se++[(ks "rights",.ref ar),(ks "copies",.ref ac),(ks "ups",.ref au),(ks "downs",.ref ad)]=tkv A':=by
    rw[hkv]
    unfold tkv
    have o:∀x,ok8 n x->AB x=A' x:=fun x hx=>(hA' x hx).symm
    rw[o .row (.inl (.inl (.inl (.inl (.inr (.inl rfl)))))),o .dR (.inl (.inl (.inl (.inl (.inr (.inr (.inl rfl))))))),o .cV (.inl (.inl (.inl (.inl (.inr (.inr (.inr (.inl rfl)))))))),o .sent (.inl (.inl (.inl (.inl (.inr (.inr (.inr (.inr rfl)))))))),o .rights (.inl (.inl (.inl (.inr (.inl rfl))))),o .copies (.inl (.inl (.inr (.inl rfl)))),o .ups (.inl (.inr (.inl rfl))),o .downs (.inr (.inl rfl))]
   rw[hk]at G
   have okF:∀x:Mb,x.ok n ns.length->ok8 n x\/∃p,p<ns.length/\(x=.bR p\/x=.iV p\/x=.jJ p):=by
    intro x hx
    cases x with
    | bA=>exact .inl (.inl (.inl (.inl (.inl (.inl rfl)))))
    | row=>exact .inl (.inl (.inl (.inl (.inl (.inr (.inl rfl))))))
    | dR=>exact .inl (.inl (.inl (.inl (.inl (.inr (.inr (.inl rfl)))))))
    | cV=>exact .inl (.inl (.inl (.inl (.inl (.inr (.inr (.inr (.inl rfl))))))))
    | sent=>exact .inl (.inl (.inl (.inl (.inl (.inr (.inr (.inr (.inr rfl))))))))
    | rights=>exact .inl (.inl (.inl (.inl (.inr (.inl rfl)))))
    | copies=>exact .inl (.inl (.inl (.inr (.inl rfl))))
    | ups=>exact .inl (.inl (.inr (.inl rfl)))
    | downs=>exact .inl (.inr (.inl rfl))
    | rt d=>exact .inl (.inl (.inl (.inl (.inr (.inr ⟨d,hx,rfl⟩)))))
    | cp d=>exact .inl (.inl (.inl (.inr (.inr ⟨d,hx,rfl⟩))))
    | up d=>exact .inl (.inl (.inr (.inr ⟨d,hx,rfl⟩)))
    | dn d=>exact .inl (.inr (.inr ⟨d,hx,rfl⟩))
    | bR p=>exact .inr ⟨p,hx,.inl rfl⟩
    | iV p=>exact .inr ⟨p,hx,.inr (.inl rfl)⟩
    | jJ p=>exact .inr ⟨p,hx,.inr (.inr rfl)⟩
   have G7:=G.weak (ok':=Mb.ok n ns.length) okF trivial trivial
   have htw:A' .bA=tw:=by rw[hA' _ G5.ot,axf]
   refine⟨_,rfl,?_⟩
   rw[<-htw]
   exact k A' H' G7.mir G7.sm G7.fr
end
end gn
namespace gn
open PySem L2
theorem ag4{i j:Int}(h:i=j):decide (V.int i=V.int j)=true:=decide_eq_true (by rw[h])
theorem ag5{i j:Int}(h:i≠j):decide (V.int i=V.int j)=false:=decide_eq_false fun z=>h (V.int.inj z)
theorem Ss{ns:List Int}{k:Int}(h0:0<=k)(h1:k<(ns.length:Nat)):∃z,Ql (ns.map V.int) k=some (.int z):=by
 obtain⟨j,rfl⟩:∃j:Nat,k=(j:Int):=⟨k.toNat,by lia⟩
 have hj:j<ns.length:=by lia
 exact⟨ns[j],zM (by rw[List.getElem?_map,List.getElem?_eq_getElem hj];rfl)⟩
theorem cC.flat(x:cC):x.d.flat:=by cases x<;>simp[cC.d,D.flat,D.flats]
theorem anE{H:Hp}{b:Addr}{x:cC}(h:H b=some (.tup (cC.vs x))):Rep H (.ref b) x.d:=by
 cases x with
 | look d p=>simp only[cC.d,Rep,aH];exact⟨b,_,rfl,h,_,_,rfl,rfl,_,_,rfl,rfl,_,_,rfl,rfl,rfl⟩
 | put d p n=>simp only[cC.d,Rep,aH];exact⟨b,_,rfl,h,_,_,rfl,rfl,_,_,rfl,rfl,_,_,rfl,rfl,_,_,rfl,rfl,rfl⟩
 | rest d p=>simp only[cC.d,Rep,aH];exact⟨b,_,rfl,h,_,_,rfl,rfl,_,_,rfl,rfl,_,_,rfl,rfl,rfl⟩
 | up d=>simp only[cC.d,Rep,aH];exact⟨b,_,rfl,h,_,_,rfl,rfl,_,_,rfl,rfl,rfl⟩
 | down d=>simp only[cC.d,Rep,aH];exact⟨b,_,rfl,h,_,_,rfl,rfl,_,_,rfl,rfl,rfl⟩
theorem ag6{H:Hp}{v:V}{x:cC}(h:Rep H v x.d):∃b,v=.ref b/\H b=some (.tup (cC.vs x)):=by
 cases x with
 | look d p=>simp only[cC.d,Rep,aH]at h;obtain⟨b,xs,rfl,hb,_,_,rfl,rfl,_,_,rfl,rfl,_,_,rfl,rfl,rfl⟩:=h;exact⟨b,rfl,hb⟩
 | put d p n=>simp only[cC.d,Rep,aH]at h;obtain⟨b,xs,rfl,hb,_,_,rfl,rfl,_,_,rfl,rfl,_,_,rfl,rfl,_,_,rfl,rfl,rfl⟩:=h;exact⟨b,rfl,hb⟩
 | rest d p=>simp only[cC.d,Rep,aH]at h;obtain⟨b,xs,rfl,hb,_,_,rfl,rfl,_,_,rfl,rfl,_,_,rfl,rfl,rfl⟩:=h;exact⟨b,rfl,hb⟩
 | up d=>simp only[cC.d,Rep,aH]at h;obtain⟨b,xs,rfl,hb,_,_,rfl,rfl,_,_,rfl,rfl,rfl⟩:=h;exact⟨b,rfl,hb⟩
 | down d=>simp only[cC.d,Rep,aH]at h;obtain⟨b,xs,rfl,hb,_,_,rfl,rfl,_,_,rfl,rfl,rfl⟩:=h;exact⟨b,rfl,hb⟩
def DL(H:Hp)(vs:List V)(k:Nat):Prop:=∃ds:List cC,aH H vs (ds.map cC.d)/\ds.length<=k
theorem DL.nil(H:Hp):DL H [] 0:=⟨[],by simp[aH],Nat.le_refl _⟩
theorem DL.aX{H H':Hp}{vs:List V}{k:Nat}(t:b7 H H')(h:DL H vs k):DL H' vs k:=by obtain⟨ds,r,l⟩:=h;exact⟨ds,r.aX t (bL cC.flat _),l⟩
theorem DL.more{H:Hp}{vs:List V}{k j:Nat}(h:DL H vs k)(hk:k<=j):DL H vs j:=by obtain⟨ds,r,l⟩:=h;exact⟨ds,r,Nat.le_trans l hk⟩
theorem DL.append{H:Hp}{vs us:List V}{k j:Nat}(a:DL H vs k)(b:DL H us j):DL H (vs++us) (k+j):=by
 obtain⟨ds,r,l⟩:=a
 obtain⟨es,r',l'⟩:=b
 exact⟨ds++es,by rw[List.map_append];exact r.append r',by rw[List.length_append];lia⟩
theorem DL.cons{H:Hp}{us:List V}{k:Nat}{b:Addr}(x:cC)(h:H b=some (.tup (cC.vs x)))(r:DL H us k):DL H (.ref b::us) (k+1):=by
 obtain⟨ds,r,l⟩:=r
 refine⟨x::ds,?_,by simp;lia⟩
 simp only[List.map_cons,aH]
 exact⟨_,_,rfl,anE h,r⟩
theorem DL.one{H:Hp}{b:Addr}(x:cC)(h:H b=some (.tup (cC.vs x))):DL H [.ref b] 1:=DL.cons x h (DL.nil H)
theorem DL.len{H:Hp}{vs:List V}{k:Nat}(h:DL H vs k):vs.length<=k:=by obtain⟨ds,r,l⟩:=h;rw[r.length,List.length_map];exact l
theorem aqk{H:Hp}{d z fl:Addr}{us zs fs:List V}{Q:VK}{o:Option (Option V)}(ho:o=some (some (.ref fl)))(hd:H d=some (.lst us))(hz:H z=some (.lst zs))(hf:H fl=some (.lst fs))(hl:us.length+zs.length+fs.length<=16000000)
 (k:∀r H',bZ H H'->H r=none->H' r=some (.lst (us++zs++fs))->Q (.ref r) H'):asv (.ref d) (.ref z) H fun x H1=>∃v,o=some (some v)/\asv x v H1 Q:=by
 have sl:sizeLine=16777216:=by decide
 refine⟨d,z,us,zs,rfl,rfl,hd,hz,by lia,fun p hp=>⟨_,ho,p,fl,_,fs,rfl,rfl,aj,aB hp _ _ hf,by rw[List.length_append];lia,fun q hq=>?_⟩⟩
 exact k q _ ((aB hp).trans (aB hq)) (Lv.upd _ hq) aj
def auj:Sp:=fun vs H Q _=>∃c:Int,∃m:Nat,vs=[.int c,.int m]/\m<=1000/\∀l (ns:List Int) H',ns.length=m->H l=none->bZ H H'->H' l=some (.lst (ns.map V.int))->Q (.ref l) H'
def aql:Sp:=fun vs H Q _=>∃n:Nat,∃c:Int,vs=[.int n,.int c]/\n<=100/\∀l us H',H l=none->bZ H H'->H' l=some (.lst us)->DL H' us (20*n+100)->Q (.ref l) H'
section
variable{P:Program}{w:World}{K:PySem.W.Frag}{mg:Str->Option Value}{base:Heap}{t:JR}
theorem Us(T:Txt K w mg t):dj P w K mg base oM 1 t.fY t.rJ ["_law_cell","_law_pages"] auj:=by
 refine T.Gh.ok rn (fun vs H Q E h=>?_) (fun cdv A outer s H vs Q E hr h=>?_)
 ·obtain⟨c,m,rfl,_⟩:=h;rfl
 ·obtain⟨c,m,rfl,hm,k⟩:=h
  have sl:sizeLine=16777216:=by decide
  refine⟨_,(ak (bx (i:=2) rn.nd rfl (Or.inl rfl) (bF fK (bF zL (pv 0) az) (bF acM az az)))
   (ak (bx (i:=3) rn.nd rfl (Or.inr rfl) (bN (aa az (aa (RX Er az) (aa az (aa (pv 2) (aa (bF JG az (pv 2)) ao)))))))
   (aA (aZ (mY (iY (xs:=["_law_k"]) (ys:=["_law_some","_law_cell"]) (js:=[3,0]) rfl (by decide +kernel) (by decide +kernel) (by decide +kernel) (by rfl) ⟨⟨rfl,Or.inl rfl⟩,⟨⟨rfl,Or.inl rfl⟩,trivial⟩⟩) rfl (iW (by rfl) T.nZ (aa (pv 1) ao)) (fun _ _ _ _ _=>(cM (i:=0) (show List.Nodup ((["_law_k"]:List Str)++(["_law_some","_law_cell"]:List Str):List Str)by decide +kernel) rfl (Or.inl rfl))) (fun _ _ _ _ _=>sJ) (fun _ _ _ _ _=>(bF jP (aO (awt (K:=K) (r:=akO) bD rfl) (pv 1) (bF fK (bF jP (pv 2) (pv 0)) az) (fun _ _=>rfl)) (bF zL az (pv 0))))))))),?_⟩
  try dsimp only[dD,Cx.kZ]
  show let Z1:L2.TS:=_;let Z2:L2.TS:=_;let Z3:L2.TS:=_;let D0:Ends:=_;(aU Z1 (aU Z2 (Z3))) D0 _ _
  intro Z1 Z2 Z3 D0
  refine⟨_,rfl,_,_,rfl,rfl,.inr ⟨by decide,by decide⟩,_,_,rfl,rfl,⟨by decide,by decide,by decide⟩,_,_,rfl,rfl,(show(0:Int)<(10:Int) ^ (30:Int).toNat by decide),?_⟩
  refine⟨_,rfl,_,rfl,_,rfl,_,_,rfl,rfl,zz5,fun z hz=>?_⟩
  have fact:∃far:Int,bZ H (upd H z (.lst [.int 0,.int (-1),.int 1000000000000,.int (c*48271 % (10:Int) ^ (30:Int).toNat),.int (0 - c*48271 % (10:Int) ^ (30:Int).toNat)]))/\upd H z (.lst [.int 0,.int (-1),.int 1000000000000,.int (c*48271 % (10:Int) ^ (30:Int).toNat),.int (0 - c*48271 % (10:Int) ^ (30:Int).toNat)]) z=some (.lst ([0,-1,1000000000000,far,0 - far].map V.int)):=⟨_,aB hz,aj⟩
  obtain⟨far,s1,hz'⟩:=fact
  have go:∀H1:Hp,bZ H H1->H1 z=some (.lst ([0,-1,1000000000000,far,0 - far].map V.int))->∀acc,H1 acc=none->Ew (Itr 0 m) (abW 0) akV (WL (rI0 fun i j=>V.int (i+j)) (WL (akO K) (jj 1) (WL (rI (fun _ j=>0<j) fun i j=>V.int (i % j)) (WL (rI0 fun i j=>V.int (i+j)) (jj 2) (jj 0)) (tC (V.int 5)))) (WL (rI al7 fun i j=>V.int (i*j)) (tC (V.int 5)) (jj 0))) [none,some (.ref z),some (.int c)] acc H1 Q:=fun H1 s1 hz' acc hacc => ?go
  ·refine⟨_,rfl,(m:Int),rfl,(by lia),(by lia),fun acc hacc=>?_⟩
   exact go _ s1 hz' acc hacc
  let PV1:Nat->List V->St->Hp->Prop:=fun i zs σ' H'=>(∃o,σ'=[o,some (.ref z),some (.int c)])/\bZ H1 H'/\H' acc=some (.lst zs)/\∃ns:List Int,ns.length=i/\zs=ns.map V.int
  refine JL PV1 ?_ ?_ ?_ ?_
  ·exact⟨⟨_,rfl⟩,aB hacc,aj,[],rfl,rfl⟩
  ·rintro i zs σ' H' _ ⟨_,_,h,_⟩;exact h
  ·rintro i zs σ' H' hi ⟨⟨o,rfl⟩,s',ha',ns,hl,rfl⟩
   obtain⟨y,hy⟩:=Ss (ns:=[0,-1,1000000000000,far,0 - far]) (k:=(c+(0+(i:Int))) % 5) (by lia) (by show _<((5:Nat):Int);lia)
   refine acV ⟨_,rfl,_,rfl,_,rfl,_,_,rfl,rfl,_,_,rfl,rfl,(show(0:Int)<5 by decide),z,_,_,_,rfl,rfl,cz.of (s' _ _ hz'),hy,_,rfl,_,_,rfl,rfl,.inl ⟨by decide,by decide⟩,_,_,rfl,rfl,?_⟩
   refine Ey.mk hi ha' (by rw[List.length_map];lia) ⟨⟨_,rfl⟩,fU s' hacc,aj,ns++[y+5*(0+(i:Int))],by rw[List.length_append,hl];rfl,by rw[List.map_append];rfl⟩
  ·rintro zs σ' H' ⟨_,s',ha',ns,hl,rfl⟩
   exact k acc ns H' hl (bZ.free s1 hacc) (s1.trans s') ha'
theorem QV(T:Txt K w mg t):dj P w K mg base oM 1 t.fG t.pW ["_law_count","_law_cell"] aql:=by
 refine T.Ce.ok cU (fun vs H Q E h=>?_) (fun cdv A outer s H vs Q E hr h=>?_)
 ·obtain⟨n,c,rfl,_⟩:=h;rfl
 ·obtain⟨n,c,rfl,hn,k⟩:=h
  have sl:sizeLine=16777216:=by decide
  refine' ⟨_,?sr,?_⟩
  case' sr=>refine' ak ?Yr ?J3
  case' J3=>refine' ak ?Ys ?J4
  case' J4=>refine' ak ?Yt ?J5
  case' J5=>refine' ak ?Yu ?Yv
  case' Yv=>refine' ak ?ag0 ?Yw
  case' Yw=>refine' ak ?ag1 ?Yx
  case' Yx=>refine' ak ?ag2 ?aiY
  case' aiY=>refine' ak ?anF ?aiZ
  case' aiZ=>refine' ak ?anG ?ai0
  case' ai0=>refine' ak ?anH ?ai1
  case' ai1=>refine' aA ?ai2
  case' Yr=>exact(bx (i:=2) cU.nd rfl (Or.inl rfl) (bF JG (pv 0) az))
  case' Ys=>exact(bx (i:=3) cU.nd rfl (Or.inl rfl) (bN ao))
  case' Yt=>refine' tX PassesOwn.never rfl (iW (by rfl) T.nZ (aa (pv 0) ao)) (cM (i:=4) cU.nd rfl (Or.inl rfl)) ?anI
  case' anI=>refine' aA ?Yy
  case' Yy=>exact(bO (fB PySem.F.plainAttrs_list PySem.F.slot_list_extend PySem.F.type_list_extend lM (pv 3) (aa (bN (aa (cg (aa aC (aa (pv 4) ao))) (aa (cg (aa aC (aa (pv 4) ao))) ao))) ao)))
  case' Yu=>exact(bx (i:=3) cU.nd rfl (Or.inl rfl) (bF mW (pv 3) (pv 3)))
  case' ag0=>exact(bx (i:=5) cU.nd rfl (Or.inl rfl) (bN ao))
  case' ag1=>refine' tX PassesOwn.never rfl (iW (by rfl) T.nZ (aa (pv 0) ao)) (cM (i:=4) cU.nd rfl (Or.inl rfl)) ?anv
  case' anv=>refine' aA ?anJ
  case' anJ=>exact(bO (fB PySem.F.plainAttrs_list PySem.F.slot_list_extend PySem.F.type_list_extend lM (pv 5) (aa (bN (aa (cg (aa aC (aa (pv 4) (aa az ao)))) (aa (cg (aa aC (aa (pv 4) ao))) (aa (cg (aa aC (aa (pv 4) ao))) ao)))) ao)))
  case' ag2=>exact(bx (i:=5) cU.nd rfl (Or.inl rfl) (bF mW (pv 5) (bN (aa (cg (aa aC (aa az (aa az ao)))) (aa (cg (aa aC (aa az (aa az ao)))) (aa (cg (aa aC (aa az ao))) (aa (cg (aa aC (aa az ao))) ao)))))))
  case' anF=>exact(bx (i:=5) cU.nd rfl (Or.inl rfl) (bF mW (bF mW (pv 5) (bN (aa (cg (aa aC (aa (pv 2) (aa az (aa (aO bD (bN (aa az (aa az ao))) (bF fK (pv 1) az) (fun _ _=>rfl)) ao))))) (aa (cg (aa aC (aa (pv 2) ao))) ao)))) (pv 3)))
  case' anG=>exact(bU (aQ cQ (bF fK (bF jH (pv 1) az) az) az (aW _)) (aA (bx (i:=5) cU.nd rfl (Or.inl rfl) (bF mW (bF mW (pv 5) (bN (aa (cg (aa aC (aa (pv 2) (aa az ao)))) ao))) (pv 3)))) bw)
  case' anH=>exact(bx (i:=5) cU.nd rfl (Or.inl rfl) (bF mW (bF mW (pv 5) (bN (aa (cg (aa aC (aa az (aa az ao)))) (aa (cg (aa aC (aa az ao))) ao)))) (pv 3)))
  case' ai2=>exact(aZ (bF mW (bF mW (pv 5) (bN (aa (cg (aa aC (aa az (aa az (aa az ao))))) (aa (cg (aa aC (aa az ao))) ao)))) (pv 3)))
  try dsimp only[dD,Cx.kZ]
  show let Z1:L2.TS:=_;let Z2:L2.TS:=_;let Z3:L2.TS:=_;let Z4:L2.TS:=TQ _ _ Z3;let Z5:L2.TS:=_;let Z6:L2.TS:=_;let Z7:L2.TS:=_;let Z8:L2.TS:=TQ _ _ Z7;let Z9:L2.TS:=_;let yW:L2.TS:=_;let IV:L2.TS:=_;let IW:L2.TS:=cT _ IV bJ;let Nj:L2.TS:=_;let Nk:L2.TS:=_;let D0:Ends:=_;(aU Z1 (aU Z2 (aU Z4 (aU Z5 (aU Z6 (aU Z8 (aU Z9 (aU yW (aU IW (aU Nj (Nk))))))))))) D0 _ _
  intro Z1 Z2 Z3 Z4 Z5 Z6 Z7 Z8 Z9 yW IV IW Nj Nk D0
  refine⟨_,rfl,_,_,rfl,rfl,?_⟩
  refine⟨Eo,fun fl hfl=>?_⟩
  have nb : -(2 ^ 62)<=((n:Nat):Int)/\((n:Nat):Int)<2 ^ 62:=⟨by lia,by lia⟩
  refine⟨_,rfl,(n:Int),rfl,nb.1,nb.2,?_⟩
  rw[Int.toNat_natCast]
  let PV2:Nat->St->Hp->Prop:=fun i σ' H'=>(∃o4,σ'=[some (.int n),some (.int c),some (.int ((n:Int) - 1)),some (.ref fl),o4,none])/\bZ H H'/\∃us,H' fl=some (.lst us)/\DL H' us (2*i)
  refine Qn PV2 ?_ ?_ ?_
  ·exact⟨⟨_,rfl⟩,aB hfl,[],aj,DL.nil _⟩
  ·rintro i σ' H' hi ⟨⟨o4,rfl⟩,s',us,hf',dl⟩
   refine⟨_,rfl,.inl ⟨rfl,_,cz.of hf'⟩,⟨_,rfl,vA,fun b1 h1=>⟨_,rfl,vA,fun b2 h2=>⟨vA,fun z hz=>?_⟩⟩⟩⟩
   have sa:=((aB h1).trans (aB h2)).trans (aB (o:=.lst [.ref b1,.ref b2]) hz)
   have hlen:=dl.len
   refine⟨fl,z,us,_,rfl,rfl,sa _ _ hf',.inl (cz.of aj),by simp only[List.length_cons,List.length_nil];lia,?_⟩
   have n12:b1≠b2:=fun q=>by rw[<-q,aj]at h2;cases h2
   have c1:(upd (upd H' b1 (.tup [.str "down",.int (0+(i:Int))])) b2 (.tup [.str "up",.int (0+(i:Int))])) b1=some (.tup (cC.down (0+(i:Int))).vs):=by rw[aq n12,aj];rfl
   have c2:(upd (upd H' b1 (.tup [.str "down",.int (0+(i:Int))])) b2 (.tup [.str "up",.int (0+(i:Int))])) b2=some (.tup (cC.up (0+(i:Int))).vs):=by rw[aj];rfl
   have sz:=aB (o:=.lst [.ref b1,.ref b2]) hz
   have tl:=lH (vs:=us++[.ref b1,.ref b2]) (sa _ _ hf')
   refine⟨⟨_,rfl⟩,fU (s'.trans sa) hfl,_,aj,?_⟩
   have:=((dl.aX (bc sa)).append (DL.cons _ (sz _ _ c1) (DL.one _ (sz _ _ c2)))).aX tl
   exact this.more (by lia)
  ·rintro σ' H1 ⟨⟨o4,rfl⟩,s1,us,hf1,dl1⟩
   have aBG:=dl1.len
   refine⟨_,rfl,_,rfl,fl,fl,us,us,rfl,rfl,hf1,hf1,by lia,fun fl2 axh=>?_⟩
   have s2:=s1.trans (aB (o:=.lst (us++us)) axh)
   have dl2:DL (upd H1 fl2 (.lst (us++us))) (us++us) (4*n):=((dl1.append dl1).more (by lia)).aX (bc (aB axh))
   have hf2:upd H1 fl2 (.lst (us++us)) fl2=some (.lst (us++us)):=aj
   generalize upd H1 fl2 (.lst (us++us))=H2 at s2 dl2 hf2
   generalize us++us=fs at dl2 hf2
   refine⟨Eo,fun de hde=>?_⟩
   have hden:H de=none:=bZ.free s2 hde
   have s3:=aB (o:=.lst []) hde
   refine⟨_,rfl,(n:Int),rfl,nb.1,nb.2,?_⟩
   rw[Int.toNat_natCast]
   let PV3:Nat->St->Hp->Prop:=fun i σ' H'=>(∃o4,σ'=[some (.int n),some (.int c),some (.int ((n:Int) - 1)),some (.ref fl2),o4,some (.ref de)])/\bZ H2 H'/\∃us,H' de=some (.lst us)/\DL H' us (3*i)
   refine Qn PV3 ?_ ?_ ?_
   ·exact⟨⟨_,rfl⟩,s3,[],aj,DL.nil _⟩
   ·rintro i σ' H' hi ⟨⟨o4,rfl⟩,s',us,hf',dl⟩
    refine⟨_,rfl,.inl ⟨rfl,_,cz.of hf'⟩,⟨_,rfl,zz3,fun b1 h1=>⟨_,rfl,vA,fun b2 h2=>⟨_,rfl,vA,fun b3 h3=>⟨zz3,fun z hz=>?_⟩⟩⟩⟩⟩
    have sb2:=aB (o:=.tup [.str "up",.int (0+(i:Int))]) h2
    have sb3:=aB (o:=.tup [.str "down",.int (0+(i:Int))]) h3
    have sz:=aB (o:=.lst [.ref b1,.ref b2,.ref b3]) hz
    have sa:=(((aB h1).trans sb2).trans sb3).trans sz
    have hlen:=dl.len
    have c1:=sz _ _ (sb3 _ _ (sb2 _ _ (show upd H' b1 (.tup [.str "look",.int (0+(i:Int)),.int 0]) b1=some (.tup (cC.look (0+(i:Int)) 0).vs)from aj)))
    have c2:=sz _ _ (sb3 _ _ (show _=some (.tup (cC.up (0+(i:Int))).vs)from aj))
    have c3:=sz _ _ (show _=some (.tup (cC.down (0+(i:Int))).vs)from aj)
    refine⟨de,z,us,_,rfl,rfl,sa _ _ hf',.inl (cz.of aj),by simp only[List.length_cons,List.length_nil];lia,?_⟩
    have tl:=lH (vs:=us++[.ref b1,.ref b2,.ref b3]) (sa _ _ hf')
    refine⟨⟨_,rfl⟩,fU (s'.trans sa) hde,_,aj,?_⟩
    have:=((dl.aX (bc sa)).append (DL.cons _ c1 (DL.cons _ c2 (DL.one _ c3)))).aX tl
    exact this.more (by lia)
   ·rintro σ' H3 ⟨⟨o4,rfl⟩,s3',us3,hd3,dl3⟩
    have hf3:=s3' _ _ hf2
    have axi:=dl2.aX (bc s3')
    have s03:=s2.trans s3'
    have hl3:=dl3.len
    refine⟨_,rfl,⟨zz3,fun b1 h1=>⟨zz3,fun b2 h2=>⟨vA,fun b3 h3=>⟨vA,fun b4 h4=>⟨zz4,fun z hz=>?_⟩⟩⟩⟩⟩⟩
    have sb2:=aB (o:=.tup [.str "look",.int 0,.int 0]) h2
    have sb3:=aB (o:=.tup [.str "up",.int 0]) h3
    have sb4:=aB (o:=.tup [.str "down",.int 0]) h4
    have sz:=aB (o:=.lst [.ref b1,.ref b2,.ref b3,.ref b4]) hz
    have sa:=((((aB h1).trans sb2).trans sb3).trans sb4).trans sz
    have c1:=sz _ _ (sb4 _ _ (sb3 _ _ (sb2 _ _ (show upd H3 b1 (.tup [.str "rest",.int 0,.int 0]) b1=some (.tup (cC.rest 0 0).vs)from aj))))
    have c2:=sz _ _ (sb4 _ _ (sb3 _ _ (show _=some (.tup (cC.look 0 0).vs)from aj)))
    have c3:=sz _ _ (sb4 _ _ (show _=some (.tup (cC.up 0).vs)from aj))
    have c4:=sz _ _ (show _=some (.tup (cC.down 0).vs)from aj)
    refine⟨de,z,us3,_,rfl,rfl,sa _ _ hd3,aj,by simp only[List.length_cons,List.length_nil];lia,fun d4 hd4=>?_⟩
    have s4:=aB (o:=.lst (us3++[.ref b1,.ref b2,.ref b3,.ref b4])) hd4
    have dl4:=((dl3.aX (bc sa)).append (DL.cons _ c1 (DL.cons _ c2 (DL.cons _ c3 (DL.one _ c4))))).aX (bc s4)
    have anK:=axi.aX (bc (sa.trans s4))
    have hf4:=(sa.trans s4) _ _ hf3
    have s04:=s03.trans (sa.trans s4)
    have aqq:upd (upd (upd (upd (upd (upd H3 b1 (.tup [.str "rest",.int 0,.int 0])) b2 (.tup [.str "look",.int 0,.int 0])) b3 (.tup [.str "up",.int 0])) b4 (.tup [.str "down",.int 0])) z (.lst [.ref b1,.ref b2,.ref b3,.ref b4])) d4 (.lst (us3++[.ref b1,.ref b2,.ref b3,.ref b4])) d4=some (.lst (us3++[.ref b1,.ref b2,.ref b3,.ref b4])):=aj
    generalize upd (upd (upd (upd (upd (upd H3 b1 (.tup [.str "rest",.int 0,.int 0])) b2 (.tup [.str "look",.int 0,.int 0])) b3 (.tup [.str "up",.int 0])) b4 (.tup [.str "down",.int 0])) z (.lst [.ref b1,.ref b2,.ref b3,.ref b4])) d4 (.lst (us3++[.ref b1,.ref b2,.ref b3,.ref b4]))=H4 at dl4 anK hf4 s04 aqq
    generalize us3++[.ref b1,.ref b2,.ref b3,.ref b4]=u4 at dl4 aqq
    clear sb2 sb3 sb4 sz sa c1 c2 c3 c4 s4 h1 h2 h3 h4 hz hd4 dl3 axi hf3 s03 hd3 s3' hl3
    have hl4:=dl4.len
    have hlf:=anK.len
    have hpk:∃x:Int,Ql ([V.int 0,V.int 5]:List V) (c % 2)=some (.int x):=by
     have:c % 2=0\/c % 2=1:=by lia
     rcases this with e | e<;>rw[e]<;>exact⟨_,rfl⟩
    obtain⟨px,hpx⟩:=hpk
    refine⟨_,rfl,_,rfl,⟨vA,fun y hy=>⟨_,rfl,_,_,rfl,rfl,(show(0:Int)<2 by decide),y,_,_,_,rfl,rfl,cz.of aj,hpx,zz4,fun b1 h1=>⟨_,rfl,vA,fun b2 h2=>⟨vA,fun z hz=>?_⟩⟩⟩⟩⟩
    have sy:=aB (o:=.lst [.int 0,.int 5]) hy
    have sb1:=aB (o:=.tup [.str "put",.int ((n:Int) - 1),.int 0,.int px]) h1
    have sb2:=aB (o:=.tup [.str "up",.int ((n:Int) - 1)]) h2
    have sz:=aB (o:=.lst [.ref b1,.ref b2]) hz
    have sa:=((sy.trans sb1).trans sb2).trans sz
    have c1:=sz _ _ (sb2 _ _ (show _=some (.tup (cC.put ((n:Int) - 1) 0 px).vs)from aj))
    have c2:=sz _ _ (show _=some (.tup (cC.up ((n:Int) - 1)).vs)from aj)
    refine aqk rfl (sa _ _ aqq) aj (sa _ _ hf4) (by simp only[List.length_cons,List.length_nil];lia) fun d5 H5 s5 hd5 aul=>?_
    have dl5:DL H5 _ _:=(((dl4.aX (bc sa)).append (DL.cons _ c1 (DL.one _ c2))).append (anK.aX (bc sa))).aX (bc s5)
    have aum:=anK.aX (bc (sa.trans s5))
    have hf5:=(sa.trans s5) _ _ hf4
    have s05:=s04.trans (sa.trans s5)
    generalize (u4++[.ref b1,.ref b2])++fs=u5 at dl5 aul
    clear sy sb1 sb2 sz sa c1 c2 s5 hy h1 h2 hz hd5 dl4 anK hf4 s04 aqq hl4
    have hl5:=dl5.len
    try dsimp only[bJ]
    refine f9 (fun σ' H'=>∃o4 d6 us6,σ'=[some (.int n),some (.int c),some (.int ((n:Int) - 1)),some (.ref fl2),o4,some (.ref d6)]/\bZ H H'/\H' fl2=some (.lst fs)/\DL H' fs (4*n)/\H' d6=some (.lst us6)/\DL H' us6 (11*n+20)) (fun N hN=>?_) ?_
    ·refine⟨_,rfl,_,_,rfl,rfl,⟨by decide,by decide⟩,_,_,rfl,rfl,(show(0:Int)<3 by decide),rfl,_,rfl,?_⟩
     by_cases e:c / 2 % 3=1
     ·refine bG (ag4 e) ?_
      refine⟨_,rfl,⟨_,rfl,zz3,fun b1 h1=>⟨zz1,fun z hz=>?_⟩⟩⟩
      have sb1:=aB (o:=.tup [.str "rest",.int ((n:Int) - 1),.int 0]) h1
      have sz:=aB (o:=.lst [.ref b1]) hz
      have sa:=sb1.trans sz
      have c1:=sz _ _ (show _=some (.tup (cC.rest ((n:Int) - 1) 0).vs)from aj)
      refine aqk rfl (sa _ _ aul) aj (sa _ _ hf5) (by simp only[List.length_cons,List.length_nil];lia) fun d6 H6 s6 hd6 aAm=>?_
      have dl6:DL H6 _ _:=(((dl5.aX (bc sa)).append (DL.one _ c1)).append (aum.aX (bc sa))).aX (bc s6)
      exact hN _ _ ⟨_,d6,_,rfl,s05.trans (sa.trans s6),(sa.trans s6) _ _ hf5,aum.aX (bc (sa.trans s6)),aAm,dl6.more (by lia)⟩
     ·refine aM (ag5 e) ?_
      exact hN _ _ ⟨_,d5,_,rfl,s05,hf5,aum,aul,dl5.more (by lia)⟩
    ·rintro σ' H6 ⟨o4',d6,us6,rfl,s06,hf6,axl,hd6,dl6⟩
     have hl6:=dl6.len
     refine⟨_,rfl,⟨zz3,fun b1 h1=>⟨vA,fun b2 h2=>⟨vA,fun z hz=>?_⟩⟩⟩⟩
     have sb1:=aB (o:=.tup [.str "look",.int 0,.int 0]) h1
     have sb2:=aB (o:=.tup [.str "up",.int 0]) h2
     have sz:=aB (o:=.lst [.ref b1,.ref b2]) hz
     have sa:=(sb1.trans sb2).trans sz
     have c1:=sz _ _ (sb2 _ _ (show _=some (.tup (cC.look 0 0).vs)from aj))
     have c2:=sz _ _ (show _=some (.tup (cC.up 0).vs)from aj)
     refine aqk rfl (sa _ _ hd6) aj (sa _ _ hf6) (by simp only[List.length_cons,List.length_nil];lia) fun d7 H7 s7 hd7 aAn=>?_
     have dl7:DL H7 _ _:=(((dl6.aX (bc sa)).append (DL.cons _ c1 (DL.one _ c2))).append (axl.aX (bc sa))).aX (bc s7)
     have aAo:=axl.aX (bc (sa.trans s7))
     have hf7:=(sa.trans s7) _ _ hf6
     have s07:=s06.trans (sa.trans s7)
     have hl7:=dl7.len
     clear sb1 sb2 sz sa c1 c2 s7 h1 h2 hz hd7
     refine⟨_,rfl,⟨zz4,fun e1 h1=>⟨vA,fun e2 h2=>⟨vA,fun z2 hz=>?_⟩⟩⟩⟩
     have sb1:=aB (o:=.tup [.str "put",.int 0,.int 0,.int 7]) h1
     have sb2:=aB (o:=.tup [.str "up",.int 0]) h2
     have sz:=aB (o:=.lst [.ref e1,.ref e2]) hz
     have sa:=(sb1.trans sb2).trans sz
     have c1:=sz _ _ (sb2 _ _ (show _=some (.tup (cC.put 0 0 7).vs)from aj))
     have c2:=sz _ _ (show _=some (.tup (cC.up 0).vs)from aj)
     refine aqk rfl (sa _ _ aAn) aj (sa _ _ hf7) (by simp only[List.length_cons,List.length_nil];lia) fun d8 H8 s8 hd8 aAp=>?_
     have dl8:DL H8 _ _:=(((dl7.aX (bc sa)).append (DL.cons _ c1 (DL.one _ c2))).append (aAo.aX (bc sa))).aX (bc s8)
     exact k d8 _ H8 (bZ.free (s07.trans sa) hd8) (s07.trans (sa.trans s8)) aAp (dl8.more (by lia))
end
end gn
namespace gn
open PySem L2
def aqt:Sp:=fun vs H Q _=>∃l,∃n m:Nat,∃cs:List Int,vs=[.ref l,.int n,.int m]/\H l=some (.lst (cs.map V.int))/\0<n/\n<=100/\0<m/\m<=100/\cs.length<=100/\
 ∀r us H',H r=none->bZ H H'->H' r=some (.lst us)->DL H' us 400->Q (.ref r) H'
def xR:List V:=[.str "look",.str "put",.str "up",.str "down",.str "put",.str "look",.str "rest",.str "down"]
theorem anM{j:Int}(h0:0<=j)(h1:j<8):∃s:Str,Ql xR j=some (.str s)/\(s="put"\/s="look"\/s="rest"\/s="up"\/s="down"):=by
 have:j=0\/j=1\/j=2\/j=3\/j=4\/j=5\/j=6\/j=7:=by lia
 rcases this with rfl | rfl | rfl | rfl | rfl | rfl | rfl | rfl
 ·exact⟨_,rfl,.inr (.inl rfl)⟩
 ·exact⟨_,rfl,.inl rfl⟩
 ·exact⟨_,rfl,.inr (.inr (.inr (.inl rfl)))⟩
 ·exact⟨_,rfl,.inr (.inr (.inr (.inr rfl)))⟩
 ·exact⟨_,rfl,.inl rfl⟩
 ·exact⟨_,rfl,.inr (.inl rfl)⟩
 ·exact⟨_,rfl,.inr (.inr (.inl rfl))⟩
 ·exact⟨_,rfl,.inr (.inr (.inr (.inr rfl)))⟩
section
variable{P:Program}{w:World}{K:PySem.W.Frag}{mg:Str->Option Value}{base:Heap}{t:JR}
set_option maxHeartbeats 8000000 in
theorem aaS(T:Txt K w mg t):dj P w K mg base oM 1 t.iQ t.xJ ["_law_cells","_law_count","_law_pages"] aqt:=by
 refine T.M9.ok cu (fun vs H Q E h=>?_) (fun cdv A outer s H vs Q E hr h=>?_)
 ·obtain⟨l,n,m,cs,rfl,_⟩:=h;rfl
 ·obtain⟨l,n,m,cs,rfl,hl,hn0,hn,hm0,hm,hcs,k⟩:=h
  have sl:sizeLine=16777216:=by decide
  refine' ⟨_,?sr,?_⟩
  case' sr=>refine' ak ?Yr ?J3
  case' J3=>refine' ak ?Ys ?J4
  case' J4=>refine' ak ?Yt ?J5
  case' J5=>refine' aA ?Yu
  case' Yr=>exact(bx (i:=3) cu.nd rfl (Or.inl rfl) (bN (aa aC (aa aC (aa aC (aa aC (aa aC (aa aC (aa aC (aa aC ao))))))))))
  case' Ys=>exact(bx (i:=4) cu.nd rfl (Or.inl rfl) (bN ao))
  case' Yt=>refine' tX PassesOwn.never rfl (iW (by rfl) T.nZ (aa (bF jH (cX dq (by rfl) T.wA PySem.boot_len (aa (pv 0) ao)) az) ao)) (cM (i:=5) cu.nd rfl (Or.inl rfl)) ?anI
  case' anI=>refine' ak ?Yy ?aiX
  case' aiX=>refine' ak ?anw ?aun
  case' aun=>refine' ak ?axm ?auo
  case' auo=>refine' ak ?axn ?aup
  case' aup=>refine' ak ?axo ?auq
  case' auq=>refine' ak ?axp ?aur
  case' aur=>refine' ak ?axq ?aus
  case' aus=>refine' ak ?axr ?aut
  case' aut=>refine' ak ?axs ?auu
  case' auu=>refine' aA ?axt
  case' Yy=>exact(bx (i:=6) cu.nd rfl (Or.inl rfl) (bF jP (bF jH (aO bD (pv 0) (bF zL az (pv 5)) (fun _ _=>rfl)) az) (pv 5)))
  case' anw=>exact(bx (i:=7) cu.nd rfl (Or.inl rfl) (bF jP (aO bD (pv 0) (bF jP (bF zL az (pv 5)) az) (fun _ _=>rfl)) (pv 5)))
  case' axm=>exact(bx (i:=8) cu.nd rfl (Or.inl rfl) (bF jP (aO bD (pv 0) (bF jP (bF zL az (pv 5)) az) (fun _ _=>rfl)) (pv 5)))
  case' axn=>exact(bx (i:=9) cu.nd rfl (Or.inl rfl) (aO bD (pv 3) (bF fK (bF jP (aO bD (pv 0) (bF zL az (pv 5)) (fun _ _=>rfl)) (bF zL az (pv 5))) az) (fun _ _=>rfl)))
  case' axo=>exact(bx (i:=10) cu.nd rfl (Or.inl rfl) (bF fK (pv 6) (pv 1)))
  case' axp=>exact(bx (i:=11) cu.nd rfl (Or.inl rfl) (bF fK (pv 7) (pv 2)))
  case' axq=>refine' bU (aQ cQ (bF fK (bF jH (pv 8) az) az) az (aW _)) ?axu ?axv
  case' axu=>refine' ak ?anJ ?auv
  case' auv=>refine' aA ?axw
  case' anJ=>exact(bx (i:=12) cu.nd rfl (Or.inl rfl) (bF fK (pv 6) (bF acM az az)))
  case' axw=>exact(bx (i:=10) cu.nd rfl (Or.inl rfl) (aO bD (bN (aa (RX Er az) (aa (pv 1) (aa az (aa (bF JG (RX Er az) (pv 12)) (aa (bF jP (pv 1) (pv 12)) ao)))))) (bF fK (pv 6) az) (fun _ _=>rfl)))
  case' axv=>exact bw
  case' axr=>refine' bU (aQ cQ (bF fK (bF jH (pv 8) az) az) az (aW _)) ?axx ?axy
  case' axx=>refine' ak ?axz ?auw
  case' auw=>refine' aA ?axA
  case' axz=>exact(bx (i:=12) cu.nd rfl (Or.inl rfl) (bF fK (pv 7) (bF acM az az)))
  case' axA=>exact(bx (i:=11) cu.nd rfl (Or.inl rfl) (aO bD (bN (aa (RX Er az) (aa (pv 2) (aa az (aa (bF JG (RX Er az) (pv 12)) (aa (bF jP (pv 2) (pv 12)) ao)))))) (bF fK (pv 7) az) (fun _ _=>rfl)))
  case' axy=>exact bw
  case' axs=>refine' bU (aQ cQ (pv 9) aC (aW _)) ?axB ?axC
  case' axB=>refine' ak ?axD ?auy
  case' auy=>refine' ak ?axE ?auz
  case' auz=>refine' ak ?axF ?auA
  case' auA=>refine' ak ?axG ?auB
  case' auB=>refine' aA ?axH
  case' axD=>exact(bx (i:=13) cu.nd rfl (Or.inl rfl) (bF JG (bF fK (bF jP (bF jH (pv 7) az) (bF zL az (pv 5))) az) az))
  case' axE=>refine' bU (aQ ark (pv 13) az (aW _)) ?axI ?axJ
  case' axI=>refine' aA ?axK
  case' axK=>exact(bx (i:=13) cu.nd rfl (Or.inl rfl) az)
  case' axJ=>refine' aA ?axL
  case' axL=>exact(bU (aQ ark (pv 13) az (aW _)) (aA (bx (i:=13) cu.nd rfl (Or.inl rfl) (bF jP az (pv 13)))) bw)
  case' axF=>exact(bx (i:=14) cu.nd rfl (Or.inl rfl) (bF fK (bF zL (pv 7) az) (bF acM az az)))
  case' axG=>exact(bx (i:=13) cu.nd rfl (Or.inl rfl) (aO bD (bN (aa (pv 13) (aa (pv 13) (aa (pv 14) (aa (bF JG az (pv 14)) ao))))) (bF fK (pv 6) az) (fun _ _=>rfl)))
  case' axH=>exact(bO (fB PySem.F.plainAttrs_list PySem.F.slot_list_append PySem.F.type_list_append cG (pv 4) (aa (cg (aa (pv 9) (aa (pv 10) (aa (pv 11) (aa (pv 13) ao))))) ao)))
  case' axC=>refine' aA ?axM
  case' axM=>refine' bU (PW.pt (mU (aQ cQ (pv 9) aC (aW _)) (lL (aQ cQ (pv 9) aC (aW _))))) ?axN ?axO
  case' axN=>refine' ak ?axP ?auC
  case' auC=>refine' aA ?axQ
  case' axP=>exact(bO (fB PySem.F.plainAttrs_list PySem.F.slot_list_append PySem.F.type_list_append cG (pv 4) (aa (cg (aa (pv 9) (aa (pv 10) (aa (pv 11) ao)))) ao)))
  case' axQ=>exact(bU (PW.pt (Qm (aQ cQ (pv 9) aC (aW _)) (Lp (aQ cQ (bF fK (bF jH (pv 7) az) az) az (aW _))))) (aA (bO (fB PySem.F.plainAttrs_list PySem.F.slot_list_append PySem.F.type_list_append cG (pv 4) (aa (cg (aa aC (aa (pv 10) (aa (pv 11) ao)))) ao)))) bw)
  case' axO=>refine' aA ?auD
  case' auD=>exact(bO (fB PySem.F.plainAttrs_list PySem.F.slot_list_append PySem.F.type_list_append cG (pv 4) (aa (cg (aa (pv 9) (aa (pv 10) ao))) ao)))
  case' axt=>refine' bU (aQ RZ (bF fK (pv 8) az) az (aW _)) ?axR ?axS
  case' axR=>refine' ak ?auE ?aqu
  case' aqu=>refine' aA ?auF
  case' auE=>exact(bO (fB PySem.F.plainAttrs_list PySem.F.slot_list_append PySem.F.type_list_append cG (pv 4) (aa (cg (aa aC (aa (bF fK (pv 8) (pv 1)) ao))) ao)))
  case' auF=>exact(bO (fB PySem.F.plainAttrs_list PySem.F.slot_list_append PySem.F.type_list_append cG (pv 4) (aa (cg (aa aC (aa (bF fK (bF jP (bF jH (pv 8) az) (pv 5)) (pv 1)) ao))) ao)))
  case' axS=>exact bw
  case' Yu=>exact(aZ (pv 4))
  try dsimp only[dD,Cx.kZ]
  show let Z1:L2.TS:=_;let Z2:L2.TS:=_;let Z3:L2.TS:=_;let Z4:L2.TS:=_;let Z5:L2.TS:=_;let Z6:L2.TS:=_;let Z7:L2.TS:=_;let Z8:L2.TS:=_;let Z9:L2.TS:=_;let yW:L2.TS:=_;let IV:L2.TS:=aU Z9 (yW);let IW:L2.TS:=cT _ IV bJ;let Nj:L2.TS:=_;let Nk:L2.TS:=_;let Yk:L2.TS:=aU Nj (Nk);let Z16:L2.TS:=cT _ Yk bJ;let Z17:L2.TS:=_;let Z18:L2.TS:=_;let Z19:L2.TS:=_;let Z20:L2.TS:=cT _ Z19 bJ;let Z21:L2.TS:=cT _ Z18 Z20;let Z22:L2.TS:=_;let Z23:L2.TS:=_;let Z24:L2.TS:=_;let Z25:L2.TS:=aU Z17 (aU Z21 (aU Z22 (aU Z23 (Z24))));let Z26:L2.TS:=_;let Z27:L2.TS:=_;let Z28:L2.TS:=cT _ Z27 bJ;let Z29:L2.TS:=aU Z26 (Z28);let Z30:L2.TS:=_;let Z31:L2.TS:=cT _ Z29 Z30;let Z32:L2.TS:=cT _ Z25 Z31;let Z33:L2.TS:=_;let Z34:L2.TS:=_;let Z35:L2.TS:=aU Z33 (Z34);let Z36:L2.TS:=cT _ Z35 bJ;let Z37:L2.TS:=aU Z3 (aU Z4 (aU Z5 (aU Z6 (aU Z7 (aU Z8 (aU IW (aU Z16 (aU Z32 (Z36)))))))));let Z38:L2.TS:=TQ _ _ Z37;let Z39:L2.TS:=_;let D0:Ends:=_;(aU Z1 (aU Z2 (aU Z38 (Z39)))) D0 _ _
  intro Z1 Z2 Z3 Z4 Z5 Z6 Z7 Z8 Z9 yW IV IW Nj Nk Yk Z16 Z17 Z18 Z19 Z20 Z21 Z22 Z23 Z24 Z25 Z26 Z27 Z28 Z29 Z30 Z31 Z32 Z33 Z34 Z35 Z36 Z37 Z38 Z39 D0
  refine⟨zz8,fun wl hwl=>⟨Eo,fun as has=>?_⟩⟩
  have sw:=aB (o:=.lst xR) hwl
  have nwa:wl≠as:=fun z=>by rw[<-z,aj]at has;cases has
  have axT:H as=none:=Lv.upd _ has
  have s0:bZ H (upd (upd H wl (.lst xR)) as (.lst [])):=sw.trans (aB has)
  have hw0:upd (upd H wl (.lst xR)) as (.lst []) wl=some (.lst xR):=by rw[aq nwa,aj]
  refine⟨_,rfl,l,_,rfl,.inl (cz.of (s0 _ _ hl)),_,_,rfl,rfl,⟨by decide,by decide⟩,((cs.length / 3:Nat):Int),by rw[List.length_map];rfl,(by lia),(by lia),?_⟩
  rw[Int.toNat_natCast]
  let PV1:Nat->St->Hp->Prop:=fun i σ' H'=>(∃o5 o6 o7 o8 o9 o10 o11 o12 o13 o14,σ'=[some (.ref l),some (.int n),some (.int m),some (.ref wl),some (.ref as),o5,o6,o7,o8,o9,o10,o11,o12,o13,o14])/\bZ H H'/\H' wl=some (.lst xR)/\∃us,H' as=some (.lst us)/\DL H' us (4*i)
  refine Qn PV1 ?_ ?_ ?_
  ·exact⟨⟨_,_,_,_,_,_,_,_,_,_,rfl⟩,s0,hw0,[],aj,DL.nil _⟩
  ·rintro i σ' H' hi ⟨⟨o5,o6,o7,o8,o9,o10,o11,o12,o13,o14,rfl⟩,s',hw',us,ha',dl⟩
   have hl':=s' _ _ hl
   have hul:=dl.len
   obtain⟨x0,hx0⟩:=Ss (ns:=cs) (k:=3*(0+(i:Int))) (by lia) (by lia)
   obtain⟨x1,hx1⟩:=Ss (ns:=cs) (k:=3*(0+(i:Int))+1) (by lia) (by lia)
   obtain⟨x2,hx2⟩:=Ss (ns:=cs) (k:=3*(0+(i:Int))+2) (by lia) (by lia)
   obtain⟨wd0,hwd,hwo⟩:=anM (j:=(x0+3*(0+(i:Int))) % 8) (by lia) (by lia)
   have M5:al7 3 (0+(i:Int)):=.inl ⟨by decide,by decide⟩
   refine⟨_,rfl,_,rfl,_,_,rfl,rfl,M5,l,_,_,_,rfl,rfl,cz.of hl',hx0,_,_,rfl,rfl,⟨by decide,by decide⟩,_,rfl,_,_,rfl,rfl,?_⟩
   refine⟨_,rfl,_,rfl,_,_,rfl,rfl,M5,_,_,rfl,rfl,l,_,_,_,rfl,rfl,cz.of hl',hx1,_,rfl,_,_,rfl,rfl,?_⟩
   refine⟨_,rfl,_,rfl,_,_,rfl,rfl,M5,_,_,rfl,rfl,l,_,_,_,rfl,rfl,cz.of hl',hx2,_,rfl,_,_,rfl,rfl,?_⟩
   refine⟨_,rfl,_,rfl,_,rfl,_,_,rfl,rfl,M5,l,_,_,_,rfl,rfl,cz.of hl',hx0,_,rfl,_,_,rfl,rfl,M5,_,_,rfl,rfl,_,_,rfl,rfl,(show(0:Int)<8 by decide),wl,_,_,_,rfl,rfl,cz.of hw',hwd,?_⟩
   refine⟨_,rfl,_,rfl,_,_,rfl,rfl,(show(0:Int)<n by lia),?_⟩
   refine⟨_,rfl,_,rfl,_,_,rfl,rfl,(show(0:Int)<m by lia),?_⟩
   have P30:(0:Int)<(10:Int) ^ (30:Int).toNat:=by decide
   try dsimp only[bJ]
   refine f9 (fun σ' H''=>∃dk p12,σ'=[some (.ref l),some (.int n),some (.int m),some (.ref wl),some (.ref as),some (.int (0+(i:Int))),some (.int (x0 / 8+(0+(i:Int)))),some (.int (x1+(0+(i:Int)))),some (.int (x2+(0+(i:Int)))),some (.str wd0),some (.int dk),some (.int ((x1+(0+(i:Int))) % (m:Int))),p12,o13,o14]/\bZ H' H'') (fun N hN=>?_) ?_
   ·refine⟨_,rfl,_,_,rfl,rfl,⟨by decide,by decide⟩,_,_,rfl,rfl,(show(0:Int)<16 by decide),rfl,_,rfl,?_⟩
    by_cases e:(x2+(0+(i:Int))) / 16 % 16=7
    ·refine bG (ag4 e) ?_
     refine⟨_,rfl,_,_,rfl,rfl,⟨by decide,by decide,by decide⟩,_,_,rfl,rfl,P30,?_⟩
     obtain⟨y,hy⟩:=Ss (ns:=[-1,(n:Int),1000000000000,-2 - (x0 / 8+(0+(i:Int))) % (10:Int) ^ (30:Int).toNat,(n:Int)+(x0 / 8+(0+(i:Int))) % (10:Int) ^ (30:Int).toNat]) (k:=(x0 / 8+(0+(i:Int))) % 5) (by lia) (by show _<((5:Nat):Int);lia)
     refine⟨_,rfl,_,rfl,_,rfl,_,rfl,_,_,rfl,rfl,_,rfl,_,rfl,_,_,rfl,rfl,zz5,fun z hz=>⟨_,rfl,_,_,rfl,rfl,(show(0:Int)<5 by decide),z,_,_,_,rfl,rfl,cz.of aj,hy,?_⟩⟩
     exact hN _ _ ⟨_,_,rfl,aB hz⟩
    ·refine aM (ag5 e) ?_
     exact hN _ _ ⟨_,_,rfl,bZ.refl _⟩
   rintro σ' H1 ⟨dk,p12,rfl,s1⟩
   try dsimp only[bJ]
   refine f9 (fun σ' H''=>∃pg q12,σ'=[some (.ref l),some (.int n),some (.int m),some (.ref wl),some (.ref as),some (.int (0+(i:Int))),some (.int (x0 / 8+(0+(i:Int)))),some (.int (x1+(0+(i:Int)))),some (.int (x2+(0+(i:Int)))),some (.str wd0),some (.int dk),some (.int pg),q12,o13,o14]/\bZ H' H'') (fun N hN=>?_) ?_
   ·refine⟨_,rfl,_,_,rfl,rfl,⟨by decide,by decide⟩,_,_,rfl,rfl,(show(0:Int)<16 by decide),rfl,_,rfl,?_⟩
    by_cases e:(x2+(0+(i:Int))) / 16 % 16=11
    ·refine bG (ag4 e) ?_
     refine⟨_,rfl,_,_,rfl,rfl,⟨by decide,by decide,by decide⟩,_,_,rfl,rfl,P30,?_⟩
     obtain⟨y,hy⟩:=Ss (ns:=[-1,(m:Int),1000000000000,-2 - (x1+(0+(i:Int))) % (10:Int) ^ (30:Int).toNat,(m:Int)+(x1+(0+(i:Int))) % (10:Int) ^ (30:Int).toNat]) (k:=(x1+(0+(i:Int))) % 5) (by lia) (by show _<((5:Nat):Int);lia)
     refine⟨_,rfl,_,rfl,_,rfl,_,rfl,_,_,rfl,rfl,_,rfl,_,rfl,_,_,rfl,rfl,zz5,fun z hz=>⟨_,rfl,_,_,rfl,rfl,(show(0:Int)<5 by decide),z,_,_,_,rfl,rfl,cz.of aj,hy,?_⟩⟩
     exact hN _ _ ⟨_,_,rfl,s1.trans (aB hz)⟩
    ·refine aM (ag5 e) ?_
     exact hN _ _ ⟨_,_,rfl,s1⟩
   rintro σ' H2 ⟨pg,q12,rfl,s2⟩
   have ha2:=s2 _ _ ha'
   have dl2:=dl.aX (bc s2)
   have s02:=s'.trans s2
   have hw2:=s2 _ _ hw'
   have one:∀(H3:Hp) (x:cC) (b:Addr) (us3:List V) (j:Nat),bZ H H3->H3 wl=some (.lst xR)->H3 as=some (.lst us3)->DL H3 us3 j->H3 b=none->bZ H (upd (upd H3 b (.tup x.vs)) as (.lst (us3++[.ref b])))/\upd (upd H3 b (.tup x.vs)) as (.lst (us3++[.ref b])) wl=some (.lst xR)/\DL (upd (upd H3 b (.tup x.vs)) as (.lst (us3++[.ref b]))) (us3++[.ref b]) (j+1):=fun H3 x b us3 j s3 hw3 ha3 dl3 hb=>by
    have sb:=aB (o:=.tup x.vs) hb
    have nwb:wl≠b:=aG hw3 hb
    refine⟨fU (s3.trans sb) axT,by rw[aq nwa,aq nwb];exact hw3,?_⟩
    have tl:=lH (vs:=us3++[.ref b]) (sb _ _ ha3)
    exact((dl3.aX (bc sb)).append (DL.one x aj)).aX tl
   try dsimp only[bJ]
   refine f9 (fun σ' H''=>∃p13 p14 us2,σ'=[some (.ref l),some (.int n),some (.int m),some (.ref wl),some (.ref as),some (.int (0+(i:Int))),some (.int (x0 / 8+(0+(i:Int)))),some (.int (x1+(0+(i:Int)))),some (.int (x2+(0+(i:Int)))),some (.str wd0),some (.int dk),some (.int pg),q12,p13,p14]/\bZ H H''/\H'' wl=some (.lst xR)/\H'' as=some (.lst us2)/\DL H'' us2 (4*i+2)) (fun N hN=>?_) ?_
   ·refine⟨_,rfl,rfl,_,rfl,?_⟩
    rcases hwo with e | e | e | e | e
    ·subst e
     refine bG fJ ?_
     refine⟨_,rfl,_,_,rfl,rfl,⟨by decide,by decide⟩,_,rfl,_,_,rfl,rfl,.inl ⟨by decide,by decide⟩,_,_,rfl,rfl,_,_,rfl,rfl,(show(0:Int)<120 by decide),_,_,rfl,rfl,?_⟩
     try dsimp only[bJ]
     refine f9 (fun σ' H''=>∃nb,σ'=[some (.ref l),some (.int n),some (.int m),some (.ref wl),some (.ref as),some (.int (0+(i:Int))),some (.int (x0 / 8+(0+(i:Int)))),some (.int (x1+(0+(i:Int)))),some (.int (x2+(0+(i:Int)))),some (.str "put"),some (.int dk),some (.int pg),q12,some (.int nb),o14]/\H''=H2) (fun N' hN'=>?_) ?_
     ·refine⟨_,rfl,_,_,rfl,rfl,_,rfl,?_⟩
      by_cases e1:(69:Int)<((x1+(0+(i:Int))) / 3+7*(0+(i:Int))) % 120 - 20
      ·refine bG (decide_eq_true e1) ?_
       exact hN' _ _ ⟨_,rfl,rfl⟩
      ·refine aM (decide_eq_false e1) ?_
       refine⟨_,rfl,_,_,rfl,rfl,_,rfl,?_⟩
       by_cases e2:(60:Int)<((x1+(0+(i:Int))) / 3+7*(0+(i:Int))) % 120 - 20
       ·refine bG (decide_eq_true e2) ?_
        refine⟨_,rfl,_,_,rfl,rfl,?_⟩
        exact hN' _ _ ⟨_,rfl,rfl⟩
       ·refine aM (decide_eq_false e2) ?_
        exact hN' _ _ ⟨_,rfl,rfl⟩
     rintro σ' H2' ⟨nb,rfl,rfl⟩
     refine⟨_,rfl,_,_,rfl,rfl,.inr ⟨by decide,by decide⟩,_,_,rfl,rfl,⟨by decide,by decide,by decide⟩,_,_,rfl,rfl,P30,?_⟩
     obtain⟨y,hy⟩:=Ss (ns:=[nb,nb,(x1+(0+(i:Int)))*48271 % (10:Int) ^ (30:Int).toNat,0 - (x1+(0+(i:Int)))*48271 % (10:Int) ^ (30:Int).toNat]) (k:=(x0 / 8+(0+(i:Int))) % 4) (by lia) (by show _<((4:Nat):Int);lia)
     refine⟨_,rfl,_,rfl,_,rfl,_,rfl,_,_,rfl,rfl,zz4,fun z hz=>⟨_,rfl,_,_,rfl,rfl,(show(0:Int)<4 by decide),z,_,_,_,rfl,rfl,cz.of aj,hy,?_⟩⟩
     have sz:=aB (o:=.lst ([nb,nb,(x1+(0+(i:Int)))*48271 % (10:Int) ^ (30:Int).toNat,0 - (x1+(0+(i:Int)))*48271 % (10:Int) ^ (30:Int).toNat].map V.int)) hz
     refine⟨_,rfl,.inl ⟨rfl,_,cz.of (sz _ _ ha2)⟩,_,rfl,_,rfl,_,rfl,_,rfl,zz4,fun b hb=>⟨as,us,_,rfl,rfl,(aB hb) _ _ (sz _ _ ha2),by lia,?_⟩⟩
     obtain⟨k1,k2,k3⟩:=one _ (.put dk pg y) b us (4*i) (s02.trans sz) (sz _ _ hw2) (sz _ _ ha2) (dl2.aX (bc sz)) hb
     exact hN _ _ ⟨_,_,_,rfl,k1,k2,aj,k3.more (by lia)⟩
    ·subst e
     refine aM (dm (by decide +kernel)) ?_
     refine⟨_,rfl,rfl,_,rfl,?_⟩
     refine bG fJ (qt ?_)
     refine⟨_,rfl,.inl ⟨rfl,_,cz.of ha2⟩,_,rfl,_,rfl,_,rfl,zz3,fun b hb=>⟨as,us,_,rfl,rfl,(aB hb) _ _ ha2,by lia,?_⟩⟩
     obtain⟨k1,k2,k3⟩:=one _ (.look dk pg) b us (4*i) s02 hw2 ha2 dl2 hb
     refine⟨_,rfl,rfl,_,rfl,?_⟩
     refine aM (dm (by decide +kernel)) (wY ?_)
     exact hN _ _ ⟨_,_,_,rfl,k1,k2,aj,k3.more (by lia)⟩
    ·subst e
     refine aM (dm (by decide +kernel)) ?_
     refine⟨_,rfl,rfl,_,rfl,?_⟩
     refine aM (dm (by decide +kernel)) ?_
     refine⟨_,rfl,rfl,_,rfl,?_⟩
     refine bG fJ ?_
     refine⟨_,rfl,.inl ⟨rfl,_,cz.of ha2⟩,_,rfl,_,rfl,_,rfl,zz3,fun b hb=>⟨as,us,_,rfl,rfl,(aB hb) _ _ ha2,by lia,?_⟩⟩
     obtain⟨k1,k2,k3⟩:=one _ (.rest dk pg) b us (4*i) s02 hw2 ha2 dl2 hb
     have aAv:=k3.len
     have ha3:upd (upd H2 b (.tup (cC.rest dk pg).vs)) as (.lst (us++[.ref b])) as=some (.lst (us++[.ref b])):=aj
     have go:∀H3:Hp,bZ H H3->H3 wl=some (.lst xR)->H3 as=some (.lst (us++[.ref b]))->DL H3 (us++[.ref b]) (4*i+1)->
      (cT (avO (afQ (WL rEq (jj 9) (tC (.str "rest")))) (afQ (WL rEq (WL (rI (fun _ j=>0<j) fun i j=>V.int (i % j)) (WL (rI av1 fun i j=>V.int (i / j)) (jj 7) (tC (.int 3))) (tC (.int 2))) (tC (.int 1))))) (ajt (tBM K "list" LC (jj 4) (my (amb (my (tC (.str "look")) (my (jj 10) (my (jj 11) Ia)))) Ia))) bJ) {nx:=N,rt:=Q} [some (.ref l),some (.int n),some (.int m),some (.ref wl),some (.ref as),some (.int (0+(i:Int))),some (.int (x0 / 8+(0+(i:Int)))),some (.int (x1+(0+(i:Int)))),some (.int (x2+(0+(i:Int)))),some (.str "rest"),some (.int dk),some (.int pg),q12,o13,o14] H3:=fun H3 g1 g2 g3 g4=>by
      refine⟨_,rfl,rfl,_,rfl,?_⟩
      refine bG fJ ?_
      refine⟨_,rfl,_,_,rfl,rfl,⟨by decide,by decide⟩,_,_,rfl,rfl,(show(0:Int)<2 by decide),rfl,_,rfl,?_⟩
      by_cases e3:(x1+(0+(i:Int))) / 3 % 2=1
      ·refine bG (ag4 e3) ?_
       refine⟨_,rfl,.inl ⟨rfl,_,cz.of g3⟩,_,rfl,_,rfl,zz3,fun b2 hb2=>⟨as,_,_,rfl,rfl,(aB hb2) _ _ g3,by lia,?_⟩⟩
       obtain⟨m1,m2,m3⟩:=one _ (.look dk pg) b2 _ (4*i+1) g1 g2 g3 g4 hb2
       exact hN _ _ ⟨_,_,_,rfl,m1,m2,aj,m3.more (by lia)⟩
      ·refine aM (ag5 e3) ?_
       exact hN _ _ ⟨_,_,_,rfl,g1,g2,g3,g4.more (by lia)⟩
     exact go _ k1 k2 ha3 k3
    ·subst e
     refine aM (dm (by decide +kernel)) ?_
     refine⟨_,rfl,rfl,_,rfl,?_⟩
     refine aM (dm (by decide +kernel)) ?_
     refine⟨_,rfl,rfl,_,rfl,?_⟩
     refine aM (dm (by decide +kernel)) ?_
     refine⟨_,rfl,.inl ⟨rfl,_,cz.of ha2⟩,_,rfl,_,rfl,vA,fun b hb=>⟨as,us,_,rfl,rfl,(aB hb) _ _ ha2,by lia,?_⟩⟩
     obtain⟨k1,k2,k3⟩:=one _ (.up dk) b us (4*i) s02 hw2 ha2 dl2 hb
     exact hN _ _ ⟨_,_,_,rfl,k1,k2,aj,k3.more (by lia)⟩
    ·subst e
     refine aM (dm (by decide +kernel)) ?_
     refine⟨_,rfl,rfl,_,rfl,?_⟩
     refine aM (dm (by decide +kernel)) ?_
     refine⟨_,rfl,rfl,_,rfl,?_⟩
     refine aM (dm (by decide +kernel)) ?_
     refine⟨_,rfl,.inl ⟨rfl,_,cz.of ha2⟩,_,rfl,_,rfl,vA,fun b hb=>⟨as,us,_,rfl,rfl,(aB hb) _ _ ha2,by lia,?_⟩⟩
     obtain⟨k1,k2,k3⟩:=one _ (.down dk) b us (4*i) s02 hw2 ha2 dl2 hb
     exact hN _ _ ⟨_,_,_,rfl,k1,k2,aj,k3.more (by lia)⟩
   rintro σ' H3 ⟨p13,p14,us3,rfl,s03,hw3,ha3,dl3⟩
   have aAv:=dl3.len
   refine⟨_,rfl,_,_,rfl,rfl,(show(0:Int)<5 by decide),_,_,rfl,rfl,_,rfl,?_⟩
   by_cases e:(x2+(0+(i:Int))) % 5<4
   ·refine bG (decide_eq_true e) ?_
    refine⟨_,rfl,.inl ⟨rfl,_,cz.of ha3⟩,_,rfl,_,rfl,_,_,rfl,rfl,(show(0:Int)<n by lia),vA,fun b hb=>⟨as,us3,_,rfl,rfl,(aB hb) _ _ ha3,by lia,?_⟩⟩
    obtain⟨k1,k2,k3⟩:=one _ (.up ((x2+(0+(i:Int))) % (n:Int))) b us3 (4*i+2) s03 hw3 ha3 dl3 hb
    have aDx:=k3.len
    have ha4:upd (upd H3 b (.tup (cC.up ((x2+(0+(i:Int))) % (n:Int))).vs)) as (.lst (us3++[.ref b])) as=some (.lst (us3++[.ref b])):=aj
    refine⟨_,rfl,.inl ⟨rfl,_,cz.of ha4⟩,_,rfl,_,_,rfl,rfl,⟨by decide,by decide⟩,_,rfl,_,_,rfl,rfl,_,rfl,_,_,rfl,rfl,(show(0:Int)<n by lia),vA,fun b2 hb2=>⟨as,us3++[.ref b],_,rfl,rfl,aB hb2 as (.lst (us3++[.ref b])) aj,by lia,?_⟩⟩
    obtain⟨m1,m2,m3⟩:=one _ (.down (((x2+(0+(i:Int))) / 4+(0+(i:Int))) % (n:Int))) b2 _ (4*i+3) k1 k2 ha4 k3 hb2
    exact⟨⟨_,_,_,_,_,_,_,_,_,_,rfl⟩,m1,m2,_,aj,m3.more (by lia)⟩
   ·refine aM (decide_eq_false e) ?_
    exact⟨⟨_,_,_,_,_,_,_,_,_,_,rfl⟩,s03,hw3,_,ha3,dl3.more (by lia)⟩
  ·rintro σ' H' ⟨⟨o5,o6,o7,o8,o9,o10,o11,o12,o13,o14,rfl⟩,s',_,us,ha',dl⟩
   exact⟨_,rfl,k as us H' axT s' ha' (dl.more (by lia))⟩
end
end gn
namespace gn
open PySem L2
def aAw(K:PySem.W.Frag):Sp:=fun vs H Q _=>∃(a:Addr) (ns:List Int) (k:Int),vs=[.ref a,.int k]/\cz K H a (ns.map V.int)/\0<=k/\∀z:Int,Q (.int z) H
section
variable{P:Program}{w:World}{K:PySem.W.Frag}{mg:Str->Option Value}{base:Heap}{t:JR}
theorem Wx(T:Txt K w mg t):dj P w K mg base oM 1 t.FN t.adb ["_law_script","_law_k"] (aAw K):=by
 refine T.XS.ok apf (fun vs H Q E h=>?_) (fun cdv A outer s H vs Q E hr h=>?_)
 ·obtain⟨a,ns,k,rfl,_⟩:=h;rfl
 ·obtain⟨a,ns,k,rfl,ha,hk,q⟩:=h
  refine⟨_,(ak (bU (aQ RZ (pv 1) (cX dq (by rfl) T.wA PySem.boot_len (aa (pv 0) ao)) (aW _)) (aA (aZ (aO bD (pv 0) (pv 1) (fun _ _=>rfl)))) bw)
   (aA (aZ az))),?_⟩
  try dsimp only[dD,Cx.kZ]
  show let Z1:L2.TS:=_;let Z2:L2.TS:=cT _ Z1 bJ;let Z3:L2.TS:=_;let D0:Ends:=_;(aU Z2 (Z3)) D0 _ _
  intro Z1 Z2 Z3 D0
  refine⟨_,rfl,_,rfl,a,_,rfl,.inl ha,_,_,rfl,rfl,_,rfl,?_⟩
  by_cases h:k<((ns.map V.int).length:Nat)
  ·refine bG (decide_eq_true h) ?_
   obtain⟨z,hz⟩:=Ss hk (by simpa using h)
   exact⟨_,rfl,_,rfl,a,_,k,_,rfl,rfl,ha,hz,q z⟩
  ·refine aM (decide_eq_false h) ?_
   exact q 0
end
theorem anN(n p:Nat):cnt n p (fun _=>[]) (fun _=>[])=0:=by
 unfold cnt
 induction n with
 | zero=>rfl
 | succ n ih=>rw[yu,ih];rfl
theorem jx.start(n:Nat)(ns:List Int):jx n ns.length (S0 ns) where
 pn p _:=⟨(fun x h=>nomatch h),(fun x h=>nomatch h),(fun x h=>nomatch h)⟩
 am p _:=⟨fun _=>rfl,fun _=>rfl⟩
 up d _ l h:=by cases h
 dn d _ l h:=by cases h
 ws d _ w h:=by cases h
 ct p _:=by rw[show(S0 ns).up=fun _=>[]from rfl,show(S0 ns).dn=fun _=>[]from rfl,anN];rfl
theorem Bd.start(ns:List Int):Bd 0 (S0 ns) []:=⟨fun p=>Nat.le_refl _,fun d=>Nat.le_refl _,Nat.le_refl _,fun d=>Nat.zero_le _,Nat.zero_le _⟩
theorem Bd.sent{t:Nat}{S:TS}{se:List (Nat×Let)}(b:Bd t S se):Bd t S []:=⟨b.mu,b.up,b.row,b.dn,Nat.zero_le _⟩
theorem ints_rep(H:Hp):∀ns:List Int,aH H (ns.map V.int) (ns.map D.i)
 | []=>by simp[aH]
 | x::ns=>by simp only[List.map_cons,aH];exact⟨_,_,rfl,rfl,ints_rep H ns⟩
theorem ints_size:∀ns:List Int,D.sizes (ns.map D.i)<=2*ns.length
 | []=>by simp[D.sizes]
 | x::ns=>by have:=ints_size ns;simp only[List.map_cons,D.sizes,D.size,List.length_cons];lia
theorem anO(u v:Int)(hu:1<=u/\u<=20)(hv:1<=v/\v<=20)(b:Bool):∃n:Nat,0<n/\n<=20/\Ql [V.int u,V.int v] (if b=true then 1 else 0)=some (.int n):=by
 cases b with
 | false=>exact⟨u.toNat,by lia,by lia,by rw[Int.toNat_of_nonneg (by lia)];rfl⟩
 | true=>exact⟨v.toNat,by lia,by lia,by rw[Int.toNat_of_nonneg (by lia)];rfl⟩
theorem anP(ns:List Int)(lo hi:Option Int):∃cs:List Int,Qq (ns.map V.int) lo hi=cs.map V.int/\cs.length<=ns.length:=by
 refine⟨((ns.drop (HT.mR (ns.map V.int).length 0 lo)).take (HT.mR (ns.map V.int).length (ns.map V.int).length hi - HT.mR (ns.map V.int).length 0 lo)),?_,?_⟩
 ·unfold Qq;rw[<-List.map_drop,<-List.map_take]
 ·rw[List.length_take,List.length_drop];lia
theorem cz.same{K:PySem.W.Frag}{H H':Hp}{a:Addr}{xs:List V}(h:cz K H a xs)(s:bZ H H'):cz K H' a xs:=by
 rcases h with (h | ⟨o,h⟩) | h
 ·exact .inl (.inl (s _ _ h))
 ·exact .inl (.inr ⟨o,s _ _ h⟩)
 ·exact .inr h
end gn
namespace gn
open PySem L2
def anQ(c:C4)(X:Addr):Sp:=fun vs H Q E=>∃B n m S k,∃d:Int,vs=[.ref (B .bA),.int d]/\cF c H B n m S k/\(inR d n->Q .non H)/\(¬inR d n->E (.ref X) none H)
def anR(c:C4)(X:Addr):Sp:=fun vs H Q E=>∃B n m S k,∃d:Int,vs=[.ref (B .bA),.int d]/\cF c H B n m S k/\(inR d m->Q .non H)/\(¬inR d m->E (.ref X) none H)
def auH(X:Addr):Sp:=fun vs H Q E=>∃s l xs,vs=[s,.ref l]/\H l=some (.lst xs)/\(xs=[]->E (.ref X) none H)/\∀v r,xs=v::r->Q v (upd H l (.lst r))
def akk(c:C4):Sp:=fun vs H Q _=>∃B n m S k a l1 l2 xs ys es us,∃d:Nat,vs=[.ref (B .bA),.int d,.ref a]/\cF c H B n m S k/\d<n/\H a=some (.tup [.ref l1,.ref l2])/\H l1=some (.lst xs)/\H l2=some (.lst ys)/\aH H xs (es.map evD)/\aH H ys (us.map UL.d)/\
 (∀x:Tb,x.ok n m->l1≠B x)/\(∀x:Tb,x.ok n m->l2≠B x)/\S.row.length+es.length<=1000000/\(S.up d).length+us.length<=1000000/\
 ∀H',cF c H' B n m {S with up:=aF S.up d (S.up d++us),row:=dg S.row d es} k->TF H H' B n m->H' l1=some (.lst xs)->aH H' xs (es.map evD)->Q (.ref l1) H'
theorem ag8(es:List Ev):D.flats (es.map evD):=bL (fun e=>by simp[evD,D.flat,D.flats]) es
theorem akl{H:Hp}:∀{es:List Ev} {xs:List V} {i:Nat} {y:V},aH H xs (es.map evD)->xs[i]? = some y->∃e,es[i]? = some e/\Rep H y (evD e)
 | [],xs,i,y,h,hy=>by simp only[List.map_nil,aH]at h;subst h;simp at hy
 | e::es,xs,i,y,h,hy=>by
   simp only[List.map_cons,aH]at h
   obtain⟨v,us,rfl,rv,rl⟩:=h
   cases i with
   | zero=>simp at hy;subst hy;exact⟨e,rfl,rv⟩
   | succ i=>simp at hy;obtain⟨e',h1,h2⟩:=akl rl hy;exact⟨e',by simpa using h1,h2⟩
theorem ag9{row:List RE}{d i:Nat}{es:List Ev}{e:Ev}(h:es[i]? = some e):dg row d (es.take (i+1))=dg row d (es.take i)++[⟨e.1,d,e.2.1,e.2.2⟩]:=by
 unfold dg
 rw[List.take_add_one,h]
 simp
section
variable{P:Program}{w:World}{K:PySem.W.Frag}{mg:Str->Option Value}{base:Heap}{t:JR}
abbrev c4(t:JR):C4:=⟨t.bz,t.bK,t.ie,t.aD⟩
theorem J6(T:Txt K w mg t):dj P w K mg base (CX1 P w) 1 t.dw t.lU ["self","desk"] (anQ (c4 t) t.bj):=by
 refine T.Mw.okX JP (fun vs H Q E h=>?_) (fun cdv A outer s H vs Q E hr h=>?_)
 ·obtain⟨B,n,m,S,k,d,rfl,_⟩:=h;rfl
 ·obtain⟨B,n,m,S,k,d,rfl,TA,k1,k2⟩:=h
  refine⟨_,(aA (bU (PW.pt (mU (aQ RZ (pv 1) az (aW _)) (lL (aQ Ls (pv 1) (cX dq (by rfl) T.wA PySem.boot_len (aa (cL (pv 0) (by rfl)) ao)) (aW _))))) (aA (Eu T.Xx (by rfl) T.agr rfl LR (aa aC ao))) bw)),?_⟩
  try dsimp only[dD,Cx.kZ]
  show let Z1:L2.TS:=_;let Z2:L2.TS:=cT _ Z1 bJ;let D0:Ends:=_;(Z2) D0 _ _
  intro Z1 Z2 D0
  obtain⟨dx,ht⟩:=TA.ob
  refine⟨_,rfl,_,_,rfl,rfl,_,rfl,?_⟩
  by_cases h0:d<0
  ·refine bG (decide_eq_true h0) (qt ?_)
   exact⟨zz1,k2 fun h=>by unfold inR at h;lia⟩
  ·refine aM (decide_eq_false h0) ?_
   refine⟨_,rfl,_,rfl,B .bA,_,dx,_,_,rfl,ht,T.dM,T.gM,yw,B .mF,_,rfl,.inl (cz.of TA.ds),_,_,rfl,rfl,_,rfl,?_⟩
   rw[List.length_map,List.length_range]
   by_cases h1:(n:Int)<=d
   ·refine bG (decide_eq_true h1) ?_
    exact⟨zz1,k2 fun h=>by unfold inR at h;lia⟩
   ·refine aM (decide_eq_false h1) ?_
    exact k1 ⟨by lia,by lia⟩
theorem J7(T:Txt K w mg t):dj P w K mg base (CX1 P w) 1 t.dB t.lV ["self","page"] (anR (c4 t) t.bf):=by
 refine T.My.okX JQ (fun vs H Q E h=>?_) (fun cdv A outer s H vs Q E hr h=>?_)
 ·obtain⟨B,n,m,S,k,d,rfl,_⟩:=h;rfl
 ·obtain⟨B,n,m,S,k,d,rfl,TA,k1,k2⟩:=h
  refine⟨_,(aA (bU (PW.pt (mU (aQ RZ (pv 1) az (aW _)) (lL (aQ Ls (pv 1) (cL (pv 0) (by rfl)) (aW _))))) (aA (Eu T.Mq (by rfl) T.ags rfl LR (aa aC ao))) bw)),?_⟩
  try dsimp only[dD,Cx.kZ]
  show let Z1:L2.TS:=_;let Z2:L2.TS:=cT _ Z1 bJ;let D0:Ends:=_;(Z2) D0 _ _
  intro Z1 Z2 D0
  obtain⟨dx,ht⟩:=TA.ob
  refine⟨_,rfl,_,_,rfl,rfl,_,rfl,?_⟩
  by_cases h0:d<0
  ·refine bG (decide_eq_true h0) (qt ?_)
   exact⟨zz1,k2 fun h=>by unfold inR at h;lia⟩
  ·refine aM (decide_eq_false h0) ?_
   refine⟨_,rfl,_,rfl,B .bA,_,dx,_,_,rfl,ht,T.dM,T.jq,ak4,_,_,rfl,rfl,_,rfl,?_⟩
   by_cases h1:(m:Int)<=d
   ·refine bG (decide_eq_true h1) ?_
    exact⟨zz1,k2 fun h=>by unfold inR at h;lia⟩
   ·refine aM (decide_eq_false h1) ?_
    exact k1 ⟨by lia,by lia⟩
theorem qL(T:Txt K w mg t):dj P w K mg base (CX1 P w) 1 t.cR t.j7 ["self","road"] (auH t.aJ):=by
 refine T.Ig.okX Fz (fun vs H Q E h=>?_) (fun cdv A outer s H vs Q E hr h=>?_)
 ·obtain⟨B,n,m,rfl,_⟩:=h;rfl
 ·obtain⟨sv,l,xs,rfl,hl,k1,k2⟩:=h
  refine⟨_,(ak (bU (qW (Es (pv 1) (fun _=>rfl))) (aA (Eu T.lX (by rfl) T.Xy rfl LR (aa aC ao))) bw)
   (aA (aZ (fB PySem.F.plainAttrs_list PySem.F.slot_list_pop PySem.F.type_list_pop Et (pv 1) (aa az ao))))),?_⟩
  try dsimp only[dD,Cx.kZ]
  show let Z1:L2.TS:=_;let Z2:L2.TS:=cT _ Z1 bJ;let Z3:L2.TS:=_;let D0:Ends:=_;(aU Z2 (Z3)) D0 _ _
  intro Z1 Z2 Z3 D0
  cases xs with
  | nil =>
    refine⟨_,rfl,_,.inl ⟨[],cz.of hl,rfl⟩,?_⟩
    exact qt ⟨zz1,k1 rfl⟩
  | cons v r =>
    refine⟨_,rfl,_,.inl ⟨v::r,cz.of hl,rfl⟩,wY ?_⟩
    exact⟨_,rfl,.inl ⟨rfl,_,cz.of hl⟩,l,_,0,0,_,rfl,rfl,hl,(by decide),(by decide),amF _ _,rfl,k2 v r rfl⟩
theorem oh(T:Txt K w mg t):dj P w K mg base oM 1 t.dJ t.nO ["self","desk","told"] (akk (c4 t)):=by
 refine T.QL.ok jK (fun vs H Q E h=>?_) (fun cdv A outer s H vs Q E hr h=>?_)
 ·obtain⟨B,n,m,S,k,a,l1,l2,xs,ys,es,us,d,rfl,_⟩:=h;rfl
 ·obtain⟨B,n,m,S,k,a,l1,l2,xs,ys,es,us,d,rfl,TA,hd,ha,h1,h2,r1,r2,n1,n2,z1,z2,fin⟩:=h
  have sl:sizeLine=16777216:=by decide
  refine⟨_,(ak (tX PassesOwn.never rfl (sG (aO bB (pv 2) az (fun _ _=>rfl))) (JF rfl (fP (cM (i:=3) jK.nd rfl (Or.inl rfl)) (fP (cM (i:=4) jK.nd rfl (Or.inl rfl)) (fP (cM (i:=5) jK.nd rfl (Or.inl rfl)) zJ)))) (aA (bO (fB PySem.F.plainAttrs_list PySem.F.slot_list_append PySem.F.type_list_append cG (cL (pv 0) (by rfl)) (aa (cg (aa (pv 3) (aa (pv 1) (aa (pv 4) (aa (pv 5) ao))))) ao)))))
   (ak (bO (fB PySem.F.plainAttrs_list PySem.F.slot_list_extend PySem.F.type_list_extend lM (aO bD (cL (pv 0) (by rfl)) (pv 1) (fun _ _=>rfl)) (aa (aO bB (pv 2) az (fun _ _=>rfl)) ao)))
   (aA (aZ (aO bB (pv 2) az (fun _ _=>rfl)))))),?_⟩
  try dsimp only[dD,Cx.kZ]
  show let Z1:L2.TS:=_;let Z2:L2.TS:=TQ _ _ Z1;let Z3:L2.TS:=_;let Z4:L2.TS:=_;let D0:Ends:=_;(aU Z2 (aU Z3 (Z4))) D0 _ _
  intro Z1 Z2 Z3 Z4 D0
  refine zt rfl (cW.of ha) rfl ⟨l1,rfl,⟨_,cz.of h1⟩,?_⟩
  have hxl:xs.length=es.length:=by rw[r1.length,List.length_map]
  let PV1:Nat->St->Hp->Prop:=fun i σ' H'=>(∃o1 o2 o3,σ'=[some (.ref (B .bA)),some (.int d),some (.ref a),o1,o2,o3])/\i<=xs.length/\cF (c4 t) H' B n m {S with row:=dg S.row d (es.take i)} k/\TF H H' B n m
  refine tY (xs:=xs) PV1 ?_ ?_ ?_ ?_
  ·refine⟨⟨_,_,_,rfl⟩,Nat.zero_le _,?_,TF.refl _ _ _ _⟩
   simpa[dg] using TA
  ·rintro i σ' H' _ ⟨_,_,_,f'⟩
   exact cz.of (f'.kp _ _ h1 n1)
  ·rintro i y σ' H' hy ⟨⟨o1,o2,o3,rfl⟩,hi,T',f'⟩
   have hi':i<xs.length:=(List.getElem?_eq_some_iff.mp hy).1
   obtain⟨e,he,re⟩:=akl (r1.aX (f'.tups TA) (ag8 _)) hy
   simp only[evD,Rep,aH]at re
   obtain⟨c,us',rfl,hc,_,_,rfl,rfl,_,_,rfl,rfl,_,_,rfl,rfl,rfl⟩:=re
   refine⟨c,_,rfl,cW.of hc,rfl,_,_,rfl,_,_,rfl,_,_,rfl,rfl,?_⟩
   obtain⟨dx,ht⟩:=T'.ob
   obtain⟨rv,e1,e2⟩:=T'.row
   have hrl:rv.length<sizeLine:=by
    rw[e2.length,List.length_map]
    show(dg S.row d (es.take i)).length<_
    unfold dg
    rw[List.length_append,List.length_map,List.length_take]
    lia
   refine⟨_,rfl,B .bA,_,dx,_,_,rfl,ht,T.dM,T.qJ,ajV,.inl ⟨rfl,_,cz.of e1⟩,_,rfl,_,rfl,_,rfl,_,rfl,zz4,fun b hbn=>?_⟩
   have s3:=aB (o:=.tup [.str (aca e.1),.int d,.int e.2.1,.int e.2.2]) hbn
   refine⟨B .row,rv,_,rfl,rfl,s3 _ _ e1,hrl,?_⟩
   have rp3:aH (upd H' b (.tup [.str (aca e.1),.int d,.int e.2.1,.int e.2.2])) (rv++[.ref b]) ((dg S.row d (es.take (i+1))).map RE.d):=by
    rw[ag9 he,List.map_append]
    refine aH.snoc (e2.aX (bc s3) (bL RE.flat _)) ?_
    simp only[RE.d,Rep,aH]
    exact⟨b,_,rfl,aj,_,_,rfl,rfl,_,_,rfl,rfl,_,_,rfl,rfl,_,_,rfl,rfl,rfl⟩
   have T4:=(T'.same s3).amO rp3
   exact⟨⟨_,_,_,rfl⟩,by lia,T4,f'.trans ((TF.of_same s3).trans (TF.wr (x:=.row) trivial) (Tv.refl _ _ _ _)) (Tv.refl _ _ _ _)⟩
  ·rintro σ' H' ⟨⟨o1,o2,o3,rfl⟩,_,T',f'⟩
   rw[hxl,List.take_length]at T'
   obtain⟨dx,ht⟩:=T'.ob
   obtain⟨uv,u1,u2⟩:=T'.up d hd
   have ha':=f'.tups TA _ _ ha
   have h2':=f'.kp _ _ h2 n2
   have r2':=r2.aX (f'.tups TA) (bL UL.flat _)
   have hul:uv.length+ys.length<=sizeLine:=by
    rw[u2.length,r2.length,List.length_map,List.length_map]
    show(S.up d).length+us.length<=_
    lia
   refine⟨_,rfl,B .bA,_,dx,_,_,rfl,ht,T.dM,T.gO,ac0,_,rfl,B .ups,_,_,_,rfl,rfl,cz.of T'.us,bM hd,.inl ⟨rfl,_,cz.of u1⟩,zt rfl (cW.of ha') rfl ⟨B (.up d),l2,uv,ys,rfl,rfl,u1,.inl (cz.of h2'),hul,?_⟩⟩
   have ru:aH H' (uv++ys) ((S.up d++us).map UL.d):=by rw[List.map_append];exact aH.append u2 r2'
   have T5:=T'.agg hd ru
   have f5:=f'.trans (TF.wr (B:=B) (x:=.up d) (n:=n) (m:=m) hd (o:=.lst (uv++ys))) (Tv.refl _ _ _ _)
   have ha5:=f5.tups TA _ _ ha
   refine zt rfl (cW.of ha5) rfl ?_
   exact fin _ T5 f5 (f5.kp _ _ h1 n1) (r1.aX (f5.tups TA) (ag8 _))
end
end gn
namespace gn
open PySem L2
theorem anS{H H1:Hp}{v:V}{es:List Ev}{us:List UL}(t:b7 H H1)(r:Rep (nw H H1) v (.t [.l (es.map evD),.l (us.map UL.d)])) :
 ∃a l1 l2 xs ys,v=.ref a/\H1 a=some (.tup [.ref l1,.ref l2])/\H1 l1=some (.lst xs)/\H1 l2=some (.lst ys)/\aH H1 xs (es.map evD)/\aH H1 ys (us.map UL.d)/\H l1=none/\H l2=none:=by
 simp only[Rep,aH]at r
 obtain⟨a,xs,rfl,ha,v1,q1,rfl,⟨l1,x1,rfl,h1,r1⟩,v2,q2,rfl,⟨l2,x2,rfl,h2,r2⟩,rfl⟩:=r
 have key:∀{l:Addr} {z:List V},nw H H1 l=some (.lst z)->H l=none:=fun {l z} e=>by
  obtain⟨e1,e2 | ⟨ys,e2⟩⟩:=mZ e
  ·exact e2
  ·have:=t _ _ e2;rw[e1]at this;cases this
 exact⟨a,l1,l2,x1,x2,rfl,(mZ ha).1,(mZ h1).1,(mZ h2).1,r1.mono aix,r2.mono aix,key h1,key h2⟩
theorem Yz{c:C4}{H H1:Hp}{B:Tb->Addr}{n m d:Nat}{S:TS}{k k':Nat}{z:DS×List Ev×List UL}{v:V}{Q:VK}{E:XK}(TA:cF c H B n m S k)(hd:d<n)(z1:z.2.1.length<=1)(z2:z.2.2.length<=1)(hr:S.row.length<=1500)(hu:(S.up d).length<=1500)
 (D1:cj c.D H1 (B (.dk d)) (B (.cp d)) z.1 k') (hk:k<=k') (f1:DF H H1 (B (.dk d)) (B (.cp d))) (r1:Rep (nw H H1) v (.t [.l (z.2.1.map evD),.l (z.2.2.map UL.d)]))
 (fin:∀l1 xs H2,cF c H2 B n m (S.jX d z) k'->TF H H2 B n m->H2 l1=some (.lst xs)->aH H2 xs (z.2.1.map evD)->Q (.ref l1) H2):akk c [.ref (B .bA),.int d,v] H1 Q E:=by
 obtain⟨T1,g1⟩:=TA.jX hd D1 f1 hk
 obtain⟨a,l1,l2,xs,ys,rfl,ha,h1,h2,q1,q2,n1,n2⟩:=anS (g1.tups TA) r1
 refine⟨B,n,m,_,k',a,l1,l2,xs,ys,z.2.1,z.2.2,d,rfl,T1,hd,ha,h1,h2,q1,q2,fun x hx=>(TA.ne hx n1).symm,fun x hx=>(TA.ne hx n2).symm,?_,?_,fun H2 T2 f2 e1 e2=>fin l1 xs H2 T2 (g1.trans f2 (Tv.refl _ _ _ _)) e1 e2⟩
 ·show S.row.length+_<=_;lia
 ·show(S.up d).length+_<=_;lia
def akm(S:DS):W->D
 | .look p=>if S.ok (.look p)then .i (S.nm p)else .s "waits"
 | .put p x=>if S.ok (.put p x)then .s "done" else .s "waits"
def auI(c:C4)(X:Addr)(H:Hp)(B:Tb->Addr)(n m:Nat)(S:TS)(k d p:Nat)(w:W)(Q:VK)(E:XK):Prop :=
 ((S.ds d).ws=none->∀v H',cF c H' B n m (S.jX d ((S.ds d).gZ w p)) (k+2)->TF H H' B n m->Rep H' v (akm (S.ds d) w)->Q v H')/\((S.ds d).ws≠none->∀H',bZ H H'->E (.ref X) none H')
def auJ(c:C4)(X:Addr):Sp:=fun vs H Q E=>∃B n m S k,∃d p:Nat,vs=[.ref (B .bA),.int d,.int p]/\cF c H B n m S k/\d<n/\S.row.length<=1500/\(S.up d).length<=1500/\k<=800000/\auI c X H B n m S k d p (.look p) Q E
def axW(c:C4)(X:Addr):Sp:=fun vs H Q E=>∃B n m S k,∃d p:Nat,∃x:Int,vs=[.ref (B .bA),.int d,.int p,.int x]/\cF c H B n m S k/\d<n/\S.row.length<=1500/\(S.up d).length<=1500/\k<=800000/\auI c X H B n m S k d p (.put p x) Q E
def auK(c:C4)(X:Addr):Sp:=fun vs H Q E=>∃B n m S k,∃d p:Nat,vs=[.ref (B .bA),.int d,.int p]/\cF c H B n m S k/\d<n/\(S.up d).length<=1500/\k<=800000/\
 ((S.ds d).rt p≠.no->∀H',cF c H' B n m (S.lg d p) (k+2)->TF H H' B n m->Q (.str "done") H')/\((S.ds d).rt p=.no->E (.ref X) none H)
section
variable{P:Program}{w:World}{K:PySem.W.Frag}{mg:Str->Option Value}{base:Heap}{t:JR}
theorem Ut(T:Txt K w mg t):dj P w K mg base (CX1 P w) 4 t.eY t.rF ["self","desk","page"] (auJ (c4 t) t.aN):=by
 refine T.XJ.okX BX (fun vs H Q E h=>?_) (fun cdv A outer s H vs Q E hr h=>?_)
 ·obtain⟨B,n,m,S,k,d,p,rfl,_⟩:=h;rfl
 ·obtain⟨B,n,m,S,k,d,p,rfl,TA,hd,z1,z2,z3,k1,k2⟩:=h
  refine⟨_,(ak (bx (i:=3) BX.nd rfl (Or.inl rfl) (cD (pv 0) T.dM T.nY (oh T) (hr.mono (by decide):bQ 1 _) T.p6 .nil bW (aa (pv 1) (aa (cD (aO bD (cL (pv 0) (by rfl)) (pv 1) (fun _ _=>rfl)) T.dF T.Ms (Nh T) (hr.mono (by decide):bQ 3 _) T.R8 .nil BP (aa (cg (aa aC (aa (pv 2) ao))) ao)) ao))))
   (aA (aZ (qp (Es (pv 3) (fun _=>rfl)) (aO bB (aO bD (pv 3) az (fun _ _=>rfl)) az (fun _ _=>rfl)) (ir (by rfl) T.aka))))),?_⟩
  try dsimp only[dD,Cx.kZ]
  show let Z1:L2.TS:=_;let Z2:L2.TS:=_;let D0:Ends:=_;(aU Z1 (Z2)) D0 _ _
  intro Z1 Z2 D0
  obtain⟨dx,ht⟩:=TA.ob
  obtain⟨⟨zF,wv,g1,_⟩,_⟩:=TA.dk d hd
  refine⟨_,rfl,B .bA,dx,_,rfl,ht,aiI,_,rfl,_,rfl,B .bA,_,dx,_,_,rfl,ht,T.dM,T.gM,yw,_,rfl,B .mF,_,_,_,rfl,rfl,cz.of TA.ds,bM hd,B (.dk d),zF,_,rfl,g1,fH _ _ (by decide +kernel) (by decide +kernel),_,rfl,vA,fun b hb=>?_⟩
  have TB:=TA.new (o:=.tup [.str "look",.int p]) hb
  refine⟨B (.dk d),B (.cp d),S.ds d,k,b,.look p,rfl,TB.dk d hd,by lia,aj,?_⟩
  cases hw:(S.ds d).ws with
  | some w'=>exact k2 (by rw[hw];exact nofun) _ (aB hb)
  | none =>
    intro v H1 D1 f1 r1
    have e1:=(S.ds d).ajL (.look p) (p:=p) rfl
    rw[e1]at D1 r1
    dsimp only[Ia,List.append_nil]
    refine Yz (z:=(S.ds d).gZ (.look p) p) TB hd (DS.mD _ _ _).1 (DS.mD _ _ _).2 z1 z2 D1 (by lia) f1 r1 fun l1 xs H2 T2 f2 h1 r2=>?_
    have f3:TF H H2 B n m:=(TF.of_same (aB hb)).trans f2 (Tv.refl _ _ _ _)
    have fin:=k1 hw
    refine⟨_,rfl,_,.inl ⟨xs,cz.of h1,rfl⟩,?_⟩
    unfold akm at fin
    by_cases ho:(S.ds d).ok (.look p)
    ·have ez:((S.ds d).gZ (.look p) p).2.1=[(false,(p:Int),(S.ds d).nm p)]:=by unfold DS.gZ;rw[if_pos ho];rfl
     rw[ez]at r2
     simp only[List.map_cons,List.map_nil,evD,aH,Rep]at r2
     obtain⟨_,_,rfl,⟨c,us',rfl,hc,_,_,rfl,rfl,_,_,rfl,rfl,_,_,rfl,rfl,rfl⟩,rfl⟩:=r2
     refine qt ?_
     refine⟨_,rfl,l1,_,0,_,rfl,rfl,cz.of h1,rfl,c,_,2,_,rfl,rfl,cW.of hc,rfl,?_⟩
     refine fin _ _ T2 f3 ?_
     dsimp only
     rw[if_pos ho]
     simp only[Rep]
    ·have ez:((S.ds d).gZ (.look p) p).2.1=[]:=by unfold DS.gZ;rw[if_neg ho]
     rw[ez]at r2
     simp only[List.map_nil,aH]at r2
     subst r2
     refine wY ?_
     refine fin _ _ T2 f3 ?_
     dsimp only
     rw[if_neg ho]
     simp only[Rep]
theorem YB(T:Txt K w mg t):dj P w K mg base (CX1 P w) 4 t.fM t.uG ["self","desk","page","number"] (axW (c4 t) t.aN):=by
 refine T.aaI.okX Fy (fun vs H Q E h=>?_) (fun cdv A outer s H vs Q E hr h=>?_)
 ·obtain⟨B,n,m,S,k,d,p,x,rfl,_⟩:=h;rfl
 ·obtain⟨B,n,m,S,k,d,p,x,rfl,TA,hd,z1,z2,z3,k1,k2⟩:=h
  refine⟨_,(ak (bx (i:=4) Fy.nd rfl (Or.inl rfl) (cD (pv 0) T.dM T.nY (oh T) (hr.mono (by decide):bQ 1 _) T.p6 .nil bW (aa (pv 1) (aa (cD (aO bD (cL (pv 0) (by rfl)) (pv 1) (fun _ _=>rfl)) T.dF T.Ms (Nh T) (hr.mono (by decide):bQ 3 _) T.R8 .nil BP (aa (cg (aa aC (aa (pv 2) (aa (pv 3) ao)))) ao)) ao))))
   (aA (aZ (qp (Es (pv 4) (fun _=>rfl)) (ir (by rfl) T.am1) (ir (by rfl) T.aka))))),?_⟩
  try dsimp only[dD,Cx.kZ]
  show let Z1:L2.TS:=_;let Z2:L2.TS:=_;let D0:Ends:=_;(aU Z1 (Z2)) D0 _ _
  intro Z1 Z2 D0
  obtain⟨dx,ht⟩:=TA.ob
  obtain⟨⟨zF,wv,g1,_⟩,_⟩:=TA.dk d hd
  refine⟨_,rfl,B .bA,dx,_,rfl,ht,aiI,_,rfl,_,rfl,B .bA,_,dx,_,_,rfl,ht,T.dM,T.gM,yw,_,rfl,B .mF,_,_,_,rfl,rfl,cz.of TA.ds,bM hd,B (.dk d),zF,_,rfl,g1,fH _ _ (by decide +kernel) (by decide +kernel),_,rfl,_,rfl,zz3,fun b hb=>?_⟩
  have TB:=TA.new (o:=.tup [.str "put",.int p,.int x]) hb
  refine⟨B (.dk d),B (.cp d),S.ds d,k,b,.put p x,rfl,TB.dk d hd,by lia,aj,?_⟩
  cases hw:(S.ds d).ws with
  | some w'=>exact k2 (by rw[hw];exact nofun) _ (aB hb)
  | none =>
    intro v H1 D1 f1 r1
    have e1:=(S.ds d).ajL (.put p x) (p:=p) rfl
    rw[e1]at D1 r1
    dsimp only[Ia,List.append_nil]
    refine Yz (z:=(S.ds d).gZ (.put p x) p) TB hd (DS.mD _ _ _).1 (DS.mD _ _ _).2 z1 z2 D1 (by lia) f1 r1 fun l1 xs H2 T2 f2 h1 r2=>?_
    have f3:TF H H2 B n m:=(TF.of_same (aB hb)).trans f2 (Tv.refl _ _ _ _)
    have fin:=k1 hw
    refine⟨_,rfl,_,.inl ⟨xs,cz.of h1,rfl⟩,?_⟩
    unfold akm at fin
    by_cases ho:(S.ds d).ok (.put p x)
    ·have ez:((S.ds d).gZ (.put p x) p).2.1=[(true,(p:Int),x)]:=by unfold DS.gZ;rw[if_pos ho];rfl
     rw[ez]at r2
     simp only[List.map_cons,List.map_nil,evD,aH]at r2
     obtain⟨_,_,rfl,_,rfl⟩:=r2
     refine qt ?_
     refine fin _ _ T2 f3 ?_
     dsimp only
     rw[if_pos ho]
     simp only[Rep]
    ·have ez:((S.ds d).gZ (.put p x) p).2.1=[]:=by unfold DS.gZ;rw[if_neg ho]
     rw[ez]at r2
     simp only[List.map_nil,aH]at r2
     subst r2
     refine wY ?_
     refine fin _ _ T2 f3 ?_
     dsimp only
     rw[if_neg ho]
     simp only[Rep]
theorem Uu(T:Txt K w mg t):dj P w K mg base (CX1 P w) 4 t.eZ t.rG ["self","desk","page"] (auK (c4 t) t.aV):=by
 refine T.XQ.okX Ub (fun vs H Q E h=>?_) (fun cdv A outer s H vs Q E hr h=>?_)
 ·obtain⟨B,n,m,S,k,d,p,rfl,_⟩:=h;rfl
 ·obtain⟨B,n,m,S,k,d,p,rfl,TA,hd,z2,z3,k1,k2⟩:=h
  have sl:sizeLine=16777216:=by decide
  refine⟨_,(ak (bO (fB PySem.F.plainAttrs_list PySem.F.slot_list_extend PySem.F.type_list_extend lM (aO bD (cL (pv 0) (by rfl)) (pv 1) (fun _ _=>rfl)) (aa (cD (aO bD (cL (pv 0) (by rfl)) (pv 1) (fun _ _=>rfl)) T.dF T.adn (adB T) (hr.mono (by decide):bQ 3 _) T.agB .nil BP (aa (pv 2) ao)) ao)))
   (aA (aZ (ir (by rfl) T.am1)))),?_⟩
  try dsimp only[dD,Cx.kZ]
  show let Z1:L2.TS:=_;let Z2:L2.TS:=_;let D0:Ends:=_;(aU Z1 (Z2)) D0 _ _
  intro Z1 Z2 D0
  obtain⟨dx,ht⟩:=TA.ob
  obtain⟨⟨zF,wv,g1,_⟩,_⟩:=TA.dk d hd
  obtain⟨uv,u1,u2⟩:=TA.up d hd
  refine⟨_,rfl,B .bA,_,dx,_,_,rfl,ht,T.dM,T.gO,ac0,_,rfl,B .ups,_,_,_,rfl,rfl,cz.of TA.us,bM hd,.inl ⟨rfl,_,cz.of u1⟩,_,rfl,B .bA,_,dx,_,_,rfl,ht,T.dM,T.gM,yw,_,rfl,B .mF,_,_,_,rfl,rfl,cz.of TA.ds,bM hd,B (.dk d),zF,_,rfl,g1,fH _ _ (by decide +kernel) (by decide +kernel),_,rfl,?_⟩
  refine⟨B (.dk d),B (.cp d),S.ds d,k,p,rfl,TA.dk d hd,by lia,?_⟩
  by_cases e:(S.ds d).rt p=.no
  ·rw[if_pos e];exact k2 e
  ·rw[if_neg e]
   intro v H1 D1 f1 r1
   obtain⟨T1,g2⟩:=TA.jX hd D1 f1 (by lia)
   have er:((S.ds d).rest p).2=.l ((if(S.ds d).rt p=.wr then [UL.gave p ((S.ds d).nm p)]else []).map UL.d):=by
    unfold DS.rest
    dsimp only
    split<;>rfl
   rw[er]at r1
   simp only[Rep]at r1
   obtain⟨l,ys,rfl,hl,r2⟩:=r1
   obtain⟨hl1,hl0⟩:=mZ hl
   obtain⟨uw,u3,u4⟩:=T1.up d hd
   have hlen:((if(S.ds d).rt p=.wr then [UL.gave p ((S.ds d).nm p)]else []:List UL)).length<=1:=by split<;>simp
   have hyl:uw.length+ys.length<=sizeLine:=by
    rw[u4.length,r2.length,List.length_map,List.length_map]
    show(S.up d).length+_<=_
    lia
   refine⟨B (.up d),l,uw,ys,rfl,rfl,u3,.inl (cz.of hl1),hyl,?_⟩
   have ru:aH H1 (uw++ys) ((S.up d++(if(S.ds d).rt p=.wr then [UL.gave p ((S.ds d).nm p)]else [])).map UL.d):=by rw[List.map_append];exact aH.append u4 (r2.mono aix)
   have T5:=T1.agg hd ru
   have f5:=g2.trans (TF.wr (B:=B) (x:=.up d) (n:=n) (m:=m) hd (o:=.lst (uw++ys))) (Tv.refl _ _ _ _)
   refine k1 e _ ?_ f5
   have es:S.lg d p={S with ds:=aF S.ds d ((S.ds d).rest p).1,up:=aF S.up d (S.up d++(if(S.ds d).rt p=.wr then [UL.gave p ((S.ds d).nm p)]else []))}:=by
    unfold TS.lg TS.jX dg DS.rest
    simp
   rw[es]
   exact T5
end
end gn
namespace gn
open PySem L2
def axX(c:C4)(X:Addr):Sp:=fun vs H Q E=>∃B n m S k,∃d:Nat,vs=[.ref (B .bA),.int d]/\cF c H B n m S k/\d<n/\jx n m S/\(∀p,(S.pg p).mu<=3000)/\(∀e,(S.dn e).length<=9030000)/\(S.up d=[]->E (.ref X) none H)/\
 ∀l r,S.up d=l::r->∀b B' H',cF c H' B' n m (S.Xa d l r) k->TF H H' B n m->Tv H B B' n m->B' .bA=B .bA->H' b=some (.tup l.vs)->Q (.ref b) H'
def axY(c:C4)(X:Addr):Sp:=fun vs H Q E=>∃B n m S k,∃d:Nat,vs=[.ref (B .bA),.int d]/\cF c H B n m S k/\d<n/\jx n m S/\S.row.length<=1500/\(S.up d).length<=1500/\k<=800000/\(S.dn d=[]->E (.ref X) none H)/\
 ∀l r,S.dn d=l::r->∀b H',cF c H' B n m (S.Ie d l r) (k+2)->TF H H' B n m->H' b=some (.tup l.vs)->Q (.ref b) H'
theorem acv{H:Hp}:∀{l:List (Nat×Let)} {vs:List V} {i:Nat} {v:V},aH H vs (l.map pairD)->vs[i]? = some v->∃x,l[i]? = some x/\Rep H v (pairD x)
 | [],vs,i,v,h,hv=>by simp only[List.map_nil,aH]at h;subst h;simp at hv
 | x::l,vs,i,v,h,hv=>by
   simp only[List.map_cons,aH]at h
   obtain⟨u,us,rfl,ru,rl⟩:=h
   cases i with
   | zero=>simp at hv;subst hv;exact⟨x,rfl,ru⟩
   | succ i=>simp at hv;obtain⟨x',h1,h2⟩:=acv rl hv;exact⟨x',by simpa using h1,h2⟩
section
variable{P:Program}{w:World}{K:PySem.W.Frag}{mg:Str->Option Value}{base:Heap}{t:JR}
theorem J8(T:Txt K w mg t):dj P w K mg base (CX1 P w) 6 t.dC t.lW ["self","desk"] (axY (c4 t) t.aJ):=by
 refine T.MF.okX uB (fun vs H Q E h=>?_) (fun cdv A outer s H vs Q E hr h=>?_)
 ·obtain⟨B,n,m,S,k,d,rfl,_⟩:=h;rfl
 ·obtain⟨B,n,m,S,k,d,rfl,TA,hd,I,z1,z2,z3,k1,k2⟩:=h
  refine⟨_,(ak (bx (i:=2) uB.nd rfl (Or.inl rfl) (cD (pv 0) T.dM T.qK (qL T) (hr.mono (by decide):bQ 1 _) T.rZ .nil BP (aa (aO bD (cL (pv 0) (by rfl)) (pv 1) (fun _ _=>rfl)) ao)))
   (ak (bO (cD (pv 0) T.dM T.nY (oh T) (hr.mono (by decide):bQ 1 _) T.p6 .nil bW (aa (pv 1) (aa (cD (aO bD (cL (pv 0) (by rfl)) (pv 1) (fun _ _=>rfl)) T.dF T.adm (adA T) (hr.mono (by decide):bQ 4 _) T.agz .nil bW (aa (pv 2) ao)) ao))))
   (aA (aZ (pv 2))))),?_⟩
  try dsimp only[dD,Cx.kZ]
  show let Z1:L2.TS:=_;let Z2:L2.TS:=_;let Z3:L2.TS:=_;let D0:Ends:=_;(aU Z1 (aU Z2 (Z3))) D0 _ _
  intro Z1 Z2 Z3 D0
  obtain⟨dx,ht⟩:=TA.ob
  obtain⟨uv,u1,u2⟩:=TA.dn d hd
  refine⟨_,rfl,B .bA,dx,_,rfl,ht,amS,_,rfl,B .bA,_,dx,_,_,rfl,ht,T.dM,T.gU,ace,_,rfl,B .downs,_,_,_,rfl,rfl,cz.of TA.os,bM hd,?_⟩
  refine⟨_,B (.dn d),uv,rfl,u1,fun e0=>?_,fun v r0 e0=>?_⟩
  ·subst e0
   refine k1 ?_
   cases e:S.dn d with
   | nil=>rfl
   | cons l r=>rw[e]at u2;simp only[List.map_cons,aH]at u2;obtain⟨_,_,z,_⟩:=u2;cases z
  ·subst e0
   cases e:S.dn d with
   | nil=>rw[e]at u2;simp only[List.map_nil,aH]at u2;cases u2
   | cons l r =>
     rw[e]at u2
     obtain⟨b,us,z,hb,u3⟩:=agV u2
     cases z
     have T1:=TA.ak1 hd u3
     have f1:TF H (upd H (B (.dn d)) (.lst r0)) B n m:=TF.wr (x:=.dn d) hd
     have hb1:=f1.tups TA _ _ hb
     generalize upd H (B (.dn d)) (.lst r0)=H1 at T1 f1 hb1
     obtain⟨zF,ht1⟩:=T1.ob
     obtain⟨⟨dx2,wv,g1,_⟩,_⟩:=T1.dk d hd
     obtain⟨p,hp,hpl,_⟩:=I.dn d hd l (by rw[e];simp)
     refine⟨_,rfl,B .bA,zF,_,rfl,ht1,aiI,_,rfl,_,rfl,B .bA,_,zF,_,_,rfl,ht1,T.dM,T.gM,yw,_,rfl,B .mF,_,_,_,rfl,rfl,cz.of T1.ds,bM hd,B (.dk d),dx2,_,rfl,g1,fH _ _ (by decide +kernel) (by decide +kernel),_,rfl,?_⟩
     refine⟨B (.dk d),B (.cp d),S.ds d,k,b,l,rfl,T1.dk d hd,by lia,hb1,fun v H2 D2 f2 r2=>?_⟩
     rw[(S.ds d).ao5 l hpl]at D2 r2
     dsimp only[Ia,List.append_nil]
     refine Yz (z:=(S.ds d).ud l) T1 hd (DS.HW _ _).1 (DS.HW _ _).2 z1 z2 D2 (by lia) f2 r2 fun l1 xs H3 T3 f3 h1 r3=>?_
     refine⟨_,rfl,?_⟩
     exact k2 l r e b H3 T3 (f1.trans f3 (Tv.refl _ _ _ _)) (f3.tups T1 _ _ hb1)
theorem QW(T:Txt K w mg t):dj P w K mg base (CX1 P w) 6 t.dZ t.pU ["self","desk"] (axX (c4 t) t.aJ):=by
 refine T.Uk.okX jb (fun vs H Q E h=>?_) (fun cdv A outer s H vs Q E hr h=>?_)
 ·obtain⟨B,n,m,S,k,d,rfl,_⟩:=h;rfl
 ·obtain⟨B,n,m,S,k,d,rfl,TA,hd,I,z1,z2,k1,k2⟩:=h
  have sl:sizeLine=16777216:=by decide
  refine⟨_,(ak (bx (i:=2) jb.nd rfl (Or.inl rfl) (cD (pv 0) T.dM T.qK (qL T) (hr.mono (by decide):bQ 1 _) T.rZ .nil BP (aa (aO bD (cL (pv 0) (by rfl)) (pv 1) (fun _ _=>rfl)) ao)))
   (ak (bx (i:=3) jb.nd rfl (Or.inl rfl) (cD (cL (pv 0) (by rfl)) T.aiP T.ado (adC T) (hr.mono (by decide):bQ 5 _) T.agG .nil bW (aa (pv 1) (aa (pv 2) ao))))
   (ak (tX PassesOwn.leaving rfl (sG (pv 3)) (JF rfl (fP (cM (i:=4) jb.nd rfl (Or.inl rfl)) (fP (cM (i:=5) jb.nd rfl (Or.inl rfl)) zJ))) (aA (bO (fB PySem.F.plainAttrs_list PySem.F.slot_list_append PySem.F.type_list_append cG (aO bD (cL (pv 0) (by rfl)) (pv 4) (fun _ _=>rfl)) (aa (pv 5) ao)))))
   (aA (aZ (pv 2)))))),?_⟩
  try dsimp only[dD,Cx.kZ]
  show let Z1:L2.TS:=_;let Z2:L2.TS:=_;let Z3:L2.TS:=_;let Z4:L2.TS:=TQ _ _ Z3;let Z5:L2.TS:=_;let D0:Ends:=_;(aU Z1 (aU Z2 (aU Z4 (Z5)))) D0 _ _
  intro Z1 Z2 Z3 Z4 Z5 D0
  obtain⟨dx,ht⟩:=TA.ob
  obtain⟨uv,u1,u2⟩:=TA.up d hd
  refine⟨_,rfl,B .bA,dx,_,rfl,ht,amS,_,rfl,B .bA,_,dx,_,_,rfl,ht,T.dM,T.gO,ac0,_,rfl,B .ups,_,_,_,rfl,rfl,cz.of TA.us,bM hd,?_⟩
  refine⟨_,B (.up d),uv,rfl,u1,fun e0=>?_,fun v r0 e0=>?_⟩
  ·subst e0
   refine k1 ?_
   cases e:S.up d with
   | nil=>rfl
   | cons l r=>rw[e]at u2;simp only[List.map_cons,aH]at u2;obtain⟨_,_,z,_⟩:=u2;cases z
  ·subst e0
   cases e:S.up d with
   | nil=>rw[e]at u2;simp only[List.map_nil,aH]at u2;cases u2
   | cons l r =>
     rw[e]at u2
     obtain⟨b,us,z,hb,u3⟩:=akd u2
     cases z
     obtain⟨_,hlp,hlg,hok⟩:=I.take hd e
     have T1:=TA.agg hd u3
     have f1:TF H (upd H (B (.up d)) (.lst r0)) B n m:=TF.wr (x:=.up d) hd
     have hb1:=f1.tups TA _ _ hb
     generalize upd H (B (.up d)) (.lst r0)=H1 at T1 f1 hb1
     obtain⟨zF,ht1⟩:=T1.ob
     obtain⟨dx2,hh⟩:=T1.hl.ob
     refine⟨_,rfl,B .bA,_,zF,_,_,rfl,ht1,T.dM,T.sW,amR,B (.h .hall),dx2,_,rfl,hh,amJ,_,rfl,_,rfl,?_⟩
     refine⟨fun x=>B (.h x),m,S.pg,b,l,d,rfl,T1.hl,hb1,hlp,hlg,(I.pn _ hlp).rw,by have:=z1 l.pg;lia,?_⟩
     intro pl A' vs H2 hpl HA2 hf2 mv nl eh hl2 rp2
     obtain⟨T2,f2,tv2⟩:=T1.hall HA2 hf2 mv eh
     have hb2:=f2.tups T1 _ _ hb1
     have nl2:∀x:Tb,x.ok n m->pl≠mvB B A' x:=fun x hx=>by
      cases x with
      | h y=>exact nl y hx
      | _=>exact(T1.ne hx hpl).symm
     generalize hB2:mvB B A'=B2 at T2 tv2 nl2
     have et:B2 .bA=B .bA:=by rw[<-hB2];rfl
     have f12:=f1.trans f2 (Tv.refl _ _ _ _)
     have axZ:Tv H B B2 n m:=fun x hx=>(tv2 x hx).imp id fun z=>f1.lv _ z
     have hvl:vs.length=((S.pg l.pg).take l.pg d l).2.length:=by rw[rp2.length,List.length_map]
     have htl:=((S.pg l.pg).ajT l.pg d l).2
     have hmu:=z1 l.pg
     generalize hz:((S.pg l.pg).take l.pg d l).2=zs at rp2 hvl htl hok
     rw[<-et]
     refine⟨_,rfl,pl,rfl,⟨_,cz.of hl2⟩,?_⟩
     let PV1:Nat->St->Hp->Prop:=fun i σ' H'=>(∃o1 o2,σ'=[some (.ref (B2 .bA)),some (.int d),some (.ref b),some (.ref pl),o1,o2])/\i<=vs.length/\cF (c4 t) H' B2 n m {S with up:=aF S.up d r,pg:=aF S.pg l.pg ((S.pg l.pg).take l.pg d l).1,dn:=post S.dn (zs.take i)} k/\TF H2 H' B2 n m
     refine tY (xs:=vs) PV1 ?_ ?_ ?_ ?_
     ·refine⟨⟨_,_,rfl⟩,Nat.zero_le _,?_,TF.refl _ _ _ _⟩
      simpa[post] using T2
     ·rintro i σ' H' _ ⟨_,_,_,f'⟩
      exact cz.of (f'.kp _ _ hl2 nl2)
     ·rintro i y σ' H' hy ⟨⟨o1,o2,rfl⟩,hi,T',f'⟩
      have hi':i<vs.length:=(List.getElem?_eq_some_iff.mp hy).1
      obtain⟨q,hq,rq⟩:=acv (rp2.aX (f'.tups T2) (dh _)) hy
      have hqm:q∈zs:=List.mem_of_getElem? hq
      have hqn:q.1<n:=(hok q hqm).1
      obtain⟨qd,ql⟩:=q
      simp only[pairD,Rep,aH]at rq
      obtain⟨c,us',rfl,hc,_,_,rfl,rfl,lv,_,rfl,rlv,rfl⟩:=rq
      have htk:zs.take (i+1)=zs.take i++[(qd,ql)]:=by rw[List.take_add_one,hq];rfl
      refine⟨c,_,rfl,cW.of hc,rfl,_,_,rfl,_,_,rfl,rfl,?_⟩
      obtain⟨dx3,ht3⟩:=T'.ob
      obtain⟨dv,d1,d2⟩:=T'.dn qd hqn
      have hdl:dv.length<sizeLine:=by
       rw[d2.length,List.length_map]
       show(post S.dn (zs.take i) qd).length<_
       have h1:=Mg S.dn (zs.take i) qd
       have h2:=z2 qd
       have h3:(zs.take i).length<=zs.length:=by rw[List.length_take];lia
       lia
      refine⟨_,rfl,B2 .bA,_,dx3,_,_,rfl,ht3,T.dM,T.gU,ace,_,rfl,B2 .downs,_,_,_,rfl,rfl,cz.of T'.os,bM hqn,.inl ⟨rfl,_,cz.of d1⟩,_,rfl,B2 (.dn qd),dv,_,rfl,rfl,d1,hdl,?_⟩
      have rp3:aH H' (dv++[lv]) ((post S.dn (zs.take i) qd++[ql]).map Let.d):=by
       rw[List.map_append]
       exact aH.snoc d2 rlv
      have T4:=T'.ak1 hqn rp3
      refine⟨⟨_,_,rfl⟩,by lia,?_,f'.trans (TF.wr (x:=.dn qd) hqn) (Tv.refl _ _ _ _)⟩
      rw[htk,ab9]
      exact T4
     ·rintro σ' H' ⟨⟨o1,o2,rfl⟩,_,T',f'⟩
      rw[hvl,List.take_length]at T'
      refine⟨_,rfl,?_⟩
      refine k2 l r e b B2 H' ?_ (f12.trans f' axZ) axZ et (f'.tups T2 _ _ hb2)
      unfold TS.Xa
      rw[hz]
      exact T'
end
end gn
namespace gn
open PySem L2
def xOf(nd np wt nc nl:Addr)(s:Str):Addr:=if s="no desk" then nd else if s="no page" then np else if s="waiting" then wt else if s="no copy" then nc else nl
section
variable{nd np wt nc nl:Addr}
theorem anT:xOf nd np wt nc nl "no desk"=nd:=by kernel_rfl
theorem anU:xOf nd np wt nc nl "no page"=np:=by kernel_rfl
theorem anV:xOf nd np wt nc nl "waiting"=wt:=by kernel_rfl
theorem anW:xOf nd np wt nc nl "no copy"=nc:=by kernel_rfl
theorem ai3:xOf nd np wt nc nl "no letter"=nl:=by kernel_rfl
end
def auL(c:C4)(X:Str->Addr):Sp:=fun vs H Q E=>∃B n m S k a x se,∃tt:Nat,vs=[.ref (B .bA),.ref a]/\cF c H B n m S k/\H a=some (.tup (cC.vs x))/\jx n m S/\Bd tt S se/\tt<=1500/\k<=800000/\
 (p7 n m S x=""->∀v B' H',cF c H' B' n m (S.step n m x).1 (k+2)->TF H H' B n m->Tv H B B' n m->B' .bA=B .bA->Rep H' v (S.step n m x).2->Q v H')/\
 ∀s,p7 n m S x=s->s≠""->∀H',bZ H H'->E (.ref (X s)) none H'
section
variable{n m d:Nat}{S:TS}(h1:inR (d:Int) n)
include h1
theorem akn:p7 n m S (.up d)=bif (S.up d).isEmpty then("no letter":Str)else "":=by show(if inR (d:Int) n then _ else _)=_;rw[if_pos h1];rfl
theorem acw:p7 n m S (.down d)=bif (S.dn d).isEmpty then("no letter":Str)else "":=by show(if inR (d:Int) n then _ else _)=_;rw[if_pos h1];rfl
theorem acx{p:Int}(h2:inR p m):p7 n m S (.rest d p)=bif decide ((S.ds d).rt p=.no)then("no copy":Str)else "":=by show(if inR (d:Int) n then(if inR p m then _ else _)else _)=_;rw[if_pos h1,if_pos h2];rfl
theorem ali{p:Int}(h2:inR p m):p7 n m S (.look d p)=bif (S.ds d).ws.isSome then("waiting":Str)else "":=by show(if inR (d:Int) n then(if inR p m then _ else _)else _)=_;rw[if_pos h1,if_pos h2];rfl
theorem anY{p y:Int}(h2:inR p m):p7 n m S (.put d p y)=bif (S.ds d).ws.isSome then("waiting":Str)else "":=by show(if inR (d:Int) n then(if inR p m then _ else _)else _)=_;rw[if_pos h1,if_pos h2];rfl
theorem ako{q:W}(h2:inR q.pg m):p7 n m S (wd d q)=bif (S.ds d).ws.isSome then("waiting":Str)else "":=by
 cases q with
 | look p=>exact ali h1 h2
 | put p y=>exact anY h1 h2
theorem aqv{p:Int}{x:cC}(h2:¬inR p m)(hx:x=.look d p\/(∃y,x=.put d p y)\/x=.rest d p):p7 n m S x="no page":=by
 rcases hx with rfl | ⟨y,rfl⟩ | rfl<;>(show(if inR (d:Int) n then(if inR p m then _ else _)else _)=_;rw[if_pos h1,if_neg h2])
end
theorem anZ(S:DS)(w:W):akm S w=if S.ok w then acu S w else .s "waits":=by cases w<;>rfl
section
variable{P:Program}{w:World}{K:PySem.W.Frag}{mg:Str->Option Value}{base:Heap}{t:JR}
abbrev xT(t:JR):Str->Addr:=xOf t.bj t.bf t.aN t.aV t.aJ
theorem Uv(T:Txt K w mg t):dj P w K mg base (CX1 P w) 7 t.eX t.rE ["self","deed"] (auL (c4 t) (xT t)):=by
 refine T.XF.okX lK (fun vs H Q E h=>?_) (fun cdv A outer s H vs Q E hr h=>?_)
 ·obtain⟨B,n,m,S,k,a,x,se,tt,rfl,_⟩:=h;rfl
 ·obtain⟨B,n,m,S,k,a,x,se,tt,rfl,TA,ha,I,bd,ht0,hk,k1,k2⟩:=h
  have n1:("no desk":Str)≠"":=by decide +kernel
  have n2:("no page":Str)≠"":=by decide +kernel
  have n3:("no letter":Str)≠"":=by decide +kernel
  have n4:("no copy":Str)≠"":=by decide +kernel
  have n5:("waiting":Str)≠"":=by decide +kernel
  have hbt:=arA ht0
  obtain⟨dx,ht⟩:=TA.ob
  have hrow:=bd.row
  refine⟨_,(ak (bx (i:=2) lK.nd rfl (Or.inl rfl) (aO bB (pv 1) az (fun _ _=>rfl)))
   (ak (bx (i:=3) lK.nd rfl (Or.inl rfl) (aO bB (pv 1) az (fun _ _=>rfl)))
   (ak (bO (cD (pv 0) T.dM T.JV (J6 T) (hr.mono (by decide):bQ 1 _) T.Mx .nil BP (aa (pv 3) ao)))
   (ak (bU (aQ cQ (pv 2) aC (aW _)) (aA (aZ (cD (pv 0) T.dM T.QK (QW T) (hr.mono (by decide):bQ 6 _) T.Ul .nil BP (aa (pv 3) ao)))) bw)
   (ak (bU (aQ cQ (pv 2) aC (aW _)) (aA (aZ (cD (pv 0) T.dM T.JX (J8 T) (hr.mono (by decide):bQ 6 _) T.MJ .nil BP (aa (pv 3) ao)))) bw)
   (ak (bx (i:=4) lK.nd rfl (Or.inl rfl) (aO bB (pv 1) az (fun _ _=>rfl)))
   (ak (bO (cD (pv 0) T.dM T.JW (J7 T) (hr.mono (by decide):bQ 1 _) T.Mz .nil BP (aa (pv 4) ao)))
   (ak (bU (aQ cQ (pv 2) aC (aW _)) (aA (aZ (cD (pv 0) T.dM T.Uj (Uu T) (hr.mono (by decide):bQ 4 _) T.XR .nil BP (aa (pv 3) (aa (pv 4) ao))))) bw)
   (ak (bU (aQ cQ (pv 2) aC (aW _)) (aA (aZ (cD (pv 0) T.dM T.Ui (Ut T) (hr.mono (by decide):bQ 4 _) T.XM .nil BP (aa (pv 3) (aa (pv 4) ao))))) bw)
   (aA (aZ (cD (pv 0) T.dM T.XN (YB T) (hr.mono (by decide):bQ 4 _) T.aaJ .nil BP (aa (pv 3) (aa (pv 4) (aa (aO bB (pv 1) az (fun _ _=>rfl)) ao))))))))))))))),?_⟩
  try dsimp only[dD,Cx.kZ]
  show let Z1:L2.TS:=_;let Z2:L2.TS:=_;let Z3:L2.TS:=_;let Z4:L2.TS:=_;let Z5:L2.TS:=cT _ Z4 bJ;let Z6:L2.TS:=_;let Z7:L2.TS:=cT _ Z6 bJ;let Z8:L2.TS:=_;let Z9:L2.TS:=_;let yW:L2.TS:=_;let IV:L2.TS:=cT _ yW bJ;let IW:L2.TS:=_;let Nj:L2.TS:=cT _ IW bJ;let Nk:L2.TS:=_;let D0:Ends:=_;(aU Z1 (aU Z2 (aU Z3 (aU Z5 (aU Z7 (aU Z8 (aU Z9 (aU IV (aU Nj (Nk)))))))))) D0 _ _
  intro Z1 Z2 Z3 Z4 Z5 Z6 Z7 Z8 Z9 yW IV IW Nj Nk D0
  refine zt rfl (cW.of ha) (cC.at0 x) ?_
  refine zt rfl (cW.of ha) (cC.at1 x) ?_
  refine⟨_,rfl,B .bA,dx,_,rfl,ht,atj,_,rfl,B,n,m,S,k,x.dk,rfl,TA,fun hin=>?_,fun hn=>?_⟩
  ·obtain⟨d,hd⟩:∃d:Nat,x.dk=(d:Int):=⟨x.dk.toNat,by unfold inR at hin;lia⟩
   have hdn:d<n:=by unfold inR at hin;lia
   have Uw:inR (d:Int) n:=by rw[<-hd];exact hin
   have hup:=bd.up d
   rw[hd]
   have dR:∀(wq:W) (p:Nat),x=wd d wq->wq.pg=(p:Int)->p<m->auI (c4 t) t.aN H B n m S k d p wq Q E:=fun wq p ex ew hp=>by
    subst ex
    have h2:inR wq.pg m:=by rw[ew];exact⟨by lia,by lia⟩
    refine⟨fun h0 v H' T' f' r'=>?_,fun h0 H' s'=>?_⟩
    ·have st:=(akh hdn hp ew h0).1
     refine k1 ?_ v B H' ?_ f' (Tv.refl _ _ _ _) rfl ?_
     ·rw[ako Uw h2,h0];rfl
     ·rw[st];exact T'
     ·rw[st,<-anZ];exact r'
    ·have:=k2 "waiting" (by
      obtain⟨w',hw'⟩:=Option.ne_none_iff_exists'.mp h0
      rw[ako Uw h2,hw'];rfl) n5 H' s'
     rw[show xT t "waiting"=t.aN from anV]at this
     exact this
   have ai4:∀p:Int,¬inR p m->(x=.look d p\/(∃y,x=.put d p y)\/x=.rest d p)->E (.ref t.bf) none H:=fun p hp hx=>by
    have:=k2 "no page" (aqv Uw hp hx) n2 H (bZ.refl _)
    rw[show xT t "no page"=t.bf from anU]at this
    exact this
   refine⟨_,rfl,rfl,_,rfl,?_⟩
   cases x with
   | up d' =>
     have ed:d'=(d:Int):=hd
     subst ed
     refine bG fJ ?_
     refine⟨_,rfl,B .bA,dx,_,rfl,ht,ato,_,rfl,B,n,m,S,k,d,rfl,TA,hdn,I,fun p=>by have:=bd.mu p;lia,fun e=>by have:=bd.dn e;lia,fun e=>?_,fun l r e b B' H' T' f' tv' et' hb'=>?_⟩
     ·have:=k2 "no letter" (by rw[akn Uw,e];rfl) n3 H (bZ.refl _)
      rw[show xT t "no letter"=t.aJ from ai3]at this
      exact this
     ·have st:S.step n m (.up d)=(S.Xa d l r,l.d):=by simp only[TS.step];rw[if_pos Uw,Int.toNat_natCast];unfold TS.upD;rw[e]
      refine k1 (by rw[akn Uw,e];rfl) _ B' H' ?_ f' tv' et' ?_
      ·rw[st];exact T'.more (by lia)
      ·rw[st];exact Ym hb'
   | down d' =>
     have ed:d'=(d:Int):=hd
     subst ed
     refine aM (dm (a:="down") (b:="up") (by decide +kernel)) ?_
     refine⟨_,rfl,rfl,_,rfl,?_⟩
     refine bG fJ ?_
     refine⟨_,rfl,B .bA,dx,_,rfl,ht,atp,_,rfl,B,n,m,S,k,d,rfl,TA,hdn,I,by lia,by lia,hk,fun e=>?_,fun l r e b H' T' f' hb'=>?_⟩
     ·have:=k2 "no letter" (by rw[acw Uw,e];rfl) n3 H (bZ.refl _)
      rw[show xT t "no letter"=t.aJ from ai3]at this
      exact this
     ·have st:S.step n m (.down d)=(S.Ie d l r,l.d):=by simp only[TS.step];rw[if_pos Uw,Int.toNat_natCast];unfold TS.Xb;rw[e]
      refine k1 (by rw[acw Uw,e];rfl) _ B H' ?_ f' (Tv.refl _ _ _ _) rfl ?_
      ·rw[st];exact T'
      ·rw[st];exact akg hb'
   | rest d' p =>
     have ed:d'=(d:Int):=hd
     subst ed
     refine aM (dm (a:="rest") (b:="up") (by decide +kernel)) ?_
     refine⟨_,rfl,rfl,_,rfl,?_⟩
     refine aM (dm (a:="rest") (b:="down") (by decide +kernel)) ?_
     refine zt rfl (cW.of ha) rfl ?_
     refine⟨_,rfl,B .bA,dx,_,rfl,ht,aiH,_,rfl,B,n,m,S,k,p,rfl,TA,fun hp=>?_,fun hp=>ai4 p hp (.inr (.inr rfl))⟩
     obtain⟨pn,rfl⟩:∃q:Nat,p=(q:Int):=⟨p.toNat,by unfold inR at hp;lia⟩
     refine⟨_,rfl,rfl,_,rfl,?_⟩
     refine bG fJ ?_
     refine⟨_,rfl,B .bA,dx,_,rfl,ht,atn,_,rfl,_,rfl,B,n,m,S,k,d,pn,rfl,TA,hdn,by lia,hk,fun e H' T' f'=>?_,fun e=>?_⟩
     ·have st:S.step n m (.rest d pn)=(S.lg d pn,.s "done"):=by simp only[TS.step];rw[if_pos Uw,if_pos hp,Int.toNat_natCast,if_neg e,Int.toNat_natCast]
      refine k1 (by rw[acx Uw hp,decide_eq_false e];rfl) _ B H' ?_ f' (Tv.refl _ _ _ _) rfl ?_
      ·rw[st];exact T'
      ·rw[st];simp only[Rep]
     ·have:=k2 "no copy" (by rw[acx Uw hp,decide_eq_true e];rfl) n4 H (bZ.refl _)
      rw[show xT t "no copy"=t.aV from anW]at this
      exact this
   | look d' p =>
     have ed:d'=(d:Int):=hd
     subst ed
     refine aM (dm (a:="look") (b:="up") (by decide +kernel)) ?_
     refine⟨_,rfl,rfl,_,rfl,?_⟩
     refine aM (dm (a:="look") (b:="down") (by decide +kernel)) ?_
     refine zt rfl (cW.of ha) rfl ?_
     refine⟨_,rfl,B .bA,dx,_,rfl,ht,aiH,_,rfl,B,n,m,S,k,p,rfl,TA,fun hp=>?_,fun hp=>ai4 p hp (.inl rfl)⟩
     obtain⟨pn,rfl⟩:∃q:Nat,p=(q:Int):=⟨p.toNat,by unfold inR at hp;lia⟩
     refine⟨_,rfl,rfl,_,rfl,?_⟩
     refine aM (dm (a:="look") (b:="rest") (by decide +kernel)) ?_
     refine⟨_,rfl,rfl,_,rfl,?_⟩
     refine bG fJ ?_
     exact⟨_,rfl,B .bA,dx,_,rfl,ht,atl,_,rfl,_,rfl,B,n,m,S,k,d,pn,rfl,TA,hdn,by lia,by lia,hk,dR (.look pn) pn rfl rfl (by unfold inR at hp;lia)⟩
   | put d' p y =>
     have ed:d'=(d:Int):=hd
     subst ed
     refine aM (dm (a:="put") (b:="up") (by decide +kernel)) ?_
     refine⟨_,rfl,rfl,_,rfl,?_⟩
     refine aM (dm (a:="put") (b:="down") (by decide +kernel)) ?_
     refine zt rfl (cW.of ha) rfl ?_
     refine⟨_,rfl,B .bA,dx,_,rfl,ht,aiH,_,rfl,B,n,m,S,k,p,rfl,TA,fun hp=>?_,fun hp=>ai4 p hp (.inr (.inl ⟨y,rfl⟩))⟩
     obtain⟨pn,rfl⟩:∃q:Nat,p=(q:Int):=⟨p.toNat,by unfold inR at hp;lia⟩
     refine⟨_,rfl,rfl,_,rfl,?_⟩
     refine aM (dm (a:="put") (b:="rest") (by decide +kernel)) ?_
     refine⟨_,rfl,rfl,_,rfl,?_⟩
     refine aM (dm (a:="put") (b:="look") (by decide +kernel)) ?_
     exact⟨_,rfl,B .bA,dx,_,rfl,ht,atm,_,rfl,_,rfl,zt rfl (cW.of ha) rfl ⟨B,n,m,S,k,d,pn,y,rfl,TA,hdn,by lia,by lia,hk,dR (.put pn y) pn rfl rfl (by unfold inR at hp;lia)⟩⟩
  ·have:=k2 "no desk" (by unfold p7;rw[if_neg hn]) n1 H (bZ.refl _)
   rw[show xT t "no desk"=t.bj from anT]at this
   exact this
end
end gn
namespace gn
open PySem L2
structure Kp(p:Addr)(H H':Hp):Prop where
 kp:∀b o,H b=some o->b≠p->H' b=some o
 lv:Lv H H'
theorem Kp.trans{p:Addr}{H H1 H2:Hp}(x:Kp p H H1)(y:Kp p H1 H2):Kp p H H2:=⟨fun b o h n=>y.kp b o (x.kp b o h n) n,x.lv.trans y.lv⟩
theorem Kp.same{p:Addr}{H H1:Hp}(s:bZ H H1):Kp p H H1:=⟨fun b o h _=>s b o h,Lv.same s⟩
theorem Kp.upd{p:Addr}{H:Hp}{o:HO}:Kp p H (upd H p o):=⟨fun b u h n=>by rw[aq n];exact h,Lv.upd⟩
theorem Kp.tups{p:Addr}{H H1:Hp}(k:Kp p H H1){o:HO}(hp:H p=some o)(ho:∀xs,o≠.tup xs):b7 H H1:=fun b xs e=>k.kp b _ e fun z=>by rw[z,hp]at e;exact ho xs (Option.some.inj e)
theorem alj{ι:Type}{A:ι->Addr}{ok:ι->Prop}(rk:ι->Nat)(Hs:Nat->Hp)(mono:∀i,Lv (Hs i) (Hs (i+1)))(new:∀x,ok x->Hs (rk x) (A x)=none)(live:∀x,ok x->∃o,Hs (rk x+1) (A x)=some o)
 (same:∀x y,ok x->ok y->rk x=rk y->A x=A y->x=y):∀x y,ok x->ok y->A x=A y->x=y:=by
 have mo:∀k i,Lv (Hs i) (Hs (i+k)):=fun k=>by
  induction k with
  | zero=>exact fun i=>Lv.refl _
  | succ k ih=>exact fun i=>(ih i).trans (mono (i+k))
 have key:∀x y,ok x->ok y->rk x<rk y->A x≠A y:=fun x y hx hy h e=>by
  obtain⟨o,h1⟩:=live x hx
  have h2:=mo (rk y - (rk x+1)) (rk x+1) (A x)
  rw[show rk x+1+(rk y - (rk x+1))=rk y by lia,e,new y hy]at h2
  rw[e,h2 rfl]at h1
  cases h1
 intro x y hx hy e
 rcases Nat.lt_trichotomy (rk x) (rk y)with h | h | h
 ·exact absurd e (key x y hx hy h)
 ·exact same x y hx hy h e
 ·exact absurd e.symm (key y x hy hx h)
def ds0:DS:=⟨fun _=>.no,fun _=>0,none⟩
theorem ai5{C:Addr}{n:Nat}{acc:Addr}{te:TE}{σ:St}{H1:Hp}{Q:VK}(Pσ:St->Prop)(h0:Pσ σ)(hacc:H1 acc=none)(hn:n<=1000)
 (hg:∀i σ',Pσ σ'->Pσ (σ'.set 0 (some (.int i))))
 (hel:∀σ' H' (R:VK),Pσ σ'->(∀x d H'',H' x=none->H' d=none->bZ H' H''->cj C H'' x d ds0 0->R (.ref x) H'')->te σ' H' R)
 (hd:∀(f g:Nat->Addr) H',bZ H1 H'->H' acc=some (.lst ((List.range n).map fun d=>V.ref (f d)))->(∀d,d<n->H1 (f d)=none/\H1 (g d)=none/\f d≠acc/\g d≠acc/\cj C H' (f d) (g d) ds0 0)->(∀d e,d<n->e<n->f d=f e->d=e)->(∀d e,d<n->e<n->g d=g e->d=e)->Q (.ref acc) H') :
 Ew (Itr 0 n) (abW 0) akV te σ acc H1 Q:=by
 have sl:sizeLine=16777216:=by decide
 let PV1:Nat->List V->St->Hp->Prop:=fun i zs σ' H'=>Pσ σ'/\bZ H1 H'/\H' acc=some (.lst zs)/\∃f g:Nat->Addr,zs=(List.range i).map (fun d=>V.ref (f d))/\(∀d,d<i->H1 (f d)=none/\H1 (g d)=none/\f d≠acc/\g d≠acc/\cj C H' (f d) (g d) ds0 0)/\(∀d e,d<i->e<i->f d=f e->d=e)/\∀d e,d<i->e<i->g d=g e->d=e
 refine JL PV1 ?_ ?_ ?_ ?_
 ·exact⟨h0,aB hacc,aj,fun _=>0,fun _=>0,rfl,fun d hd=>absurd hd (Nat.not_lt_zero _),fun d e hd=>absurd hd (Nat.not_lt_zero _),fun d e hd=>absurd hd (Nat.not_lt_zero _)⟩
 ·rintro i zs σ' H' _ ⟨_,_,h,_⟩
  exact h
 ·rintro i zs σ' H' hi ⟨hp,s',ha',f,g,rfl,hf,inj,anD⟩
  refine acV (hel _ H' _ (hg _ _ hp) fun x d H'' hx hdn s'' D''=>?_)
  have apA:=s'' _ _ ha'
  have nax:acc≠x:=aG ha' hx
  have nad:acc≠d:=aG ha' hdn
  have hz:((List.range i).map fun d=>V.ref (f d)).length<sizeLine:=by rw[List.length_map,List.length_range];lia
  have tl:=lH (vs:=(List.range i).map (fun d=>V.ref (f d))++[.ref x]) apA
  have live:∀e,e<i->(∃o,H' (f e)=some o)/\∃o,H' (g e)=some o:=fun e he=>by
   obtain⟨⟨dx,v,e1,_⟩,⟨kvs,e2,_⟩⟩:=(hf e he).2.2.2.2
   exact⟨⟨_,e1⟩,⟨_,e2⟩⟩
  refine Ey.mk hi apA hz ⟨hg _ _ hp,fU (s'.trans s'') hacc,aj,aF f i x,aF g i d,?_,fun e he=>?_,fun a e hd he h=>?_,fun a e hd he h=>?_⟩
  ·rw[List.range_succ,List.map_append]
   congr 1
   ·refine List.map_congr_left fun d hd=>?_
    rw[aY _ _ (Nat.ne_of_lt (List.mem_range.mp hd))]
   ·show [V.ref x]=[V.ref _];rw[aL]
  ·by_cases y:e=i
   ·subst y
    rw[aL,aL]
    exact⟨bZ.free s' hx,bZ.free s' hdn,nax.symm,nad.symm,D''.keep tl (fun o z=>by rw[aq nax.symm];exact z) fun o z=>by rw[aq nad.symm];exact z⟩
   ·rw[aY _ _ y,aY _ _ y]
    obtain⟨h1,h2,h3,h4,h5⟩:=hf e (by lia)
    exact⟨h1,h2,h3,h4,(h5.same s'').keep tl (fun o z=>by rw[aq h3];exact z) fun o z=>by rw[aq h4];exact z⟩
  ·by_cases h1:a=i
   ·by_cases h2:e=i
    ·rw[h1,h2]
    ·rw[h1,aL,aY _ _ h2]at h
     obtain⟨⟨o,z⟩,_⟩:=live e (by lia)
     rw[<-h,hx]at z;cases z
   ·by_cases h2:e=i
    ·rw[h2,aL,aY _ _ h1]at h
     obtain⟨⟨o,z⟩,_⟩:=live a (by lia)
     rw[h,hx]at z;cases z
    ·rw[aY _ _ h1,aY _ _ h2]at h;exact inj a e (by lia) (by lia) h
  ·by_cases h1:a=i
   ·by_cases h2:e=i
    ·rw[h1,h2]
    ·rw[h1,aL,aY _ _ h2]at h
     obtain⟨_,⟨o,z⟩⟩:=live e (by lia)
     rw[<-h,hdn]at z;cases z
   ·by_cases h2:e=i
    ·rw[h2,aL,aY _ _ h1]at h
     obtain⟨_,⟨o,z⟩⟩:=live a (by lia)
     rw[h,hdn]at z;cases z
    ·rw[aY _ _ h1,aY _ _ h2]at h;exact anD a e (by lia) (by lia) h
 ·rintro zs σ' H' ⟨_,s',ha',f,g,rfl,hf,inj,anD⟩
  exact hd f g H' s' ha' hf inj anD
def ai6(c:C4):Sp:=fun vs H Q _=>∃p dx l,∃n:Nat,∃ns:List Int,vs=[.ref p,.int n,.ref l]/\H p=some (.ins c.T dx [])/\H l=some (.lst (ns.map V.int))/\n<=1000/\ns.length<=1000/\
 ∀B H',B .bA=p->(∀x:Tb,x.ok n ns.length->x≠.bA->H (B x)=none)->cF c H' B n ns.length (S0 ns) 0->Kp p H H'->Q .non H'
def rkT:Tb->Nat
 | .bA=>0
 | .h _=>1
 | .mF=>2
 | .dk _=>2
 | .cp _=>2
 | .ups=>3
 | .up _=>3
 | .downs=>4
 | .dn _=>4
 | .row=>5
def hsT(a b c d e f:Hp):Nat->Hp
 | 0=>fun _=>none
 | 1=>a
 | 2=>b
 | 3=>c
 | 4=>d
 | 5=>e
 | _=>f
def bT(p:Addr)(A:Hb->Addr)(ad au aw r:Addr)(f g u o:Nat->Addr):Tb->Addr
 | .bA=>p
 | .h x=>A x
 | .mF=>ad
 | .dk d=>f d
 | .cp d=>g d
 | .ups=>au
 | .up d=>u d
 | .downs=>aw
 | .dn d=>o d
 | .row=>r
end gn
namespace gn
open PySem L2
section
variable{P:Program}{w:World}{K:PySem.W.Frag}{mg:Str->Option Value}{base:Heap}{t:JR}
theorem adJ(T:Txt K w mg t):dj P w K mg base oM 5 t.iI t.Ak ["self","count","numbers"] (ai6 (c4 t)):=by
 refine T.agH.ok ac9 (fun vs H Q E h=>?_) (fun cdv A outer s H vs Q E hr h=>?_)
 ·obtain⟨p,dx,l,n,ns,rfl,_⟩:=h;rfl
 ·obtain⟨p,dx,l,n,ns,rfl,hp,hl,hn,hns,fin⟩:=h
  have nb : -(2 ^ 62)<=((n:Nat):Int)/\((n:Nat):Int)<2 ^ 62:=⟨by lia,by lia⟩
  have nlp:l≠p:=jr hl hp (by intro z;cases z)
  refine⟨_,(ak (gk (pv 0) (cX dq (by rfl) T.wA PySem.boot_len (aa (pv 2) ao)) (by rfl))
   (ak (gk (pv 0) (acO T.adf (adD T) (hr.mono (by decide):bQ 4 _) (by rfl) T.atA T.agE .nil bW (aa (pv 2) ao)) (by rfl))
   (ak (gk (pv 0) (mY (iY (xs:=["desk"]) (ys:=[]) (js:=[]) rfl (by decide +kernel) (by decide +kernel) (by decide +kernel) (by rfl) trivial) rfl (iW (by rfl) T.nZ (aa (pv 1) ao)) (fun _ _ _ _ _=>(cM (i:=0) (show List.Nodup ((["desk"]:List Str)++([]:List Str):List Str)by decide +kernel) rfl (Or.inl rfl))) (fun _ _ _ _ _=>sJ) (fun _ _ _ _ _=>(amd T.ade (adz T) (hr.mono (by decide):bQ 2 _) (by rfl) T.atz T.agw .nil bW))) (by rfl))
   (ak (gk (pv 0) (mY (iY (xs:=["desk"]) (ys:=[]) (js:=[]) rfl (by decide +kernel) (by decide +kernel) (by decide +kernel) (by rfl) trivial) rfl (iW (by rfl) T.nZ (aa (pv 1) ao)) (fun _ _ _ _ _=>(cM (i:=0) (show List.Nodup ((["desk"]:List Str)++([]:List Str):List Str)by decide +kernel) rfl (Or.inl rfl))) (fun _ _ _ _ _=>sJ) (fun _ _ _ _ _=>(bN ao))) (by rfl))
   (ak (gk (pv 0) (mY (iY (xs:=["desk"]) (ys:=[]) (js:=[]) rfl (by decide +kernel) (by decide +kernel) (by decide +kernel) (by rfl) trivial) rfl (iW (by rfl) T.nZ (aa (pv 1) ao)) (fun _ _ _ _ _=>(cM (i:=0) (show List.Nodup ((["desk"]:List Str)++([]:List Str):List Str)by decide +kernel) rfl (Or.inl rfl))) (fun _ _ _ _ _=>sJ) (fun _ _ _ _ _=>(bN ao))) (by rfl))
   (aA (gk (pv 0) (bN ao) (by rfl)))))))),?_⟩
  try dsimp only[dD,Cx.kZ]
  show let Z1:L2.TS:=_;let Z2:L2.TS:=_;let Z3:L2.TS:=_;let Z4:L2.TS:=_;let Z5:L2.TS:=_;let Z6:L2.TS:=_;let D0:Ends:=_;(aU Z1 (aU Z2 (aU Z3 (aU Z4 (aU Z5 (Z6)))))) D0 _ _
  intro Z1 Z2 Z3 Z4 Z5 Z6 D0
  refine⟨_,rfl,l,_,rfl,.inl (cz.of hl),_,rfl,p,_,dx,[],rfl,hp,T.dM,T.jq,(by show 0<1000;decide),?_⟩
  rw[List.length_map]
  have K1:Kp p H (upd H p (.ins t.bz dx (gh "page_count" (.int (ns.length:Nat)) []))):=Kp.upd
  have hp1:upd H p (.ins t.bz dx (gh "page_count" (.int (ns.length:Nat)) [])) p=some (.ins t.bz dx (gh "page_count" (.int (ns.length:Nat)) [])):=aj
  generalize upd H p (.ins t.bz dx (gh "page_count" (.int (ns.length:Nat)) []))=H1 at K1 hp1
  refine⟨_,rfl,fun x dx' hx hdx nx=>?_⟩
  have hl1:=K1.kp _ _ hl nlp
  refine⟨x,dx',l,ns,rfl,aj,?_,hns,fun Ah H2 eh fr HA kp2 lv2=>⟨rfl,?_⟩⟩
  ·rw[aq (aG hl1 hx),aq (aG hl1 hdx)];exact hl1
  have s12:bZ H1 H2:=fun b o e=>kp2 b o (by rw[aq (aG e hx),aq (aG e hdx)];exact e) (aG e hx)
  have frA:∀z:Hb,z.ok ns.length->H1 (Ah z)=none:=fun z hz=>by
   by_cases e:z=.hall
   ·rw[e,eh];exact hx
   ·exact Lv.upd _ (Lv.upd _ (fr z hz e))
  clear kp2 fr
  refine⟨_,rfl,p,_,dx,_,rfl,s12 _ _ hp1,T.dM,T.sW,(by show 1<1000;decide),?_⟩
  generalize hf2:gh "hall" (.ref x) (gh "page_count" (.int (ns.length:Nat)) [])=fs2
  have hl2:fs2.length=2:=by rw[<-hf2];rfl
  have K2:Kp p H1 (upd H2 p (.ins t.bz dx fs2)):=(Kp.same s12).trans Kp.upd
  have K2':Kp p H2 (upd H2 p (.ins t.bz dx fs2)):=Kp.upd
  have hp2:upd H2 p (.ins t.bz dx fs2) p=some (.ins t.bz dx fs2):=aj
  have tm2:=K2'.tups (s12 _ _ hp1) (fun xs z=>by cases z)
  have npA:∀z:Hb,z.ok ns.length->Ah z≠p:=fun z hz e=>by have:=frA z hz;rw[e,hp1]at this;cases this
  have HA2:=HA.keep tm2 (fun z hz o e=>K2'.kp _ o e (npA z hz))
  clear HA tm2 K2'
  generalize upd H2 p (.ins t.bz dx fs2)=H2' at K2 hp2 HA2
  refine⟨_,rfl,(n:Int),rfl,nb.1,nb.2,fun ad had=>?_⟩
  rw[Int.toNat_natCast]
  refine ai5 (C:=t.bK) (fun σ'=>∃o,σ'=[o]) ⟨_,rfl⟩ had hn (fun i σ' h=>by obtain⟨o,rfl⟩:=h;exact⟨_,rfl⟩) (fun σ' H' R ⟨o,e⟩ hR=>?_) (fun f g H3 s3 ha3 hf3 aAC aAD=>?_)
  ·intro y dy hy hdy ny
   refine⟨y,dy,rfl,aj,fun d H'' hd'' D'' k''=>⟨rfl,hR y d H'' hy (Lv.upd _ (Lv.upd _ hd'')) (fun b o e=>k'' b o ?_ (aG e hy)) D''⟩⟩
   rw[aq (aG e hy),aq (aG e hdy)];exact e
  refine⟨_,rfl,p,_,dx,_,rfl,s3 _ _ hp2,T.dM,T.gM,(by rw[hl2];show 2<1000;decide),?_⟩
  generalize aqw:gh "desks" (.ref ad) fs2=fs3
  have hl3:fs3.length=3:=by rw[<-aqw,<-hf2];kernel_rfl
  have K3:Kp p H2' (upd H3 p (.ins t.bz dx fs3)):=(Kp.same s3).trans Kp.upd
  have K3':Kp p H3 (upd H3 p (.ins t.bz dx fs3)):=Kp.upd
  have hp3:upd H3 p (.ins t.bz dx fs3) p=some (.ins t.bz dx fs3):=aj
  have tm3:=K3'.tups (s3 _ _ hp2) (fun xs z=>by cases z)
  have np3:∀b,H2' b=none->b≠p:=fun b e z=>by rw[z,hp2]at e;cases e
  have auN:=K3'.kp _ _ ha3 (np3 _ had)
  have hD3:∀d,d<n->cj t.bK (upd H3 p (.ins t.bz dx fs3)) (f d) (g d) ds0 0:=fun d hd=>by
   obtain⟨q1,q2,_,_,q5⟩:=hf3 d hd
   exact q5.keep tm3 (fun o e=>K3'.kp _ o e (np3 _ q1)) fun o e=>K3'.kp _ o e (np3 _ q2)
  clear ha3 tm3 K3'
  generalize upd H3 p (.ins t.bz dx fs3)=H3' at K3 hp3 auN hD3
  refine⟨_,rfl,(n:Int),rfl,nb.1,nb.2,fun au hau=>?_⟩
  rw[Int.toNat_natCast]
  refine yZ (c:=[]) (fun σ'=>∃o,σ'=[o]) ⟨_,rfl⟩ hau hn (fun i σ' h=>by obtain⟨o,rfl⟩:=h;exact⟨_,rfl⟩) (fun σ' H' R ⟨o,e⟩ s' hR=>?_) (fun u H4 s4 ha4 hf4 auf=>?_)
  ·exact⟨Eo,fun z hz=>hR z _ hz (aB hz) aj⟩
  refine⟨_,rfl,p,_,dx,_,rfl,s4 _ _ hp3,T.dM,T.gO,(by rw[hl3];show 3<1000;decide),?_⟩
  generalize auO:gh "roads_up" (.ref au) fs3=fs4
  have hl4:fs4.length=4:=by rw[<-auO,<-aqw,<-hf2];kernel_rfl
  have K4:Kp p H3' (upd H4 p (.ins t.bz dx fs4)):=(Kp.same s4).trans Kp.upd
  have K4':Kp p H4 (upd H4 p (.ins t.bz dx fs4)):=Kp.upd
  have hp4:upd H4 p (.ins t.bz dx fs4) p=some (.ins t.bz dx fs4):=aj
  have np4:∀b,H3' b=none->b≠p:=fun b e z=>by rw[z,hp3]at e;cases e
  have auP:=K4'.kp _ _ ha4 (np4 _ hau)
  have hU4:∀d,d<n->upd H4 p (.ins t.bz dx fs4) (u d)=some (.lst []):=fun d hd=>K4'.kp _ _ (hf4 d hd).2.2 (np4 _ (hf4 d hd).1)
  clear ha4 K4'
  generalize upd H4 p (.ins t.bz dx fs4)=H4' at K4 hp4 auP hU4
  refine⟨_,rfl,(n:Int),rfl,nb.1,nb.2,fun aw haw=>?_⟩
  rw[Int.toNat_natCast]
  refine yZ (c:=[]) (fun σ'=>∃o,σ'=[o]) ⟨_,rfl⟩ haw hn (fun i σ' h=>by obtain⟨o,rfl⟩:=h;exact⟨_,rfl⟩) (fun σ' H' R ⟨o,e⟩ s' hR=>?_) (fun o H5 s5 ha5 hf5 aAH=>?_)
  ·exact⟨Eo,fun z hz=>hR z _ hz (aB hz) aj⟩
  refine⟨_,rfl,p,_,dx,_,rfl,s5 _ _ hp4,T.dM,T.gU,(by rw[hl4];show 4<1000;decide),?_⟩
  generalize ax1:gh "roads_down" (.ref aw) fs4=fs5
  have hl5:fs5.length=5:=by rw[<-ax1,<-auO,<-aqw,<-hf2];kernel_rfl
  have K5:Kp p H4' (upd H5 p (.ins t.bz dx fs5)):=(Kp.same s5).trans Kp.upd
  have K5':Kp p H5 (upd H5 p (.ins t.bz dx fs5)):=Kp.upd
  have hp5:upd H5 p (.ins t.bz dx fs5) p=some (.ins t.bz dx fs5):=aj
  have np5:∀b,H4' b=none->b≠p:=fun b e z=>by rw[z,hp4]at e;cases e
  have auQ:=K5'.kp _ _ ha5 (np5 _ haw)
  have hO5:∀d,d<n->upd H5 p (.ins t.bz dx fs5) (o d)=some (.lst []):=fun d hd=>K5'.kp _ _ (hf5 d hd).2.2 (np5 _ (hf5 d hd).1)
  clear ha5 K5'
  generalize upd H5 p (.ins t.bz dx fs5)=H5' at K5 hp5 auQ hO5
  refine⟨Eo,fun r hr6=>?_⟩
  have npr:r≠p:=fun z=>by rw[z,hp5]at hr6;cases hr6
  refine⟨_,rfl,p,_,dx,_,rfl,(by rw[aq npr.symm];exact hp5),T.dM,T.qJ,(by rw[hl5];show 5<1000;decide),?_⟩
  have efs:gh "row" (.ref r) fs5=T9 ns.length x ad au aw r:=by rw[<-ax1,<-auO,<-aqw,<-hf2];exact amQ
  rw[efs]
  have K6:Kp p H5' (upd (upd H5' r (.lst [])) p (.ins t.bz dx (T9 ns.length x ad au aw r))):=(Kp.same (aB hr6)).trans Kp.upd
  have hp6:upd (upd H5' r (.lst [])) p (.ins t.bz dx (T9 ns.length x ad au aw r)) p=some (.ins t.bz dx (T9 ns.length x ad au aw r)):=aj
  have auR:upd (upd H5' r (.lst [])) p (.ins t.bz dx (T9 ns.length x ad au aw r)) r=some (.lst []):=by rw[aq npr,aj]
  generalize upd (upd H5' r (.lst [])) p (.ins t.bz dx (T9 ns.length x ad au aw r))=H6 at K6 hp6 auR
  have K56:=K6
  have K46:=K5.trans K56
  have K36:=K4.trans K46
  have K26:=K3.trans K36
  have nH:∀b,H1 b=none->H b=none:=K1.lv
  have aAO:=K26.tups hp2 (fun xs z=>by cases z)
  have aAP:=K36.tups hp3 (fun xs z=>by cases z)
  refine fin (bT p Ah ad au aw r f g u o) H6 rfl (fun z hz hzn=>?_) ⟨?_,⟨dx,?_⟩,?_,?_,?_,⟨[],auR,?_⟩,fun d hd=>⟨[],?_,?_⟩,fun d hd=>⟨[],?_,?_⟩,fun d hd=>?_,?_⟩ (K1.trans (K2.trans K26))
  ·cases z with
   | bA=>exact absurd rfl hzn
   | h y=>exact nH _ (frA y hz)
   | mF=>exact nH _ (K2.lv _ had)
   | dk d=>exact nH _ (K2.lv _ (hf3 d hz).1)
   | cp d=>exact nH _ (K2.lv _ (hf3 d hz).2.1)
   | ups=>exact nH _ (K2.lv _ (K3.lv _ hau))
   | up d=>exact nH _ (K2.lv _ (K3.lv _ (hf4 d hz).1))
   | downs=>exact nH _ (K2.lv _ (K3.lv _ (K4.lv _ haw)))
   | dn d=>exact nH _ (K2.lv _ (K3.lv _ (K4.lv _ (hf5 d hz).1)))
   | row=>exact nH _ (K2.lv _ (K3.lv _ (K4.lv _ (K5.lv _ hr6))))
  ·refine alj rkT (hsT H1 H2' H3' H4' H5' H6) (fun i=>?_) (fun z hz=>?_) (fun z hz=>?_) (fun y z hy hz hrk e=>?_)
   ·match i with
    | 0=>exact fun _ _=>rfl
    | 1=>exact K2.lv
    | 2=>exact K3.lv
    | 3=>exact K4.lv
    | 4=>exact K5.lv
    | 5=>exact K6.lv
    | _+6=>exact Lv.refl _
   ·cases z with
    | bA=>rfl
    | h y=>exact frA y hz
    | mF=>exact had
    | dk d=>exact(hf3 d hz).1
    | cp d=>exact(hf3 d hz).2.1
    | ups=>exact hau
    | up d=>exact(hf4 d hz).1
    | downs=>exact haw
    | dn d=>exact(hf5 d hz).1
    | row=>exact hr6
   ·cases z with
    | bA=>exact⟨_,hp1⟩
    | h y=>obtain⟨o',e',_⟩:=HA2.live y hz;exact⟨o',e'⟩
    | mF=>exact⟨_,auN⟩
    | dk d=>obtain⟨⟨dz,vz,ez,_⟩,_⟩:=hD3 d hz;exact⟨_,ez⟩
    | cp d=>obtain⟨_,⟨kz,ez,_⟩⟩:=hD3 d hz;exact⟨_,ez⟩
    | ups=>exact⟨_,auP⟩
    | up d=>exact⟨_,hU4 d hz⟩
    | downs=>exact⟨_,auQ⟩
    | dn d=>exact⟨_,hO5 d hz⟩
    | row=>exact⟨_,auR⟩
   ·have dc:∀a b,a<n->b<n->f a≠g b:=fun a b ha hb e=>by
     obtain⟨⟨dz,vz,ez,_⟩,_⟩:=hD3 a ha
     obtain⟨_,⟨kz,ez2,_⟩⟩:=hD3 b hb
     rw[e,ez2]at ez;cases ez
    cases y with
    | bA=>cases z<;>first | rfl | cases hrk
    | row=>cases z<;>first | rfl | cases hrk
    | h a=>cases z with
      | h b=>rw[HA2.inj a b hy hz e]
      | _=>cases hrk
    | mF=>cases z with
      | mF=>rfl
      | dk d=>exact absurd e.symm (hf3 d hz).2.2.1
      | cp d=>exact absurd e.symm (hf3 d hz).2.2.2.1
      | _=>cases hrk
    | dk a=>cases z with
      | mF=>exact absurd e (hf3 a hy).2.2.1
      | dk b=>rw[aAC a b hy hz e]
      | cp b=>exact absurd e (dc a b hy hz)
      | _=>cases hrk
    | cp a=>cases z with
      | mF=>exact absurd e (hf3 a hy).2.2.2.1
      | dk b=>exact absurd e.symm (dc b a hz hy)
      | cp b=>rw[aAD a b hy hz e]
      | _=>cases hrk
    | ups=>cases z with
      | ups=>rfl
      | up b=>exact absurd e.symm (hf4 b hz).2.1
      | _=>cases hrk
    | up a=>cases z with
      | ups=>exact absurd e (hf4 a hy).2.1
      | up b=>rw[auf a b hy hz e]
      | _=>cases hrk
    | downs=>cases z with
      | downs=>rfl
      | dn b=>exact absurd e.symm (hf5 b hz).2.1
      | _=>cases hrk
    | dn a=>cases z with
      | downs=>exact absurd e (hf5 a hy).2.1
      | dn b=>rw[aAH a b hy hz e]
      | _=>cases hrk
  ·show H6 p=some (.ins t.bz dx (T9 ns.length (Ah .hall) ad au aw r))
   rw[eh];exact hp6
  ·exact K36.kp _ _ auN (np3 _ had)
  ·exact K46.kp _ _ auP (np4 _ hau)
  ·exact K56.kp _ _ auQ (np5 _ haw)
  ·simp only[S0,List.map_nil,aH]
  ·exact K46.kp _ _ (hU4 d hd) (np4 _ (hf4 d hd).1)
  ·simp only[S0,List.map_nil,aH]
  ·exact K56.kp _ _ (hO5 d hd) (np5 _ (hf5 d hd).1)
  ·simp only[S0,List.map_nil,aH]
  ·exact((hD3 d hd).keep aAP (fun o e=>K36.kp _ o e (np3 _ (hf3 d hd).1)) (fun o e=>K36.kp _ o e (np3 _ (hf3 d hd).2.1))).congr (fun _=>rfl) (fun _ z=>absurd rfl z) rfl
  ·exact HA2.keep aAO (fun z hz o e=>K26.kp _ o e (npA z hz))
end
end gn
namespace gn
open PySem L2
def aqx(c:C4):Sp:=fun vs H Q _=>∃B n m S k a x se,∃tt:Nat,vs=[.ref (B .bA),.ref a]/\cF c H B n m S k/\H a=some (.tup (cC.vs x))/\jx n m S/\Bd tt S se/\tt<=1500/\k<=800000/\
 ∀v B' H',cF c H' B' n m (S.step n m x).1 (k+2)->TF H H' B n m->Tv H B B' n m->B' .bA=B .bA->Rep H' v (S.step n m x).2->Q v H'
theorem an0(n m:Nat)(S:TS)(x:cC):p7 n m S x=""\/p7 n m S x="no desk"\/p7 n m S x="no page"\/p7 n m S x="waiting"\/p7 n m S x="no copy"\/p7 n m S x="no letter":=by
 unfold p7
 split
 ·cases x with
  | up d=>dsimp only;cases (S.up d.toNat).isEmpty<;>simp
  | down d=>dsimp only;cases (S.dn d.toNat).isEmpty<;>simp
  | rest d p =>
    dsimp only
    split
    ·cases decide ((S.ds d.toNat).rt p=.no)<;>simp
    ·simp
  | look d p =>
    dsimp only
    split
    ·cases (S.ds d.toNat).ws.isSome<;>simp
    ·simp
  | put d p y =>
    dsimp only
    split
    ·cases (S.ds d.toNat).ws.isSome<;>simp
    ·simp
 ·simp
section
variable{P:Program}{w:World}{K:PySem.W.Frag}{mg:Str->Option Value}{base:Heap}{t:JR}
theorem adK(T:Txt K w mg t):dj P w K mg base oM 8 t.jg t.Al ["town","deed"] (aqx (c4 t)):=by
 refine T.R9.ok ada (fun vs H Q E h=>?_) (fun cdv A outer s H vs Q E hr h=>?_)
 ·obtain⟨B,n,m,S,k,a,x,se,tt,rfl,_⟩:=h;rfl
 ·obtain⟨B,n,m,S,k,a,x,se,tt,rfl,TA,ha,I,bd,ht0,hk,fin⟩:=h
  obtain⟨dx,ht⟩:=TA.ob
  refine⟨_,(aA (asF Qv (fun _ _=>(aA (aZ (amu (pv 0) T.dM T.Uh (Uv T) (hr.mono (by decide):bQ 7 _) T.XH (aa (pv 1) ao))))) (W5 Qv (by rfl) T.agr T.Xx (fun _=>(aA (aZ aC))) (W5 Qv (by rfl) T.ags T.Mq (fun _=>(aA (aZ aC))) (W5 Qv (by rfl) T.ach T.yC (fun _=>(aA (aZ aC))) (W5 Qv (by rfl) T.agt T.yD (fun _=>(aA (aZ aC))) (W5 Qv (by rfl) T.Xy T.lX (fun _=>(aA (aZ aC))) asD))))))),?_⟩
  try dsimp only[dD,Cx.kZ]
  refine⟨_,rfl,B .bA,dx,_,rfl,ht,atk,_,rfl,B,n,m,S,k,a,x,se,tt,rfl,TA,ha,I,bd,ht0,hk,fun _ v B' H' T' f' tv' et' r'=>fin v B' H' T' f' tv' et' r',fun s es hs H' same=>?_⟩
  have out:Q (.str s) H':=by
   have st:=(agW (n:=n) (m:=m) (S:=S) (x:=x) (by rw[es];exact hs)).1
   rw[es]at st
   refine fin _ B H' ?_ (TF.of_same same) (Tv.refl _ _ _ _) rfl ?_
   ·rw[st];exact(TA.same same).more (by lia)
   ·rw[st];simp only[Rep]
  have hm:=an0 n m S x
  rw[es]at hm
  rcases hm with rfl | rfl | rfl | rfl | rfl | rfl
  ·exact absurd rfl hs
  ·rw[show xT t "no desk"=t.bj from anT]
   exact⟨t.bj,_,rfl,T.Xx,bG (by simp) out⟩
  ·rw[show xT t "no page"=t.bf from anU]
   refine⟨t.bf,_,rfl,T.Mq,aM ?_ ⟨t.bf,_,rfl,T.Mq,bG (by simp) out⟩⟩
   have n1:=T.pX
   have n2:=T.fc
   simp[n1,n2]
  ·rw[show xT t "waiting"=t.aN from anV]
   refine⟨t.aN,_,rfl,T.yC,aM ?_ ⟨t.aN,_,rfl,T.yC,aM ?_ ⟨t.aN,_,rfl,T.yC,bG (by simp) out⟩⟩⟩
   ·have n1:=T.nP
    have n2:=T.fc
    simp[n1,n2]
   ·have n1:=T.nQ
    have n2:=T.gj
    simp[n1,n2]
  ·rw[show xT t "no copy"=t.aV from anW]
   refine⟨t.aV,_,rfl,T.yD,aM ?_ ⟨t.aV,_,rfl,T.yD,aM ?_ ⟨t.aV,_,rfl,T.yD,aM ?_ ⟨t.aV,_,rfl,T.yD,bG (by simp) out⟩⟩⟩⟩
   ·have n1:=T.pY
    have n2:=T.fc
    simp[n1,n2]
   ·have n1:=T.pZ
    have n2:=T.gj
    simp[n1,n2]
   ·have n1:=T.nR
    have n2:=T.iR
    simp[n1,n2]
  ·rw[show xT t "no letter"=t.aJ from ai3]
   refine⟨t.aJ,_,rfl,T.lX,aM ?_ ⟨t.aJ,_,rfl,T.lX,aM ?_ ⟨t.aJ,_,rfl,T.lX,aM ?_ ⟨t.aJ,_,rfl,T.lX,aM ?_ ⟨t.aJ,_,rfl,T.lX,bG (by simp) out⟩⟩⟩⟩⟩
   ·have n1:=T.lY
    have n2:=T.fc
    simp[n1,n2]
   ·have n1:=T.lZ
    have n2:=T.gj
    simp[n1,n2]
   ·have n1:=T.lr
    have n2:=T.iR
    simp[n1,n2]
   ·have n1:=T.mj
    have n2:=T.lu
    simp[n1,n2]
end
end gn
namespace gn
open PySem L2
def Nm(n m:Nat)(S:TS)(xs:List cC):TS:=xs.foldl (fun S x=>(S.step n m x).1) S
theorem QX(n m:Nat)(S:TS)(xs:List cC)(x:cC):Nm n m S (xs++[x])=((Nm n m S xs).step n m x).1:=by unfold Nm;rw[List.foldl_append];rfl
theorem YC{H:Hp}:∀{l:List cC} {vs:List V} {i:Nat} {v:V},aH H vs (l.map cC.d)->vs[i]? = some v->∃x,l[i]? = some x/\Rep H v x.d
 | [],vs,i,v,h,hv=>by simp only[List.map_nil,aH]at h;subst h;simp at hv
 | x::l,vs,i,v,h,hv=>by
   simp only[List.map_cons,aH]at h
   obtain⟨u,us,rfl,ru,rl⟩:=h
   cases i with
   | zero=>simp at hv;subst hv;exact⟨x,rfl,ru⟩
   | succ i=>simp at hv;obtain⟨x',h1,h2⟩:=YC rl hv;exact⟨x',by simpa using h1,h2⟩
theorem jx.run{n m:Nat}:∀{xs:List cC} {S:TS},jx n m S->jx n m (Nm n m S xs)
 | [],S,h=>h
 | x::xs,S,h=>jx.run (xs:=xs) (h.step x)
theorem Bd.run{n m:Nat}:∀{xs:List cC} {S:TS} {k:Nat},Bd k S []->Bd (k+xs.length) (Nm n m S xs) []
 | [],S,k,h=>h
 | x::xs,S,k,h=>by
   have:=Bd.run (n:=n) (m:=m) (xs:=xs) (k:=k+1) ((h.step (n:=n) (m:=m) x).sent)
   rw[List.length_cons,show k+(xs.length+1)=k+1+xs.length by lia]
   exact this
end gn
namespace gn
open PySem L2
theorem cC.size(x:cC):x.d.size<=20:=by cases x<;>simp[cC.d,D.size,D.sizes]
theorem YD:∀xs:List cC,D.sizes (xs.map cC.d)<=21*xs.length
 | []=>by simp[D.sizes]
 | x::xs=>by
   have h1:=x.size
   have h2:=YD xs
   simp only[List.map_cons,D.sizes,List.length_cons]
   lia
end gn
namespace gn
open PySem L2
def aha(c:C4):Sp:=fun vs H Q _=>∃n:Nat,∃ns:List Int,∃l dl us xs,vs=[.int n,.ref l,.ref dl]/\H l=some (.lst (ns.map V.int))/\H dl=some (.lst us)/\aH H us (List.map cC.d xs)/\n<=1000/\ns.length<=1000/\xs.length<=1500/\
 ∀B H',bZ H H'->cF c H' B n ns.length (Nm n ns.length (S0 ns) xs) (2*xs.length)->(∀x:Tb,x.ok n ns.length->H (B x)=none)->Q (.ref (B .bA)) H'
section
variable{P:Program}{w:World}{K:PySem.W.Frag}{mg:Str->Option Value}{base:Heap}{t:JR}
theorem aaT(T:Txt K w mg t):dj P w K mg base oM 9 t.iJ t.xF ["count","numbers","deeds"] (aha (c4 t)):=by
 refine T.MK.ok xr (fun vs H Q E h=>?_) (fun cdv A outer s H vs Q E hr h=>?_)
 ·obtain⟨n,ns,l,dl,us,xs,rfl,_⟩:=h;rfl
 ·obtain⟨n,ns,l,dl,us,xs,rfl,hl,hdl,rd,hn,hns,hxs,fin⟩:=h
  refine⟨_,(ak (bx (i:=3) xr.nd rfl (Or.inl rfl) (acO T.adg (adJ T) (hr.mono (by decide):bQ 6 _) (by rfl) T.atB T.agI .nil bW (aa (pv 0) (aa (pv 1) ao))))
   (ak (tX PassesOwn.never rfl (sG (pv 2)) (cM (i:=4) xr.nd rfl (Or.inl rfl)) (aA (bO (cB (adK T) (hr.mono (by decide):bQ 8 _) (by rfl) T.agM T.R9.kp T.agL .nil bW (aa (pv 3) (aa (pv 4) ao))))))
   (aA (aZ (pv 3))))),?_⟩
  try dsimp only[dD,Cx.kZ]
  show let Z1:L2.TS:=_;let Z2:L2.TS:=_;let Z3:L2.TS:=TQ _ _ Z2;let Z4:L2.TS:=_;let D0:Ends:=_;(aU Z1 (aU Z3 (Z4))) D0 _ _
  intro Z1 Z2 Z3 Z4 D0
  refine⟨_,rfl,_,rfl,fun p dx hp hdx nx=>?_⟩
  refine⟨p,dx,l,n,ns,rfl,aj,?_,hn,hns,fun B H1 eB fr T1 k1=>⟨rfl,?_⟩⟩
  ·rw[aq (aG hl hp),aq (aG hl hdx)];exact hl
  have s1:bZ H H1:=fun b o e=>k1.kp b o (by rw[aq (aG e hp),aq (aG e hdx)];exact e) (aG e hp)
  have fr1:∀x:Tb,x.ok n ns.length->H (B x)=none:=fun x hx=>by
   by_cases e:x=.bA
   ·rw[e,eB];exact hp
   ·exact Lv.upd _ (Lv.upd _ (fr x hx e))
  clear fr k1
  have hul:us.length=xs.length:=by rw[rd.length,List.length_map]
  refine⟨_,rfl,dl,rfl,⟨_,cz.of (s1 _ _ hdl)⟩,?_⟩
  let PV1:Nat->St->Hp->Prop:=fun i σ' H'=>(∃o,σ'=[some (.int n),some (.ref l),some (.ref dl),some (.ref p),o])/\i<=us.length/\bZ H H'/\∃B':Tb->Addr,B' .bA=p/\cF (c4 t) H' B' n ns.length (Nm n ns.length (S0 ns) (xs.take i)) (2*i)/\(∀x:Tb,x.ok n ns.length->H (B' x)=none)
  refine tY (xs:=us) PV1 ?_ ?_ ?_ ?_
  ·exact⟨⟨_,rfl⟩,Nat.zero_le _,s1,B,eB,T1,fr1⟩
  ·rintro i σ' H' _ ⟨_,_,s',_⟩
   exact cz.of (s' _ _ hdl)
  ·rintro i y σ' H' hy ⟨⟨o,rfl⟩,hi,s',B',eB',T',fr'⟩
   have hi':i<us.length:=(List.getElem?_eq_some_iff.mp hy).1
   obtain⟨x,hx,rx⟩:=YC (rd.aX (bc s') (bL cC.flat _)) hy
   obtain⟨a,rfl,hxa⟩:=ag6 rx
   have htk:xs.take (i+1)=xs.take i++[x]:=by rw[List.take_add_one,hx];rfl
   have hti:(xs.take i).length<=1500:=by rw[List.length_take];lia
   have bd:=Bd.run (n:=n) (m:=ns.length) (xs:=xs.take i) (Bd.start ns)
   rw[Nat.zero_add]at bd
   refine⟨_,rfl,_,rfl,B',n,ns.length,_,2*i,a,x,[],(xs.take i).length,(by rw[eB'];rfl),T',hxa,jx.run (jx.start n ns),bd,hti,by lia,fun v B2 H2 T2 f2 tv2 et2 r2=>?_⟩
   have s2:bZ H H2:=fun b u e=>f2.kp _ _ (s' b u e) fun z hz e2=>by rw[e2,fr' z hz]at e;cases e
   refine⟨⟨_,rfl⟩,by lia,s2,B2,et2.trans eB',?_,fun z hz=>?_⟩
   ·rw[htk,QX,show 2*(i+1)=2*i+2 by lia]
    exact T2
   ·rcases tv2 z hz with e | e
    ·rw[e];exact fr' z hz
    ·exact Lv.same s' _ e
  ·rintro σ' H' ⟨⟨o,rfl⟩,_,s',B',eB',T',fr'⟩
   rw[hul,List.take_length]at T'
   refine⟨_,rfl,?_⟩
   rw[<-eB']
   exact fin B' H' s' T' fr'
end
end gn
namespace gn
open PySem L2
theorem Xl.start(n:Nat)(ns:List Int):Xl n ns.length (nm0 ns) (S0 ns) where
 pv p hp:=⟨[],PV.start (nm0 ns p)⟩
 wk:=trivial
 rg e h:=nomatch h
theorem Xl.run{n m:Nat}{x:Int->Int}:∀{xs:List cC} {S:TS},jx n m S->Xl n m x S->Xl n m x (Nm n m S xs)
 | [],S,_,h=>h
 | y::xs,S,I,h=>Xl.run (xs:=xs) (I.step y) (h.step I y)
theorem akp{H:Hp}:∀{l:List RE} {vs:List V} {i:Nat} {v:V},aH H vs (l.map RE.d)->vs[i]? = some v->∃x,l[i]? = some x/\Rep H v x.d
 | [],vs,i,v,h,hv=>by simp only[List.map_nil,aH]at h;subst h;simp at hv
 | x::l,vs,i,v,h,hv=>by
   simp only[List.map_cons,aH]at h
   obtain⟨u,us,rfl,ru,rl⟩:=h
   cases i with
   | zero=>simp at hv;subst hv;exact⟨x,rfl,ru⟩
   | succ i=>simp at hv;obtain⟨x',h1,h2⟩:=akp rl hv;exact⟨x',by simpa using h1,h2⟩
def RE.vs(e:RE):List V:=[.str (aca e.put),.int e.dk,.int e.pg,.int e.num]
theorem aqy{H:Hp}{v:V}{e:RE}(h:Rep H v e.d):∃a,v=.ref a/\H a=some (.tup e.vs):=by
 simp only[RE.d,Rep,aH]at h
 obtain⟨a,xs,rfl,h2,_,_,rfl,h3,_,_,rfl,h4,_,_,rfl,h5,_,_,rfl,h6,rfl⟩:=h
 subst h3;subst h4;subst h5;subst h6
 exact⟨a,rfl,h2⟩
theorem walk_at:∀{row:List RE} {x:Int->Int} {i:Nat} {e:RE},zR x row->row[i]? = some e->e.put=false->e.num=lD x (row.take i) e.pg
 | [],_,_,_,_,h,_=>by simp at h
 | y::r,x,0,e,w,h,hp=>by simp at h;subst h;exact w.1 hp
 | y::r,x,i+1,e,w,h,hp=>by
   simp at h
   show e.num=lD (agn x y) (r.take i) e.pg
   exact walk_at w.2 h hp
def ahb(x:Int->Int)(m:Nat):List V:=(List.range m).map fun p:Nat=>V.int (x p)
theorem aqz{x:Int->Int}{m p:Nat}(h:p<m):Ql (ahb x m) (p:Int)=some (.int (x p)):=zM (by unfold ahb;rw[List.getElem?_map,List.getElem?_range h];rfl)
theorem an1(x:Int->Int)(m:Nat):(ahb x m).length=m:=by unfold ahb;rw[List.length_map,List.length_range]
theorem an2{x:Int->Int}{m p:Nat}{k:Int}:(ahb x m).set p (.int k)=ahb (fun q=>if q=(p:Int)then k else x q) m:=by
 unfold ahb
 refine List.ext_getElem (by simp) fun i h1 h2=>?_
 rw[List.getElem_set]
 simp only[List.getElem_map,List.getElem_range]
 by_cases e:p=i
 ·subst e;simp
 ·have:¬((i:Int)=(p:Int)):=by lia
  simp[e,this]
end gn
namespace gn
open PySem L2
def aqA:Sp:=fun vs H Q _=>∃n:Nat,∃ns:List Int,∃l dl us xs,vs=[.int n,.ref l,.ref dl]/\H l=some (.lst (ns.map V.int))/\H dl=some (.lst us)/\aH H us (List.map cC.d xs)/\n<=1000/\ns.length<=1000/\xs.length<=1500/\
 ∀r zs H',bZ H H'->H' r=some (.lst zs)->aH H' zs ((Nm n ns.length (S0 ns) xs).row.map RE.d)->Q (.ref r) H'
def auS:Sp:=fun vs H Q _=>∃r,∃n:Nat,∃nl zs,∃row:List RE,∃nums:List Int,vs=[.ref r,.int n,.ref nl]/\H r=some (.lst zs)/\aH H zs (row.map RE.d)/\H nl=some (.lst (nums.map V.int))/\zR (nm0 nums) row/\(∀e∈row,e.dk<n/\∃q:Nat,q<nums.length/\e.pg=(q:Int))/\
 ∀H',bZ H H'->Q (.bl true) H'
section
variable{P:Program}{w:World}{K:PySem.W.Frag}{mg:Str->Option Value}{base:Heap}{t:JR}
theorem alk(T:Txt K w mg t):dj P w K mg base oM 10 t.qz t.QB ["count","numbers","deeds"] aqA:=by
 refine T.agN.ok ak5 (fun vs H Q E h=>?_) (fun cdv A outer s H vs Q E hr h=>?_)
 ·obtain⟨n,ns,l,dl,us,xs,rfl,_⟩:=h;rfl
 ·obtain⟨n,ns,l,dl,us,xs,rfl,hl,hdl,rd,hn,hns,hxs,fin⟩:=h
  refine⟨_,(aA (aZ (cL (cB (aaT T) (hr.mono (by decide):bQ 9 _) (by rfl) T.adq T.MK.kp T.adp .nil bW (aa (pv 0) (aa (pv 1) (aa (pv 2) ao)))) (by rfl)))),?_⟩
  try dsimp only[dD,Cx.kZ]
  refine⟨_,rfl,_,rfl,_,rfl,n,ns,l,dl,us,xs,rfl,hl,hdl,rd,hn,hns,hxs,fun B H1 s1 T1 fr1=>?_⟩
  obtain⟨dx,ht⟩:=T1.ob
  obtain⟨vs,e1,e2⟩:=T1.row
  exact⟨B .bA,_,dx,_,_,rfl,ht,T.dM,T.qJ,ajV,fin _ vs H1 s1 e1 e2⟩
theorem Ux(T:Txt K w mg t):dj P w K mg base oM 2 t.fZ t.rK ["_law_found","_law_count","_law_numbers"] auS:=by
 refine T.Gi.ok fC (fun vs H Q E h=>?_) (fun cdv A outer s H vs Q E hr h=>?_)
 ·obtain⟨r,n,nl,zs,row,nums,rfl,_⟩:=h;rfl
 ·obtain⟨r,n,nl,zs,row,nums,rfl,hr0,rz,hnl,wk,rg,fin⟩:=h
  have sl:sizeLine=16777216:=by decide
  refine⟨_,(ak (bU (qW (jO (cX jt (by rfl) T.d9 PyProof.Rows.Boot.«isinstance» (aa (pv 0) (aa (pI (by rfl) T.Gj PyProof.Rows.Boot.«list») ao))))) (aA (aZ vC)) bw)
   (ak (bx (i:=3) fC.nd rfl (Or.inl rfl) (ig sH (by rfl) T.Gj PyProof.Rows.Boot.«list» (aa (pv 2) ao)))
   (ak (tX PassesOwn.never rfl (sG (pv 0)) (cM (i:=4) fC.nd rfl (Or.inl rfl)) (ak (bU (PW.pt (mU (qW (jO (cX jt (by rfl) T.d9 PyProof.Rows.Boot.«isinstance» (aa (pv 4) (aa (pI (by rfl) T.Ww PyProof.Rows.Boot.«tuple») ao))))) (mU (aQ tZ (cX dq (by rfl) T.wA PySem.boot_len (aa (pv 4) ao)) az (aW _)) (lL (qW (jO (cX jt (by rfl) T.d9 PyProof.Rows.Boot.«isinstance» (aa (aO bB (pv 4) az (fun _ _=>rfl)) (aa (pI (by rfl) T.am2 PyProof.Rows.Boot.«str») ao))))))))) (aA (aZ vC)) bw)
   (ak (tX PassesOwn.never rfl (asf (WX amf (pv 4) (acQ az) acP)) (cM (i:=5) fC.nd rfl (Or.inl rfl)) (aA (bU (qW (jO (cB (Yp T) (hr.mono (by decide):bQ 1 _) (by rfl) T.acj T.QM.kp T.aci .nil bW (aa (pv 5) ao)))) (aA (aZ vC)) bw)))
   (ak (tW (pv 4) (JF rfl (fP (cM (i:=6) fC.nd rfl (Or.inl rfl)) (fP (cM (i:=7) fC.nd rfl (Or.inl rfl)) (fP (cM (i:=8) fC.nd rfl (Or.inl rfl)) (fP (cM (i:=9) fC.nd rfl (Or.inl rfl)) zJ))))))
   (ak (bU (PW.pt (mU (aQ RZ (pv 7) az (aW _)) (mU (aQ Ls (pv 7) (pv 1) (aW _)) (mU (aQ RZ (pv 8) az (aW _)) (lL (aQ Ls (pv 8) (cX dq (by rfl) T.wA PySem.boot_len (aa (pv 2) ao)) (aW _))))))) (aA (aZ vC)) bw)
   (aA (bU (aQ cQ (pv 6) aC (aW _)) (aA (tW (pv 9) (Ep (pv 3) (pv 8) set_list))) (aA (bU (PW.pt (mU (aQ tZ (pv 6) aC (aW _)) (lL (aQ tZ (aO bD (pv 3) (pv 8) (fun _ _=>rfl)) (pv 9) (aW _))))) (aA (aZ vC)) bw)))))))))
   (aA (aZ vC))))),?_⟩
  try dsimp only[dD,Cx.kZ]
  show let Z1:L2.TS:=_;let Z2:L2.TS:=cT _ Z1 bJ;let Z3:L2.TS:=_;let Z4:L2.TS:=_;let Z5:L2.TS:=cT _ Z4 bJ;let Z6:L2.TS:=_;let Z7:L2.TS:=cT _ Z6 bJ;let Z8:L2.TS:=TQ _ _ Z7;let Z9:L2.TS:=_;let yW:L2.TS:=_;let IV:L2.TS:=cT _ yW bJ;let IW:L2.TS:=_;let Nj:L2.TS:=_;let Nk:L2.TS:=cT _ Nj bJ;let Yk:L2.TS:=cT _ IW Nk;let Z16:L2.TS:=aU Z5 (aU Z8 (aU Z9 (aU IV (Yk))));let Z17:L2.TS:=TQ _ _ Z16;let Z18:L2.TS:=_;let D0:Ends:=_;(aU Z2 (aU Z3 (aU Z17 (Z18)))) D0 _ _
  intro Z1 Z2 Z3 Z4 Z5 Z6 Z7 Z8 Z9 yW IV IW Nj Nk Yk Z16 Z17 Z18 D0
  refine⟨_,rfl,_,_,_,true,rfl,.lst hr0,.inl ⟨_,rfl,aiv⟩,_,rfl,wY ?_⟩
  refine⟨_,rfl,nl,_,rfl,.inl (cz.of hnl),fun nw hnw=>?_⟩
  have s1:=aB (o:=.lst (nums.map V.int)) hnw
  refine⟨_,rfl,r,rfl,⟨_,cz.of (s1 _ _ hr0)⟩,?_⟩
  let PV1:Nat->St->Hp->Prop:=fun i σ' H'=>(∃o4 o5 o6 o7 o8 o9,σ'=[some (.ref r),some (.int n),some (.ref nl),some (.ref nw),o4,o5,o6,o7,o8,o9])/\bZ H H'/\H' nw=some (.lst (ahb (lD (nm0 nums) (row.take i)) nums.length))
  refine tY (xs:=zs) PV1 ?_ ?_ ?_ ?_
  ·exact⟨⟨_,_,_,_,_,_,rfl⟩,s1,by rw[aj,aki];rfl⟩
  ·rintro i σ' H' _ ⟨_,s',_⟩
   exact cz.of (s' _ _ hr0)
  ·rintro i y σ' H' hy ⟨⟨o4,o5,o6,o7,o8,o9,rfl⟩,s',hw'⟩
   obtain⟨e,he,re⟩:=akp (rz.aX (bc s') (bL RE.flat _)) hy
   obtain⟨b,rfl,hb⟩:=aqy re
   have hem:e∈row:=List.mem_of_getElem? he
   obtain⟨g1,q,g2,g3⟩:=rg e hem
   have htk:row.take (i+1)=row.take i++[e]:=by rw[List.take_add_one,he];rfl
   refine⟨_,rfl,_,_,_,true,rfl,.tup hb,.inl ⟨_,rfl,aiw⟩,_,rfl,aM rfl ?_⟩
   refine⟨_,rfl,b,_,rfl,.inr (cW.of hb),rfl,_,rfl,aM rfl ?_⟩
   refine zt rfl (cW.of hb) rfl ⟨_,_,.type "str",true,rfl,.str _,.inl ⟨_,rfl,aiu⟩,_,rfl,aM rfl ?_⟩
   refine⟨_,rfl,_,rfl,b,_,rfl,cW.of hb,(by show ¬(HT.mR 4 0 (some 1)=0/\HT.mR 4 4 none=4);decide),fun sp hsp=>?_⟩
   have s2:=aB (o:=.tup (Qq e.vs (some 1) none)) hsp
   have auT:upd H' sp (.tup (Qq e.vs (some 1) none)) sp=some (.tup [.int e.dk,.int e.pg,.int e.num]):=aj
   generalize upd H' sp (.tup (Qq e.vs (some 1) none))=H2 at s2 auT
   have s02:=s'.trans s2
   have hw2:=s2 _ _ hw'
   have hb2:=s2 _ _ hb
   refine⟨sp,rfl,⟨_,cW.of auT⟩,?_⟩
   refine aoJ (xs:=[.int e.dk,.int e.pg,.int e.num]) (fun j σ' H3=>(∃o5,σ'=[some (.ref r),some (.int n),some (.ref nl),some (.ref nw),some (.ref b),o5,o6,o7,o8,o9])/\H3=H2) ?_ ?_ ?_ ?_
   ·exact⟨⟨_,rfl⟩,rfl⟩
   ·rintro j σ' H3 _ ⟨_,rfl⟩
    exact cW.of auT
   ·rintro j y σ' H3 hy ⟨⟨o5,rfl⟩,rfl⟩
    obtain⟨k,rfl⟩:∃k,y=.int k:=by
     rcases j with _ | _ | _ | j<;>simp at hy
     ·exact⟨_,hy.symm⟩
     ·exact⟨_,hy.symm⟩
     ·exact⟨_,hy.symm⟩
    exact⟨_,rfl,k,rfl,_,rfl,aM rfl ⟨⟨_,rfl⟩,rfl⟩⟩
   ·rintro σ' H3 ⟨⟨o5,rfl⟩,rfl⟩
    refine⟨_,rfl,b,_,rfl,cW.of hb2,rfl,_,_,rfl,_,_,rfl,_,_,rfl,_,_,rfl,rfl,?_⟩
    refine⟨_,rfl,_,_,rfl,rfl,_,rfl,aM (decide_eq_false (by lia)) ?_⟩
    refine⟨_,rfl,_,rfl,_,_,rfl,rfl,_,rfl,aM (decide_eq_false (by lia)) ?_⟩
    refine⟨_,rfl,_,_,rfl,rfl,_,rfl,aM (decide_eq_false (by lia)) ?_⟩
    refine⟨_,rfl,_,rfl,nl,_,rfl,.inl (cz.of (s02 _ _ hnl)),_,_,rfl,rfl,_,rfl,aM (decide_eq_false (by rw[List.length_map];lia)) ?_⟩
    refine⟨_,rfl,rfl,_,rfl,?_⟩
    cases hp:e.put with
    | true =>
      refine bG (by decide) ?_
      refine⟨_,rfl,_,rfl,_,rfl,nw,_,_,q,rfl,rfl,hw2,by rw[g3,an1];exact wC g2,?_⟩
      refine⟨⟨_,_,_,_,_,_,rfl⟩,fU s02 hnw,?_⟩
      rw[aj,an2,htk,mH]
      unfold agn
      rw[hp,if_pos rfl,g3]
    | false =>
      refine aM (by decide) ?_
      refine⟨_,rfl,rfl,_,rfl,aM (by decide) ?_⟩
      refine⟨_,rfl,_,rfl,nw,_,_,_,rfl,rfl,cz.of hw2,by rw[g3];exact aqz g2,_,rfl,rfl,_,rfl,aM ?_ ?_⟩
      ·have:=walk_at wk he hp
       rw[this,g3];simp
      ·refine⟨⟨_,_,_,_,_,_,rfl⟩,s02,?_⟩
       rw[hw2,htk,mH]
       unfold agn
       rw[hp];rfl
  ·rintro σ' H' ⟨_,s',_⟩
   exact fin H' s'
end
end gn
namespace gn
open PySem L2
def akq(K:PySem.W.Frag):Sp:=fun vs H Q _=>∃(a:Addr) (ns:List Int),vs=[.ref a]/\cz K H a (ns.map V.int)/\ns.length<=63/\∀H',Q (.bl true) H'
theorem RE.size(e:RE):e.d.size<=20:=by simp[RE.d,D.size,D.sizes]
theorem acy:∀l:List RE,D.sizes (l.map RE.d)<=21*l.length
 | []=>by simp[D.sizes]
 | x::l=>by
   have h1:=x.size
   have h2:=acy l
   simp only[List.map_cons,D.sizes,List.length_cons]
   lia
section
variable{P:Program}{w:World}{K:PySem.W.Frag}{mg:Str->Option Value}{base:Heap}{t:JR}
theorem auU(T:Txt K w mg t):dj P w K mg base oM 11 t.Xw t.aiO ["_law_script"] (akq K):=by
 refine T.awB.ok rA (fun vs H Q E h=>?_) (fun cdv A outer s H vs Q E hr h=>?_)
 ·obtain⟨a,ns,rfl,_⟩:=h;rfl
 ·obtain⟨a,ns,rfl,ha,hl,q⟩:=h
  have hu:=lA hr
  refine' ⟨_,?sr,?_⟩
  case' sr=>refine' ak ?Yr ?J3
  case' J3=>refine' ak ?Ys ?J4
  case' J4=>refine' ak ?Yt ?J5
  case' J5=>refine' ak ?Yu ?Yv
  case' Yv=>refine' ak ?ag0 ?Yw
  case' Yw=>refine' ak ?ag1 ?Yx
  case' Yx=>refine' ak ?ag2 ?aiY
  case' aiY=>refine' ak ?anF ?aiZ
  case' aiZ=>refine' ak ?anG ?ai0
  case' ai0=>refine' ak ?anH ?ai1
  case' ai1=>refine' ak ?ai2 ?aqB
  case' aqB=>refine' ak ?auV ?aqC
  case' aqC=>refine' ak ?auW ?aqD
  case' aqD=>refine' aA ?auX
  case' Yr=>exact(bx (i:=1) rA.nd rfl (Or.inl rfl) (cB (Wx T) (hr.mono (by decide):bQ 1 _) (by rfl) T.adu T.XS.kp T.adt .nil bW (aa (pv 0) (aa az ao))))
  case' Ys=>exact(bx (i:=2) rA.nd rfl (Or.inl rfl) (aO bD (bN (aa (bF jP az (bF fK (pv 1) az)) (aa (bF jP az (bF fK (bF jH (pv 1) az) az)) ao))) (ig mq (by rfl) T.Nb PyProof.Rows.Boot.«int» (aa (mV cQ (bF fK (bF jH (pv 1) az) az) az (aW _)) ao)) (fun _ _=>rfl)))
  case' Yt=>exact(bx (i:=3) rA.nd rfl (Or.inl rfl) (aO bD (bN (aa (bF jP az (bF fK (bF jH (pv 1) az) az)) (aa (bF jP az (bF fK (bF jH (pv 1) az) az)) ao))) (ig mq (by rfl) T.Nb PyProof.Rows.Boot.«int» (aa (mV cQ (bF fK (bF jH (pv 1) az) az) az (aW _)) ao)) (fun _ _=>rfl)))
  case' Yu=>exact(bx (i:=4) rA.nd rfl (Or.inl rfl) (cB (Us T) (hr.mono (by decide):bQ 1 _) (by rfl) T.Yb T.Gh.kp T.X8 .nil bW (aa (cB (Wx T) (hr.mono (by decide):bQ 1 _) (by rfl) T.adu T.XS.kp T.adt .nil bW (aa (pv 0) (aa az ao))) (aa (pv 3) ao))))
  case' ag0=>exact(bx (i:=5) rA.nd rfl (Or.inl rfl) (cB (aaS T) (hr.mono (by decide):bQ 1 _) (by rfl) T.ady T.M9.kp T.adx .nil bW (aa (WX aoT (pv 0) (acQ az) acP) (aa (pv 2) (aa (pv 3) ao)))))
  case' ag1=>exact(bU (aQ cQ (bF fK (bF jH (cB (Wx T) (hr.mono (by decide):bQ 1 _) (by rfl) T.adu T.XS.kp T.adt .nil bW (aa (pv 0) (aa az ao))) az) az) az (aW _)) (aA (bx (i:=5) rA.nd rfl (Or.inl rfl) (bF mW (cB (QV T) (hr.mono (by decide):bQ 1 _) (by rfl) T.Uo T.Ce.kp T.Um .nil bW (aa (pv 2) (aa (cB (Wx T) (hr.mono (by decide):bQ 1 _) (by rfl) T.adu T.XS.kp T.adt .nil bW (aa (pv 0) (aa az ao))) ao))) (pv 5)))) bw)
  case' ag2=>exact(bx (i:=6) rA.nd rfl (Or.inl rfl) (ig sH (by rfl) T.Gj PyProof.Rows.Boot.«list» (aa (pv 4) ao)))
  case' anF=>exact(bx (i:=7) rA.nd rfl (Or.inl rfl) (ig sH (by rfl) T.Gj PyProof.Rows.Boot.«list» (aa (pv 5) ao)))
  case' anG=>exact(bx (i:=8) rA.nd rfl (Or.inl rfl) (cB (alk T) (hr.mono (by decide):bQ 10 _) (by rfl) T.am0 T.agN.kp T.amZ .nil bW (aa (pv 2) (aa (pv 6) (aa (pv 7) ao)))))
  case' anH=>exact(bU (PW.pt (mU (qW (jO (cB (QT T) (hr.mono (by decide):bQ 2 _) (by rfl) T.X3 T.MN.kp T.XX .nil bW (aa (pv 6) (aa (pv 4) ao))))) (lL (qW (jO (cB (QT T) (hr.mono (by decide):bQ 2 _) (by rfl) T.X3 T.MN.kp T.XX .nil bW (aa (pv 7) (aa (pv 5) ao)))))))) (aA (aZ vC)) bw)
  case' ai2=>exact(bU (qW (jO (cB (Ux T) (hr.mono (by decide):bQ 2 _) (by rfl) T.Yd T.Gi.kp T.Yc .nil bW (aa (pv 8) (aa (pv 2) (aa (pv 4) ao)))))) (aA (aZ vC)) bw)
  case' auV=>exact(bx (i:=9) rA.nd rfl (Or.inl rfl) (cB (adH T) (hr.mono (by decide):bQ 1 _) (by rfl) T.agP T.Sd.kp T.agO .nil bW (aa (pv 2) (aa (pv 4) ao))))
  case' auW=>refine' tX PassesOwn.never rfl (sG (pv 5)) (cM (i:=10) rA.nd rfl (Or.inl rfl)) ?auY
  case' auY=>refine' aA ?Yy
  case' Yy=>exact(bO (cB (aaR T) (hr.mono (by decide):bQ 4 _) (by rfl) T.adw T.M8.kp T.adv .nil bW (aa (pv 9) (aa (pv 10) ao))))
  case' auX=>exact(aZ (cB (QT T) (hr.mono (by decide):bQ 2 _) (by rfl) T.X3 T.MN.kp T.XX .nil bW (aa (pv 8) (aa (bH hu (pv 9) aC (fun _ _=>rfl)) ao))))
  try dsimp only[dD,Cx.kZ]
  show let Z1:L2.TS:=_;let Z2:L2.TS:=_;let Z3:L2.TS:=_;let Z4:L2.TS:=_;let Z5:L2.TS:=_;let Z6:L2.TS:=_;let Z7:L2.TS:=cT _ Z6 bJ;let Z8:L2.TS:=_;let Z9:L2.TS:=_;let yW:L2.TS:=_;let IV:L2.TS:=_;let IW:L2.TS:=cT _ IV bJ;let Nj:L2.TS:=_;let Nk:L2.TS:=cT _ Nj bJ;let Yk:L2.TS:=_;let Z16:L2.TS:=_;let Z17:L2.TS:=TQ _ _ Z16;let Z18:L2.TS:=_;let D0:Ends:=_;(aU Z1 (aU Z2 (aU Z3 (aU Z4 (aU Z5 (aU Z7 (aU Z8 (aU Z9 (aU yW (aU IW (aU Nk (aU Yk (aU Z17 (Z18)))))))))))))) D0 _ _
  intro Z1 Z2 Z3 Z4 Z5 Z6 Z7 Z8 Z9 yW IV IW Nj Nk Yk Z16 Z17 Z18 D0
  refine⟨_,rfl,a,ns,0,rfl,ha,by decide,fun z=>?_⟩
  obtain⟨n,hn0,hn1,hn⟩:=anO (1+z % 4) (9+z / 288 % 12) (by lia) (by lia) (decide (V.int (z / 36 % 8)=V.int 1))
  obtain⟨m,hm0,hm1,hm⟩:=anO (1+z / 4 % 3) (8+z / 288 % 13) (by lia) (by lia) (decide (V.int (z / 36 % 8)=V.int 2))
  refine⟨_,rfl,_,_,rfl,rfl,(show(0:Int)<4 by decide),_,_,rfl,rfl,_,rfl,_,_,rfl,rfl,⟨by decide,by decide⟩,_,_,rfl,rfl,(show(0:Int)<12 by decide),_,_,rfl,rfl,vA,fun l1 hl1=>?_⟩
  refine⟨_,rfl,_,_,rfl,rfl,⟨by decide,by decide⟩,_,_,rfl,rfl,(show(0:Int)<8 by decide),rfl,.inr ⟨_,rfl,l1,_,_,_,rfl,rfl,cz.of aj,hn,?_⟩⟩
  refine⟨_,rfl,_,_,rfl,rfl,⟨by decide,by decide⟩,_,_,rfl,rfl,(show(0:Int)<3 by decide),_,_,rfl,rfl,_,rfl,_,_,rfl,rfl,⟨by decide,by decide⟩,_,_,rfl,rfl,(show(0:Int)<13 by decide),_,_,rfl,rfl,vA,fun l2 hl2=>?_⟩
  refine⟨_,rfl,_,_,rfl,rfl,⟨by decide,by decide⟩,_,_,rfl,rfl,(show(0:Int)<8 by decide),rfl,.inr ⟨_,rfl,l2,_,_,_,rfl,rfl,cz.of aj,hm,?_⟩⟩
  have s1:=(aB (o:=.lst [.int (1+z % 4),.int (9+z / 288 % 12)]) hl1).trans (aB (o:=.lst [.int (1+z / 4 % 3),.int (8+z / 288 % 13)]) hl2)
  generalize upd (upd H l1 (.lst [.int (1+z % 4),.int (9+z / 288 % 12)])) l2 (.lst [.int (1+z / 4 % 3),.int (8+z / 288 % 13)])=H1 at s1
  have ha1:=cz.same ha s1
  refine⟨_,rfl,a,ns,1,rfl,ha1,by decide,fun z1=>⟨_,rfl,z1,m,rfl,by lia,fun nl nums H2 hnum hnl s2 ax4=>?_⟩⟩
  have s02:=s1.trans s2
  have ha2:=cz.same ha s02
  obtain⟨cells,aAQ,hcl⟩:=anP ns (some 2) none
  refine⟨_,rfl,_,rfl,a,_,rfl,ha2,fun sl hsl=>?_⟩
  have s3:=aB (o:=.lst (Qq (ns.map V.int) (some 2) none)) hsl
  refine⟨_,rfl,_,rfl,sl,n,m,cells,rfl,by rw[<-aAQ];exact aj,hn0,by lia,hm0,by lia,by lia,fun al us H4 hal s4 auZ dl4=>?_⟩
  have s24:=s3.trans s4
  have au0:=s24 _ _ ax4
  have s04:=s02.trans s24
  clear s3 s4 hsl hal
  dsimp only
  refine f9 (fun σ' H'=>∃al us,σ'=[some (.ref a),some (.int z),some (.int n),some (.int m),some (.ref nl),some (.ref al),none,none,none,none,none]/\bZ H H'/\H' nl=some (.lst (nums.map V.int))/\H' al=some (.lst us)/\DL H' us 900) (fun N hN=>?_) ?_
  ·refine⟨_,rfl,a,ns,0,rfl,cz.same ha s04,by decide,fun z2=>⟨_,_,rfl,rfl,⟨by decide,by decide⟩,_,_,rfl,rfl,(show(0:Int)<3 by decide),rfl,_,rfl,?_⟩⟩
   by_cases e3:z2 / 12 % 3=1
   ·refine bG (ag4 e3) ?_
    refine⟨_,rfl,_,rfl,a,ns,1,rfl,cz.same ha s04,by decide,fun z3=>⟨n,z3,rfl,by lia,fun fl fs H5 hfl s5 aAS dl5=>?_⟩⟩
    have ax5:=dl4.aX (bc s5)
    have l1:=dl5.len
    have l2:=ax5.len
    have sl:sizeLine=16777216:=by decide
    refine⟨_,rfl,fl,al,fs,us,rfl,rfl,aAS,s5 _ _ auZ,by lia,fun al2 awP=>?_⟩
    have s6:=aB (o:=.lst (fs++us)) awP
    exact hN _ _ ⟨al2,fs++us,rfl,(s04.trans s5).trans s6,s6 _ _ (s5 _ _ au0),aj,((dl5.append ax5).more (by lia)).aX (bc s6)⟩
   ·refine aM (ag5 e3) ?_
    exact hN _ _ ⟨al,us,rfl,s04,au0,auZ,dl4.more (by lia)⟩
  ·clear s1 s2 s02 s24 s04 ax4 au0 auZ dl4 ha1 ha2
   rintro σ' H5 ⟨al,us,rfl,s05,au1,au2,dl5⟩
   obtain⟨xs,rx,hxl⟩:=dl5
   refine⟨_,rfl,nl,_,rfl,.inl (cz.of au1),fun ol hol=>?_⟩
   have s6:=aB (o:=.lst (nums.map V.int)) hol
   have aqE:upd H5 ol (.lst (nums.map V.int)) ol=some (.lst (nums.map V.int)):=aj
   generalize upd H5 ol (.lst (nums.map V.int))=H6 at s6 aqE
   refine⟨_,rfl,al,_,rfl,.inl (cz.of (s6 _ _ au2)),fun hl hhl=>?_⟩
   have s7:=aB (o:=.lst us) hhl
   have aqF:upd H6 hl (.lst us) hl=some (.lst us):=aj
   generalize upd H6 hl (.lst us)=H7 at s7 aqF
   have s57:=s6.trans s7
   have rx7:=rx.aX (bc s57) (bL cC.flat _)
   refine⟨_,rfl,_,rfl,_,rfl,n,nums,ol,hl,us,xs,rfl,s7 _ _ aqE,aqF,rx7,by lia,by lia,by lia,fun r zs H8 s8 hz8 rz8=>?_⟩
   have s58:=s57.trans s8
   have rx8:=rx7.aX (bc s8) (bL cC.flat _)
   have aqG:=s58 _ _ au1
   have au3:=s58 _ _ au2
   have ax6:=s8 _ _ (s7 _ _ aqE)
   have ax7:=s8 _ _ aqF
   have z1:=ints_size nums
   have z2:=YD xs
   refine⟨_,rfl,_,rfl,.ref ol,.ref nl,.l (nums.map D.i),rfl,?_,?_,?_,fun H9 s9=>?_⟩
   ·simp only[Rep];exact⟨ol,_,rfl,ax6,ints_rep _ _⟩
   ·simp only[Rep];exact⟨nl,_,rfl,aqG,ints_rep _ _⟩
   ·simp only[D.size];lia
   have rx9:=rx8.aX (bc s9) (bL cC.flat _)
   refine⟨_,rfl,aM rfl ?_⟩
   refine⟨_,rfl,_,rfl,.ref hl,.ref al,.l (xs.map cC.d),rfl,?_,?_,?_,fun aDN au4=>?_⟩
   ·simp only[Rep];exact⟨hl,_,rfl,s9 _ _ ax7,rx9⟩
   ·simp only[Rep];exact⟨al,_,rfl,s9 _ _ au3,rx9⟩
   ·simp only[D.size];lia
   refine⟨_,rfl,aM rfl ?_⟩
   have C:=Xl.run (xs:=xs) (jx.start n nums) (Xl.start n nums)
   have aqH:=s9.trans au4
   refine⟨_,rfl,_,rfl,_,rfl,r,n,nl,zs,_,nums,rfl,aqH _ _ hz8,rz8.aX (bc aqH) (bL RE.flat _),aqH _ _ aqG,C.wk,C.rg,fun H10 ax8=>⟨_,rfl,aM rfl ?_⟩⟩
   have s10:=au4.trans ax8
   have an3:=s9.trans s10
   have ax9:=rx9.aX (bc s10) (bL cC.flat _)
   have aya:=an3 _ _ aqG
   have arT:=an3 _ _ au3
   have aAX:=an3 _ _ hz8
   have ayb:=rz8.aX (bc an3) (bL RE.flat _)
   clear s6 s7 s57 s58 s9 s10 an3 aqH au4 ax8 rx rx7 rx8 rx9 aqG au3 ax6 ax7 aqE aqF hol hhl au1 au2 s05 s8 hz8 rz8
   refine⟨_,rfl,_,rfl,n,nl,nums,rfl,aya,by lia,by lia,fun AM H11 M11 s11 n11=>?_⟩
   rw[hnum]at M11 n11
   have hul:us.length=xs.length:=by rw[ax9.length,List.length_map]
   have aAY:=ax9.aX (bc s11) (bL cC.flat _)
   have ayc:=s11 _ _ arT
   refine⟨_,rfl,al,rfl,⟨_,cz.of ayc⟩,?_⟩
   let PV1:Nat->St->Hp->Prop:=fun i σ' H'=>(∃o,σ'=[some (.ref a),some (.int z),some (.int n),some (.int m),some (.ref nl),some (.ref al),some (.ref ol),some (.ref hl),some (.ref r),some (.ref (AM .bA)),o])/\i<=us.length/\b7 H11 H'/\(∀b o,H10 b=some o->H' b=some o)/\∃A' se,A' .bA=AM .bA/\bh H' A' n m (Nm n m (S0 nums) (xs.take i)) se/\Bd (xs.take i).length (Nm n m (S0 nums) (xs.take i)) se/\(∀x:Mb,x.ok n m->H10 (A' x)=none)
   refine tY (xs:=us) PV1 ?_ ?_ ?_ ?_
   ·exact⟨⟨_,rfl⟩,Nat.zero_le _,fun _ _ e=>e,fun b o e=>s11 b o e,AM,[],rfl,M11,Bd.start nums,n11⟩
   ·rintro i σ' H' _ ⟨_,_,_,k',_⟩
    exact cz.of (k' _ _ arT)
   ·rintro i y σ' H' hy ⟨⟨o,rfl⟩,hi,tt,k',A',se,eA,M',bd,fr'⟩
    have hi':i<us.length:=(List.getElem?_eq_some_iff.mp hy).1
    obtain⟨x,hx,rxx⟩:=YC (aAY.aX tt (bL cC.flat _)) hy
    obtain⟨b,rfl,hxa⟩:=ag6 rxx
    have htk:xs.take (i+1)=xs.take i++[x]:=by rw[List.take_add_one,hx];rfl
    have hti:(xs.take i).length<=1500:=by rw[List.length_take];lia
    have I:=jx.run (n:=n) (xs:=xs.take i) (jx.start n nums)
    rw[hnum]at I
    refine⟨_,rfl,_,rfl,A',n,m,_,se,b,x,_,(by rw[eA];rfl),M',hxa,I,bd,hti,fun v A2 H2 M2 f2 v2 r2=>?_⟩
    have k2:∀b o,H10 b=some o->H2 b=some o:=fun b u e=>f2.kp _ _ (k' b u e) fun z hz e2=>by rw[e2,fr' z hz]at e;cases e
    have fr2:∀z:Mb,z.ok n m->H10 (A2 z)=none:=fun z hz=>by
     rcases v2 z hz with e | ⟨_,e⟩
     ·rw[e];exact fr' z hz
     ·cases q:H10 (A2 z)with
      | none=>rfl
      | some u=>rw[k' _ _ q]at e;cases e
    have bd2:=bd.step (n:=n) (m:=m) x
    refine⟨⟨_,rfl⟩,by lia,fun b xs e=>f2.tups M' _ _ (tt _ _ e),k2,A2,se++(Nm n m (S0 nums) (xs.take i)).lC n x,(v2.bA).trans eA,?_,?_,fr2⟩
    ·rw[htk,QX];exact M2
    ·rw[htk,QX,List.length_append];exact bd2
   ·rintro σ' H' ⟨⟨o,rfl⟩,_,tt,k',A',se,eA,M',bd,fr'⟩
    rw[hul,List.take_length]at M' bd
    rw[hnum]at ayb
    obtain⟨vs,e1,e2⟩:=M'.row
    have z3:=acy (Nm n m (S0 nums) xs).row
    have z4:=bd.row
    rw[<-eA]
    refine⟨_,rfl,zd rfl (fu M'.bA ajS) ⟨.ref r,.ref (A' .row),.l ((Nm n m (S0 nums) xs).row.map RE.d),rfl,?_,?_,?_,fun H12 _=>q H12⟩⟩
    ·simp only[Rep];exact⟨r,_,rfl,k' _ _ aAX,ayb.aX (bc fun b o e=>k' b o e) (bL RE.flat _)⟩
    ·simp only[Rep];exact⟨A' .row,_,rfl,e1,e2⟩
    ·simp only[D.size];lia
end
end gn
namespace H1
open PySem PySem.W PyProof.Rows
abbrev pw:=PySem.Challenge.pw_copydesks_k02_whole_one_row
abbrev rw_:=PySem.Challenge.rw_copydesks_k02_whole_one_row
theorem said:OpenLaw.wellSaid rw_=true:=(congrFun Fast.te9446332074065402090 rw_).trans (by kernel_rfl)
def q:Program:=view pw [0,2,3,4,5,6,7,9,10,11,12,13,14,15,16,18,19,20,21,23,24,26,27,28,30,31,32,34,35,36,37,38,39,40,41,42,43,44,45,46,47,48,49,50,51]
theorem dkh:(defOf q "law").isSome=true:=by kernel_rfl
def dk:=((defOf q "law").get dkh).1
def d:DefRec:={dk with name:="law"}
theorem hdef:defOf q "law"=some (d,[]):=by kernel_rfl
theorem hp:pw.theDef "law"=some (d.params,d.body,d.scope):=by kernel_rfl
theorem hk:kwWritten? d.params.kwonlyargs d.params.kw_defaults=some []:=by kernel_rfl
theorem hdf:d.params.defaults=[]:=by kernel_rfl
theorem ok:(chainsOk q && opensWell pw && (frees rw_.row.toRowW && rw_.row.toRowW.within.isEmpty))=true:=by kernel_rfl
theorem op1:opening pw=plainProg pw.main.scope.names:=by kernel_rfl
theorem op2:∀s,fenceModules? pw s=some s:=fun s=>by kernel_rfl
abbrev Xt(s:Shared):Bool:=xlAt q [] s && recOk [] s
local macro_rules | `(tactic| o_head ($_ $K $A $_)) => `(tactic| ((exact False.elim (by assumption)); (exact $K); exact $A))
noncomputable def K0:PSigma fun _:Params->Frag=>PSigma fun _:List Addr=>False->rw_.row.Holds:=by
 refine⟨?K,?A,?h⟩
 rotate_left 2
 intro hF
 k_head
noncomputable abbrev KA:List Addr:=K0.2.1
theorem KAe:∀P,KA=(K0.heap_1 P).map (·.1):=fun _=>by kernel_rfl
theorem g0:∀w:World,(fun os=>(Fast.tw12555587260221468252 Fast.tw14364793385576792824 pw (w.withFollow "special-get-raises" false) 11 (some (.ref 6)) 8734 ⟨T0 (w.withFollow "special-get-raises" false).params,11,{},#[],boot_drawn,boot_toks,os⟩ (topStub pw)).map fun s=>Fast.tw15217941149495966222 pw q ["RANKS"] Xt (absHeap (T0 (w.withFollow "special-get-raises" false).params) 11 {}) s.abs)=fun _=>some (true,openGood q ["RANKS"]):=fun w=>by kernel_rfl
theorem f0:∀w:World,(fun os=>(Fast.tw12555587260221468252 Fast.tw14364793385576792824 pw (w.withFollow "special-get-raises" false) 11 (some (.ref 6)) 8734 ⟨T0 (w.withFollow "special-get-raises" false).params,11,{},#[],boot_drawn,boot_toks,os⟩ (topStub pw)).map fun s=>List.map s.abs.heap.get? KA)=fun _=>some (List.map (fun p=>some p.2) (K0.heap_1 (w.withFollow "special-get-raises" false).params)):=fun w=>by kernel_rfl
theorem g1:∀w:World,(fun os=>(Fast.tw12555587260221468252 Fast.tw14364793385576792824 pw (w.withFollow "special-get-raises" true) 11 (some (.ref 6)) 8734 ⟨T0 (w.withFollow "special-get-raises" true).params,11,{},#[],boot_drawn,boot_toks,os⟩ (topStub pw)).map fun s=>Fast.tw15217941149495966222 pw q ["RANKS"] Xt (absHeap (T0 (w.withFollow "special-get-raises" true).params) 11 {}) s.abs)=fun _=>some (true,openGood q ["RANKS"]):=fun w=>by kernel_rfl
theorem f1:∀w:World,(fun os=>(Fast.tw12555587260221468252 Fast.tw14364793385576792824 pw (w.withFollow "special-get-raises" true) 11 (some (.ref 6)) 8734 ⟨T0 (w.withFollow "special-get-raises" true).params,11,{},#[],boot_drawn,boot_toks,os⟩ (topStub pw)).map fun s=>List.map s.abs.heap.get? KA)=fun _=>some (List.map (fun p=>some p.2) (K0.heap_1 (w.withFollow "special-get-raises" true).params)):=fun w=>by kernel_rfl
theorem hl:LeftO pw q ["RANKS"] Xt (fun s=>List.map s.heap.get? KA) (fun w=>List.map (fun p=>some p.2) (K0.heap_1 w.params)) 8734 true :=
 avI "special-get-raises" (T₀:=T0) (n₀:=11) (life:={}) (gs₀ := #[]) (d₀:=boot_drawn) (k₀:=boot_toks) (ann:=some (.ref 6)) (M:=8734) (opens op1 (by kernel_rfl) op2) sizes (fun w=>both (by rw[Fast.te12555587260221468252,Fast.te14364793385576792824];rw[Fast.te15217941149495966222];exact g0 w) (Yf:=fun s=>List.map s.heap.get? KA) (by rw[Fast.te12555587260221468252,Fast.te14364793385576792824];exact f0 w)) (fun w=>both (by rw[Fast.te12555587260221468252,Fast.te14364793385576792824];rw[Fast.te15217941149495966222];exact g1 w) (Yf:=fun s=>List.map s.heap.get? KA) (by rw[Fast.te12555587260221468252,Fast.te14364793385576792824];exact f1 w)) (by kernel_rfl)
end H1
namespace gn
open PySem L2
abbrev FO(n q:Str)(st:Stmt)(kV dc pm:Value)(an:Option Addr)(cd ct:Value):FuncData:=PySem.W.fnOf n q (LQ st) (zN st) (aP st) .none kV dc pm an cd ct
section
open PySem.W
theorem all_mk{l:OpenLaw}{w:World}{K:Frag}{h:Heap}{mg:Str->Option Value}{fa:Addr}(X:K.In h)(G:h.Ns mainGlobals mg)(hfa:mg "law"=some (.ref fa))
{bu:Addr} {bj:Addr} {bf:Addr} {aN:Addr} {aV:Addr} {aJ:Addr} {bK:Addr} {aD:Addr} {ie:Addr} {bz:Addr} {Aa:Addr} {an4 an5:Option Addr} {an6:Array (Option Value)} {an7 an8 an9 aoa ahc aob:Value} {iw:Addr} {aaU aaV:Option Addr} {aaW:Array (Option Value)} {aaX aaY aaZ aa0 Jb aa1:Value} {fD:Addr} {QZ Q0:Option Addr} {Q3:Array (Option Value)} {Q4 Q5 Q6 Q7 za Q8:Value} {gF:Addr} {YF YG:Option Addr} {YH:Array (Option Value)} {YJ YK YL YM Gp YQ:Value} {gG:Addr} {YS YT:Option Addr} {YW:Array (Option Value)} {YX YZ Y0 Y4 Gq Y5:Value} {gH:Addr} {Y6 Y7:Option Addr} {Y8:Array (Option Value)} {Y9 Za Zb Zc Gr Zd:Value} {jf:Addr} {adL adM:Option Addr} {adN:Array (Option Value)} {adO adP adQ adR Np adS:Value} {fW:Addr} {Uy Uz:Option Addr} {UG:Array (Option Value)} {UJ UT UW U0 Ck U3:Value} {iy:Addr} {adT adU:Option Addr} {adV:Array (Option Value)} {adW adX adY adZ Nq ad0:Value} {dY:Addr} {Q9 Ra:Option Addr} {Rb:Array (Option Value)} {Rc Rf Rg Rh zb Ri:Value} {gA:Addr} {aa2 aa3:Option Addr} {aa4:Array (Option Value)} {aa5 aa6 aa7 aa8 Jc aa9:Value} {iz:Addr} {ad1 ad2:Option Addr} {ad3:Array (Option Value)} {ad4 ad5 ad6 ad7 Nr ad8:Value} {iB:Addr} {ad9 aea:Option Addr} {aeb:Array (Option Value)} {aec aed aee aef Nt aeg:Value} {iC:Addr} {aeh aei:Option Addr} {aej:Array (Option Value)} {aek ael aem aen Nu aeo:Value} {fL:Addr} {Ze Zf:Option Addr} {Zg:Array (Option Value)} {Zh Zi Zj Zk Gs Zm:Value} {eQ:Addr} {U4 U5:Option Addr} {U6:Array (Option Value)} {U7 U8 U9 Va Cm Vb:Value} {dG:Addr} {Nv Nx:Option Addr} {Ny:Array (Option Value)} {Nz NB NK NP wD NQ:Value} {eV:Addr} {Vc Vd:Option Addr} {Ve:Array (Option Value)} {Vf Vg Vh Vi Cp Vj:Value} {cH:Addr} {Ay Az:Option Addr} {Ba:Array (Option Value)} {Bb Bc Be Bf ou Bg:Value} {iD:Addr} {aep aeq:Option Addr} {aer:Array (Option Value)} {aes aet aeu aev NT aew:Value} {dH:Addr} {NZ N5:Option Addr} {N6:Array (Option Value)} {N7 N8 Oa Ob wF Od:Value} {cO:Addr} {Dr Ds:Option Addr} {Dt:Array (Option Value)} {Du Dv Dw Dy ph Dz:Value} {cA:Addr} {xU xV:Option Addr} {xW:Array (Option Value)} {xX xY xZ yc lF yd:Value} {cI:Addr} {Bh Bj:Option Addr} {Bk:Array (Option Value)} {Bl Bm Bo Bp oA Bq:Value} {du:Addr} {J9 Ka:Option Addr} {Kc:Array (Option Value)} {Kd Ke Kf Kg u0 Kh:Value} {bV:Addr} {tD tE:Option Addr} {tG:Array (Option Value)} {tH tK tL tM jL tO:Value} {dI:Addr} {Oe Og:Option Addr} {Oh:Array (Option Value)} {Oi Oj Ol Om wG Oo:Value} {cJ:Addr} {Br Bs:Option Addr} {Bu:Array (Option Value)} {Bv Bw Bx By oE BJ:Value} {cP:Addr} {DG DK:Option Addr} {DN:Array (Option Value)} {DP DQ DR DW pq DX:Value} {iG:Addr} {aex aey:Option Addr} {aez:Array (Option Value)} {aeA aeB aeC aeD Oq aeE:Value} {iH:Addr} {aeF aeG:Option Addr} {aeH:Array (Option Value)} {aeI aeJ aeK aeL Ot aeM:Value} {iI:Addr} {aeN aeO:Option Addr} {aeP:Array (Option Value)} {aeQ aeR aeS aeT Ou aeU:Value} {eX:Addr} {Vk Vl:Option Addr} {Vm:Array (Option Value)} {Vn Vo Vp Vq Cq Vr:Value} {dw:Addr} {Kl Km:Option Addr} {Ko:Array (Option Value)} {Kq Kr Ks Ku u6 Kv:Value} {dB:Addr} {Kw Ky:Option Addr} {Kz:Array (Option Value)} {KC KD KH KJ u9 KN:Value} {eY:Addr} {Vs Vt:Option Addr} {Vu:Array (Option Value)} {Vv Vw Vx Vy Cr Vz:Value} {fM:Addr} {Zn Zo:Option Addr} {Zq:Array (Option Value)} {Zr Zt Zu Zv Gu Zw:Value} {eZ:Addr} {VB VD:Option Addr} {VF:Array (Option Value)} {VG VH VJ VL Cu VM:Value} {dZ:Addr} {Rj Rk:Option Addr} {Rm:Array (Option Value)} {Rn Ro Rp Rq zc Rr:Value} {dC:Addr} {KQ KR:Option Addr} {KY:Array (Option Value)} {KZ K7 K8 K9 vd La:Value} {cR:Addr} {Gv Gw:Option Addr} {Gx:Array (Option Value)} {Gy Gz GC GD qM GF:Value} {dJ:Addr} {Ov Ow:Option Addr} {Ox:Array (Option Value)} {Oz OD OJ O1 wH O2:Value} {dN:Addr} {Lb Ld:Option Addr} {Le:Array (Option Value)} {Lf Lg Lh Li vf Lj:Value} {eE:Addr} {O3 O4:Option Addr} {O5:Array (Option Value)} {O6 O7 O8 O9 wI Pa:Value} {cY:Addr} {DY Ea:Option Addr} {Eb:Array (Option Value)} {Ec Ed Ef Eg pA Eh:Value} {jg:Addr} {aeV aeW:Option Addr} {aeX:Array (Option Value)} {aeY aeZ ae0 ae1 Pb ae2:Value} {iJ:Addr} {aba abb:Option Addr} {abd:Array (Option Value)} {abe abf abg abh Jd abi:Value} {qz:Addr} {alm aln:Option Addr} {alo:Array (Option Value)} {alp alq alr als acz alu:Value} {mJ:Addr} {ai7 ai8:Option Addr} {ai9:Array (Option Value)} {aja ajb ajc ajd Zx aje:Value} {FN:Addr} {aqI aqJ:Option Addr} {aqK:Array (Option Value)} {aqL aqM aqN aqO akr aqP:Value} {qC:Addr} {alv alw:Option Addr} {alx:Array (Option Value)} {aly alz alA alB acA alC:Value} {jh:Addr} {ae3 ae4:Option Addr} {ae5:Array (Option Value)} {ae6 ae7 ae8 ae9 Pg afa:Value} {vW:Addr} {aoc aod:Option Addr} {aoe:Array (Option Value)} {aof aog aoh aoi ahd aoj:Value} {iK:Addr} {abj abk:Option Addr} {abl:Array (Option Value)} {abm abn abo abp Je abq:Value} {mK:Addr} {ajf ajg:Option Addr} {ajh:Array (Option Value)} {aji ajj ajk ajl Zy ajm:Value} {ji:Addr} {afb afc:Option Addr} {afd:Array (Option Value)} {afe afg afh afi Ph afj:Value} {j8:Addr} {ahe ahf:Option Addr} {ahg:Array (Option Value)} {ahh ahi ahj ahk Su ahl:Value} {gJ:Addr} {Zz ZC:Option Addr} {ZD:Array (Option Value)} {ZF ZG ZJ ZK GJ ZL:Value} {gK:Addr} {ZM ZP:Option Addr} {ZQ:Array (Option Value)} {ZR ZS ZV ZW GK ZX:Value} {fX:Addr} {VN VP:Option Addr} {VR:Array (Option Value)} {V0 V1 V2 V3 Cv V4:Value} {iM:Addr} {abr abt:Option Addr} {abu:Array (Option Value)} {abv abw abx aby Jf abz:Value} {fY:Addr} {V5 V6:Option Addr} {V7:Array (Option Value)} {V8 V9 Wa Wb Cw Wc:Value} {fG:Addr} {Ru Rv:Option Addr} {Rx:Array (Option Value)} {Ry Rz RB RC zf RD:Value} {iQ:Addr} {abA abB:Option Addr} {abC:Array (Option Value)} {abD abE abF abG Jg abH:Value} {fZ:Addr} {Wd We:Option Addr} {Wf:Array (Option Value)} {Wg Wh Wi Wj Cy Wk:Value} {Xw:Addr} {au5 au6:Option Addr} {au7:Array (Option Value)} {au8 au9 ava avb aok avc:Value} {aol:Tok} {aom:Tok} {aks:Tok} {sV:Addr} {ahm:Array DictEntry} {aqQ:Nat} {aon:Tok} {aoo:Tok} {aop:Tok} {aoq:Tok} {akt:Tok}
 (afk:nsIn K mainGlobals "CopyError"=some (some (.ref bu)))
 (alD:nsIn K mainGlobals "NoDesk"=some (some (.ref bj)))
 (alE:nsIn K mainGlobals "NoPage"=some (some (.ref bf)))
 (ajn:nsIn K mainGlobals "Waiting"=some (some (.ref aN)))
 (alF:nsIn K mainGlobals "NoCopy"=some (some (.ref aV)))
 (ahn:nsIn K mainGlobals "NoLetter"=some (some (.ref aJ)))
 (aqR:nsIn K mainGlobals "Desk"=some (some (.ref bK)))
 (afl:nsIn K mainGlobals "PageLoans"=some (some (.ref aD)))
 (aqS:nsIn K mainGlobals "Hall"=some (some (.ref ie)))
 (aqT:nsIn K mainGlobals "Town"=some (some (.ref bz)))
 (afm:excIn K bu [.type "ValueError",.type "Exception",.type "BaseException",.type "object"] "ValueError.__new__"=true)
 (afn:L2.mroIn K bu=some (.ref bu::[.type "ValueError",.type "Exception",.type "BaseException",.type "object"]))
 (alG:excIn K bj [.type "ValueError",.type "Exception",.type "BaseException",.type "object"] "ValueError.__new__"=true)
 (alH:L2.mroIn K bj=some (.ref bj::[.ref bu,.type "ValueError",.type "Exception",.type "BaseException",.type "object"]))
 (alI:excIn K bf [.type "ValueError",.type "Exception",.type "BaseException",.type "object"] "ValueError.__new__"=true)
 (alJ:L2.mroIn K bf=some (.ref bf::[.ref bu,.type "ValueError",.type "Exception",.type "BaseException",.type "object"]))
 (ajo:excIn K aN [.type "ValueError",.type "Exception",.type "BaseException",.type "object"] "ValueError.__new__"=true)
 (ajp:L2.mroIn K aN=some (.ref aN::[.ref bu,.type "ValueError",.type "Exception",.type "BaseException",.type "object"]))
 (alK:excIn K aV [.type "ValueError",.type "Exception",.type "BaseException",.type "object"] "ValueError.__new__"=true)
 (alL:L2.mroIn K aV=some (.ref aV::[.ref bu,.type "ValueError",.type "Exception",.type "BaseException",.type "object"]))
 (aho:excIn K aJ [.type "ValueError",.type "Exception",.type "BaseException",.type "object"] "ValueError.__new__"=true)
 (ahp:L2.mroIn K aJ=some (.ref aJ::[.ref bu,.type "ValueError",.type "Exception",.type "BaseException",.type "object"]))
 (ahq:findIn K (.ref bj) "__class__"=some (some (.builtin "object.__class__")))
 (ahr:findIn K (.ref bj) "__getattribute__"=some (some (.builtin "BaseException.__getattribute__")))
 (ahs:findIn K (.ref bj) "__getattr__"=some none)
 (rP:kitOne K (.ref bj) (.ref bu)=some true)
 (fc:bj≠bu)
 (yE:kitOne K (.ref bj) (.ref bj)=some true)
 (yF:kitOne K (.ref bj) (.ref bf)=some false)
 (pX:bj≠bf)
 (vX:kitOne K (.ref bj) (.ref aN)=some false)
 (nP:bj≠aN)
 (yG:kitOne K (.ref bj) (.ref aV)=some false)
 (pY:bj≠aV)
 (uK:kitOne K (.ref bj) (.ref aJ)=some false)
 (lY:bj≠aJ)
 (qD:kitOne K (.ref bj) (.type "ValueError")=some true)
 (aht:findIn K (.ref bf) "__class__"=some (some (.builtin "object.__class__")))
 (ahu:findIn K (.ref bf) "__getattribute__"=some (some (.builtin "BaseException.__getattribute__")))
 (ahv:findIn K (.ref bf) "__getattr__"=some none)
 (rQ:kitOne K (.ref bf) (.ref bu)=some true)
 (gj:bf≠bu)
 (yH:kitOne K (.ref bf) (.ref bj)=some false)
 (yI:bf≠bj)
 (yJ:kitOne K (.ref bf) (.ref bf)=some true)
 (vY:kitOne K (.ref bf) (.ref aN)=some false)
 (nQ:bf≠aN)
 (yK:kitOne K (.ref bf) (.ref aV)=some false)
 (pZ:bf≠aV)
 (uL:kitOne K (.ref bf) (.ref aJ)=some false)
 (lZ:bf≠aJ)
 (qF:kitOne K (.ref bf) (.type "ValueError")=some true)
 (afo:findIn K (.ref aN) "__class__"=some (some (.builtin "object.__class__")))
 (afp:findIn K (.ref aN) "__getattribute__"=some (some (.builtin "BaseException.__getattribute__")))
 (afq:findIn K (.ref aN) "__getattr__"=some none)
 (qG:kitOne K (.ref aN) (.ref bu)=some true)
 (iR:aN≠bu)
 (vZ:kitOne K (.ref aN) (.ref bj)=some false)
 (v5:aN≠bj)
 (v7:kitOne K (.ref aN) (.ref bf)=some false)
 (v8:aN≠bf)
 (uM:kitOne K (.ref aN) (.ref aN)=some true)
 (v9:kitOne K (.ref aN) (.ref aV)=some false)
 (nR:aN≠aV)
 (rR:kitOne K (.ref aN) (.ref aJ)=some false)
 (lr:aN≠aJ)
 (oW:kitOne K (.ref aN) (.type "ValueError")=some true)
 (ahw:findIn K (.ref aV) "__class__"=some (some (.builtin "object.__class__")))
 (ahx:findIn K (.ref aV) "__getattribute__"=some (some (.builtin "BaseException.__getattribute__")))
 (ahy:findIn K (.ref aV) "__getattr__"=some none)
 (rT:kitOne K (.ref aV) (.ref bu)=some true)
 (lu:aV≠bu)
 (yL:kitOne K (.ref aV) (.ref bj)=some false)
 (yM:aV≠bj)
 (yN:kitOne K (.ref aV) (.ref bf)=some false)
 (yO:aV≠bf)
 (wg:kitOne K (.ref aV) (.ref aN)=some false)
 (wj:aV≠aN)
 (yP:kitOne K (.ref aV) (.ref aV)=some true)
 (uN:kitOne K (.ref aV) (.ref aJ)=some false)
 (mj:aV≠aJ)
 (qH:kitOne K (.ref aV) (.type "ValueError")=some true)
 (abI:findIn K (.ref aJ) "__class__"=some (some (.builtin "object.__class__")))
 (abJ:findIn K (.ref aJ) "__getattribute__"=some (some (.builtin "BaseException.__getattribute__")))
 (abK:findIn K (.ref aJ) "__getattr__"=some none)
 (oX:kitOne K (.ref aJ) (.ref bu)=some true)
 (oY:aJ≠bu)
 (uO:kitOne K (.ref aJ) (.ref bj)=some false)
 (uP:aJ≠bj)
 (uQ:kitOne K (.ref aJ) (.ref bf)=some false)
 (uR:aJ≠bf)
 (rW:kitOne K (.ref aJ) (.ref aN)=some false)
 (rY:aJ≠aN)
 (uT:kitOne K (.ref aJ) (.ref aV)=some false)
 (uU:aJ≠aV)
 (qI:kitOne K (.ref aJ) (.ref aJ)=some true)
 (nT:kitOne K (.ref aJ) (.type "ValueError")=some true)
 (aqU:plainGet K bK Str.empty=true)
 (aqV:hasDictIn K bK=true)
 (aqW:plainOver K bK=true)
 (aqX:findIn K (.ref bK) "__setattr__"=some (some (.builtin "object.__setattr__")))
 (ade:makesIn K bK=true)
 (aqY:keepIn K (.ref bK)=true)
 (dU:findIn K (.ref bK) "copies"=some none)
 (jo:findIn K (.ref bK) "wish"=some none)
 (afr:plainGet K aD Str.empty=true)
 (afs:hasDictIn K aD=true)
 (aft:plainOver K aD=true)
 (afu:findIn K (.ref aD) "__setattr__"=some (some (.builtin "object.__setattr__")))
 (Ao:makesIn K aD=true)
 (afv:keepIn K (.ref aD)=true)
 (gb:findIn K (.ref aD) "page"=some none)
 (fj:findIn K (.ref aD) "number"=some none)
 (b8:findIn K (.ref aD) "writer"=some none)
 (cZ:findIn K (.ref aD) "readers"=some none)
 (di:findIn K (.ref aD) "asked"=some none)
 (eF:findIn K (.ref aD) "awaited"=some none)
 (aqZ:plainGet K ie Str.empty=true)
 (aq0:hasDictIn K ie=true)
 (aq1:plainOver K ie=true)
 (aq2:findIn K (.ref ie) "__setattr__"=some (some (.builtin "object.__setattr__")))
 (adf:makesIn K ie=true)
 (aq3:keepIn K (.ref ie)=true)
 (qm:findIn K (.ref ie) "pages"=some none)
 (aq4:plainGet K bz Str.empty=true)
 (aq5:hasDictIn K bz=true)
 (aq6:plainOver K bz=true)
 (aq7:findIn K (.ref bz) "__setattr__"=some (some (.builtin "object.__setattr__")))
 (adg:makesIn K bz=true)
 (aq8:keepIn K (.ref bz)=true)
 (jq:findIn K (.ref bz) "page_count"=some none)
 (sW:findIn K (.ref bz) "hall"=some none)
 (gM:findIn K (.ref bz) "desks"=some none)
 (gO:findIn K (.ref bz) "roads_up"=some none)
 (gU:findIn K (.ref bz) "roads_down"=some none)
 (qJ:findIn K (.ref bz) "row"=some none)
 (aq9:nsIn K mainGlobals "_wall"=some (some (.ref Aa)))
 (aku:K.lookup Aa=some ⟨an7,an4,.func (FO "_wall" "_wall" aj3 an8 an9 aoa an5 ahc aob),an6⟩)
 (akv:codeIn K ahc "_wall"=true)
 (akx:keepIn K (.ref Aa)=true)
 (afw:nsIn K mainGlobals "ask_letter"=some (some (.ref iw)))
 (Pj:K.lookup iw=some ⟨aaX,aaU,.func (FO "ask_letter" "ask_letter" zU aaY aaZ aa0 aaV Jb aa1),aaW⟩)
 (Pk:codeIn K Jb "ask_letter"=true)
 (Pn:keepIn K (.ref iw)=true)
 (Wl:nsIn K mainGlobals "answer_letter"=some (some (.ref fD)))
 (Cz:K.lookup fD=some ⟨Q4,QZ,.func (FO "answer_letter" "answer_letter" qX Q5 Q6 Q7 Q0 za Q8),Q3⟩)
 (CG:codeIn K za "answer_letter"=true)
 (CJ:keepIn K (.ref fD)=true)
 (abL:nsIn K mainGlobals "gave_letter"=some (some (.ref gF)))
 (Jh:K.lookup gF=some ⟨YJ,YF,.func (FO "gave_letter" "gave_letter" wZ YK YL YM YG Gp YQ),YH⟩)
 (Ji:codeIn K Gp "gave_letter"=true)
 (Jj:keepIn K (.ref gF)=true)
 (abM:nsIn K mainGlobals "lend_letter"=some (some (.ref gG)))
 (Jk:K.lookup gG=some ⟨YX,YS,.func (FO "lend_letter" "lend_letter" w6 YZ Y0 Y4 YT Gq Y5),YW⟩)
 (Jl:codeIn K Gq "lend_letter"=true)
 (Jm:keepIn K (.ref gG)=true)
 (abN:nsIn K mainGlobals "back_letter"=some (some (.ref gH)))
 (Jo:K.lookup gH=some ⟨Y9,Y6,.func (FO "back_letter" "back_letter" xf Za Zb Zc Y7 Gr Zd),Y8⟩)
 (Jp:codeIn K Gr "back_letter"=true)
 (Jq:keepIn K (.ref gH)=true)
 (ahz:nsIn K mainGlobals "is_enough"=some (some (.ref jf)))
 (Sv:K.lookup jf=some ⟨adO,adL,.func (FO "is_enough" "is_enough" Ff adP adQ adR adM Np adS),adN⟩)
 (Sw:codeIn K Np "is_enough"=true)
 (Sx:keepIn K (.ref jf)=true)
 (ZZ:nsIn K mainGlobals "right_needed"=some (some (.ref fW)))
 (GP:K.lookup fW=some ⟨UJ,Uy,.func (FO "right_needed" "right_needed" uh UT UW U0 Uz Ck U3),UG⟩)
 (GQ:codeIn K Ck "right_needed"=true)
 (GR:keepIn K (.ref fW)=true)
 (ahA:findIn K (.ref bK) "__init__"=some (some (.ref iy)))
 (ahB:isFn K (.ref iy)=true)
 (Sy:K.lookup iy=some ⟨adW,adT,.func (FO "__init__" "Desk.__init__" Fg adX adY adZ adU Nq ad0),adV⟩)
 (SJ:codeIn K Nq "Desk.__init__"=true)
 (SM:keepIn K (.ref iy)=true)
 (Wm:findIn K (.ref bK) "right_of"=some (some (.ref dY)))
 (Wn:isFn K (.ref dY)=true)
 (CK:K.lookup dY=some ⟨Rc,Q9,.func (FO "right_of" "Desk.right_of" qY Rf Rg Rh Ra zb Ri),Rb⟩)
 (CN:codeIn K zb "Desk.right_of"=true)
 (rM:keepIn K (.ref dY)=true)
 (afx:findIn K (.ref bK) "waits"=some (some (.ref gA)))
 (afy:isFn K (.ref gA)=true)
 (Pq:K.lookup gA=some ⟨aa5,aa2,.func (FO "waits" "Desk.waits" zV aa6 aa7 aa8 aa3 Jc aa9),aa4⟩)
 (Pr:codeIn K Jc "Desk.waits"=true)
 (BK:keepIn K (.ref gA)=true)
 (ahC:findIn K (.ref bK) "want"=some (some (.ref iz)))
 (ahD:isFn K (.ref iz)=true)
 (SN:K.lookup iz=some ⟨ad4,ad1,.func (FO "want" "Desk.want" Fi ad5 ad6 ad7 ad2 Nr ad8),ad3⟩)
 (SQ:codeIn K Nr "Desk.want"=true)
 (GX:keepIn K (.ref iz)=true)
 (ahE:findIn K (.ref bK) "take"=some (some (.ref iB)))
 (ahF:isFn K (.ref iB)=true)
 (SX:K.lookup iB=some ⟨aec,ad9,.func (FO "take" "Desk.take" Fj aed aee aef aea Nt aeg),aeb⟩)
 (S5:codeIn K Nt "Desk.take"=true)
 (GZ:keepIn K (.ref iB)=true)
 (ahG:findIn K (.ref bK) "rest"=some (some (.ref iC)))
 (ahH:isFn K (.ref iC)=true)
 (S6:K.lookup iC=some ⟨aek,aeh,.func (FO "rest" "Desk.rest" Fl ael aem aen aei Nu aeo),aej⟩)
 (S7:codeIn K Nu "Desk.rest"=true)
 (G8:keepIn K (.ref iC)=true)
 (abO:findIn K (.ref bK) "may_do"=some (some (.ref fL)))
 (abP:isFn K (.ref fL)=true)
 (Jr:K.lookup fL=some ⟨Zh,Ze,.func (FO "may_do" "Desk.may_do" xg Zi Zj Zk Zf Gs Zm),Zg⟩)
 (Js:codeIn K Gs "Desk.may_do"=true)
 (ye:keepIn K (.ref fL)=true)
 (Z0:findIn K (.ref bK) "do_wish"=some (some (.ref eQ)))
 (aaa:isFn K (.ref eQ)=true)
 (G9:K.lookup eQ=some ⟨U7,U4,.func (FO "do_wish" "Desk.do_wish" um U8 U9 Va U5 Cm Vb),U6⟩)
 (Ha:codeIn K Cm "Desk.do_wish"=true)
 (vg:keepIn K (.ref eQ)=true)
 (RG:findIn K (.ref bK) "take_loan"=some (some (.ref dG)))
 (RJ:isFn K (.ref dG)=true)
 (zg:K.lookup dG=some ⟨Nz,Nv,.func (FO "take_loan" "Desk.take_loan" pM NB NK NP Nx wD NQ),Ny⟩)
 (zj:codeIn K wD "Desk.take_loan"=true)
 (p8:keepIn K (.ref dG)=true)
 (aab:findIn K (.ref bK) "go_down"=some (some (.ref eV)))
 (aac:isFn K (.ref eV)=true)
 (Hc:K.lookup eV=some ⟨Vf,Vc,.func (FO "go_down" "Desk.go_down" uo Vg Vh Vi Vd Cp Vj),Ve⟩)
 (Hd:codeIn K Cp "Desk.go_down"=true)
 (vh:keepIn K (.ref eV)=true)
 (Ei:findIn K (.ref bK) "number_to_tell"=some (some (.ref cH)))
 (Ej:isFn K (.ref cH)=true)
 (pB:K.lookup cH=some ⟨Bb,Ay,.func (FO "number_to_tell" "Desk.number_to_tell" jz Bc Be Bf Az ou Bg),Ba⟩)
 (pC:codeIn K ou "Desk.number_to_tell"=true)
 (jE:keepIn K (.ref cH)=true)
 (ahI:findIn K (.ref bK) "hold"=some (some (.ref iD)))
 (ahJ:isFn K (.ref iD)=true)
 (S8:K.lookup iD=some ⟨aes,aep,.func (FO "hold" "Desk.hold" Fo aet aeu aev aeq NT aew),aer⟩)
 (S9:codeIn K NT "Desk.hold"=true)
 (Hf:keepIn K (.ref iD)=true)
 (RK:findIn K (.ref aD) "__init__"=some (some (.ref dH)))
 (RL:isFn K (.ref dH)=true)
 (zm:K.lookup dH=some ⟨N7,NZ,.func (FO "__init__" "PageLoans.__init__" pN N8 Oa Ob N5 wF Od),N6⟩)
 (zp:codeIn K wF "PageLoans.__init__"=true)
 (zq:keepIn K (.ref dH)=true)
 (Hg:findIn K (.ref aD) "take_ask"=some (some (.ref cO)))
 (Hh:isFn K (.ref cO)=true)
 (qN:K.lookup cO=some ⟨Du,Dr,.func (FO "take_ask" "PageLoans.take_ask" j0 Dv Dw Dy Ds ph Dz),Dt⟩)
 (qO:codeIn K ph "PageLoans.take_ask"=true)
 (j9:keepIn K (.ref cO)=true)
 (zr:findIn K (.ref aD) "take_answer"=some (some (.ref cA)))
 (zu:isFn K (.ref cA)=true)
 (mO:K.lookup cA=some ⟨xX,xU,.func (FO "take_answer" "PageLoans.take_answer" iZ xY xZ yc xV lF yd),xW⟩)
 (mQ:codeIn K lF "PageLoans.take_answer"=true)
 (je:keepIn K (.ref cA)=true)
 (Ek:findIn K (.ref aD) "take_gave"=some (some (.ref cI)))
 (El:isFn K (.ref cI)=true)
 (pD:K.lookup cI=some ⟨Bl,Bh,.func (FO "take_gave" "PageLoans.take_gave" jA Bm Bo Bp Bj oA Bq),Bk⟩)
 (pF:codeIn K oA "PageLoans.take_gave"=true)
 (jF:keepIn K (.ref cI)=true)
 (Pu:findIn K (.ref aD) "serve"=some (some (.ref du)))
 (Px:isFn K (.ref du)=true)
 (wJ:K.lookup du=some ⟨Kd,J9,.func (FO "serve" "PageLoans.serve" nj Ke Kf Kg Ka u0 Kh),Kc⟩)
 (wK:codeIn K u0 "PageLoans.serve"=true)
 (oF:keepIn K (.ref du)=true)
 (vm:findIn K (.ref aD) "bids_for_first"=some (some (.ref bV)))
 (vo:isFn K (.ref bV)=true)
 (kh:K.lookup bV=some ⟨tH,tD,.func (FO "bids_for_first" "PageLoans.bids_for_first" gP tK tL tM tE jL tO),tG⟩)
 (kj:codeIn K jL "PageLoans.bids_for_first"=true)
 (gW:keepIn K (.ref bV)=true)
 (RM:findIn K (.ref aD) "lend"=some (some (.ref dI)))
 (RN:isFn K (.ref dI)=true)
 (zx:K.lookup dI=some ⟨Oi,Oe,.func (FO "lend" "PageLoans.lend" pO Oj Ol Om Og wG Oo),Oh⟩)
 (zy:codeIn K wG "PageLoans.lend"=true)
 (qb:keepIn K (.ref dI)=true)
 (Em:findIn K (.ref aD) "let_write"=some (some (.ref cJ)))
 (En:isFn K (.ref cJ)=true)
 (pG:K.lookup cJ=some ⟨Bv,Br,.func (FO "let_write" "PageLoans.let_write" jB Bw Bx By Bs oE BJ),Bu⟩)
 (pH:codeIn K oE "PageLoans.let_write"=true)
 (jG:keepIn K (.ref cJ)=true)
 (Hi:findIn K (.ref aD) "let_read"=some (some (.ref cP)))
 (Hj:isFn K (.ref cP)=true)
 (qQ:K.lookup cP=some ⟨DP,DG,.func (FO "let_read" "PageLoans.let_read" j6 DQ DR DW DK pq DX),DN⟩)
 (qR:codeIn K pq "PageLoans.let_read"=true)
 (km:keepIn K (.ref cP)=true)
 (ahK:findIn K (.ref ie) "__init__"=some (some (.ref iG)))
 (ahL:isFn K (.ref iG)=true)
 (Tc:K.lookup iG=some ⟨aeA,aex,.func (FO "__init__" "Hall.__init__" Fp aeB aeC aeD aey Oq aeE),aez⟩)
 (Td:codeIn K Oq "Hall.__init__"=true)
 (Te:keepIn K (.ref iG)=true)
 (ahM:findIn K (.ref ie) "take"=some (some (.ref iH)))
 (ahN:isFn K (.ref iH)=true)
 (Tf:K.lookup iH=some ⟨aeI,aeF,.func (FO "take" "Hall.take" Fq aeJ aeK aeL aeG Ot aeM),aeH⟩)
 (Tg:codeIn K Ot "Hall.take"=true)
 (Hk:keepIn K (.ref iH)=true)
 (ahO:findIn K (.ref bz) "__init__"=some (some (.ref iI)))
 (ahP:isFn K (.ref iI)=true)
 (Th:K.lookup iI=some ⟨aeQ,aeN,.func (FO "__init__" "Town.__init__" Ft aeR aeS aeT aeO Ou aeU),aeP⟩)
 (Ti:codeIn K Ou "Town.__init__"=true)
 (Tj:keepIn K (.ref iI)=true)
 (aad:findIn K (.ref bz) "do_deed"=some (some (.ref eX)))
 (aae:isFn K (.ref eX)=true)
 (Hl:K.lookup eX=some ⟨Vn,Vk,.func (FO "do_deed" "Town.do_deed" uq Vo Vp Vq Vl Cq Vr),Vm⟩)
 (Hm:codeIn K Cq "Town.do_deed"=true)
 (vp:keepIn K (.ref eX)=true)
 (Py:findIn K (.ref bz) "check_desk"=some (some (.ref dw)))
 (Pz:isFn K (.ref dw)=true)
 (wL:K.lookup dw=some ⟨Kq,Kl,.func (FO "check_desk" "Town.check_desk" nu Kr Ks Ku Km u6 Kv),Ko⟩)
 (wM:codeIn K u6 "Town.check_desk"=true)
 (oG:keepIn K (.ref dw)=true)
 (PB:findIn K (.ref bz) "check_page"=some (some (.ref dB)))
 (PJ:isFn K (.ref dB)=true)
 (wN:K.lookup dB=some ⟨KC,Kw,.func (FO "check_page" "Town.check_page" nC KD KH KJ Ky u9 KN),Kz⟩)
 (wO:codeIn K u9 "Town.check_page"=true)
 (oH:keepIn K (.ref dB)=true)
 (aaf:findIn K (.ref bz) "look_at"=some (some (.ref eY)))
 (aag:isFn K (.ref eY)=true)
 (Hn:K.lookup eY=some ⟨Vv,Vs,.func (FO "look_at" "Town.look_at" ur Vw Vx Vy Vt Cr Vz),Vu⟩)
 (Ho:codeIn K Cr "Town.look_at"=true)
 (vq:keepIn K (.ref eY)=true)
 (abQ:findIn K (.ref bz) "put_on"=some (some (.ref fM)))
 (abR:isFn K (.ref fM)=true)
 (Jt:K.lookup fM=some ⟨Zr,Zn,.func (FO "put_on" "Town.put_on" xj Zt Zu Zv Zo Gu Zw),Zq⟩)
 (Ju:codeIn K Gu "Town.put_on"=true)
 (yf:keepIn K (.ref fM)=true)
 (aah:findIn K (.ref bz) "give_up"=some (some (.ref eZ)))
 (aai:isFn K (.ref eZ)=true)
 (Hq:K.lookup eZ=some ⟨VG,VB,.func (FO "give_up" "Town.give_up" ux VH VJ VL VD Cu VM),VF⟩)
 (Hr:codeIn K Cu "Town.give_up"=true)
 (vy:keepIn K (.ref eZ)=true)
 (Wo:findIn K (.ref bz) "bring_up"=some (some (.ref dZ)))
 (Wq:isFn K (.ref dZ)=true)
 (CQ:K.lookup dZ=some ⟨Rn,Rj,.func (FO "bring_up" "Town.bring_up" qZ Ro Rp Rq Rk zc Rr),Rm⟩)
 (CT:codeIn K zc "Town.bring_up"=true)
 (rN:keepIn K (.ref dZ)=true)
 (PK:findIn K (.ref bz) "bring_down"=some (some (.ref dC)))
 (PL:isFn K (.ref dC)=true)
 (wQ:K.lookup dC=some ⟨KZ,KQ,.func (FO "bring_down" "Town.bring_down" nD K7 K8 K9 KR vd La),KY⟩)
 (wR:codeIn K vd "Town.bring_down"=true)
 (oJ:keepIn K (.ref dC)=true)
 (Ih:findIn K (.ref bz) "first_letter"=some (some (.ref cR)))
 (Ii:isFn K (.ref cR)=true)
 (su:K.lookup cR=some ⟨Gy,Gv,.func (FO "first_letter" "Town.first_letter" lq Gz GC GD Gw qM GF),Gx⟩)
 (sE:codeIn K qM "Town.first_letter"=true)
 (lz:keepIn K (.ref cR)=true)
 (RP:findIn K (.ref bz) "carry_out"=some (some (.ref dJ)))
 (RQ:isFn K (.ref dJ)=true)
 (zz:K.lookup dJ=some ⟨Oz,Ov,.func (FO "carry_out" "Town.carry_out" pP OD OJ O1 Ow wH O2),Ox⟩)
 (zA:codeIn K wH "Town.carry_out"=true)
 (qg:keepIn K (.ref dJ)=true)
 (PN:findIn K (.ref bz) "all_rights"=some (some (.ref dN)))
 (PQ:isFn K (.ref dN)=true)
 (wU:K.lookup dN=some ⟨Lf,Lb,.func (FO "all_rights" "Town.all_rights" vQ Lg Lh Li Ld vf Lj),Le⟩)
 (wV:codeIn K vf "Town.all_rights"=true)
 (oK:keepIn K (.ref dN)=true)
 (RT:findIn K (.ref bz) "rights_of"=some (some (.ref eE)))
 (RV:isFn K (.ref eE)=true)
 (zB:K.lookup eE=some ⟨O6,O3,.func (FO "rights_of" "Town.rights_of" yx O7 O8 O9 O4 wI Pa),O5⟩)
 (zE:codeIn K wI "Town.rights_of"=true)
 (qi:keepIn K (.ref eE)=true)
 (Ht:findIn K (.ref bz) "waiting_desks"=some (some (.ref cY)))
 (Hu:isFn K (.ref cY)=true)
 (qT:K.lookup cY=some ⟨Ec,DY,.func (FO "waiting_desks" "Town.waiting_desks" qx Ed Ef Eg Ea pA Eh),Eb⟩)
 (qU:codeIn K pA "Town.waiting_desks"=true)
 (kE:keepIn K (.ref cY)=true)
 (ahQ:nsIn K mainGlobals "answer_of"=some (some (.ref jg)))
 (Tn:K.lookup jg=some ⟨aeY,aeV,.func (FO "answer_of" "answer_of" Fv aeZ ae0 ae1 aeW Pb ae2),aeX⟩)
 (Tp:codeIn K Pb "answer_of"=true)
 (Tq:keepIn K (.ref jg)=true)
 (afz:nsIn K mainGlobals "town_after"=some (some (.ref iJ)))
 (PX:K.lookup iJ=some ⟨abe,aba,.func (FO "town_after" "town_after" zW abf abg abh abb Jd abi),abd⟩)
 (P0:codeIn K Jd "town_after"=true)
 (Qa:keepIn K (.ref iJ)=true)
 (aor:nsIn K mainGlobals "row_of"=some (some (.ref qz)))
 (ahR:K.lookup qz=some ⟨alp,alm,.func (FO "row_of" "row_of" Xm alq alr als aln acz alu),alo⟩)
 (ahS:codeIn K acz "row_of"=true)
 (ahT:keepIn K (.ref qz)=true)
 (alM:nsIn K mainGlobals "_law_whole"=some (some (.ref mJ)))
 (acB:K.lookup mJ=some ⟨aja,ai7,.func (FO "_law_whole" "_law_whole" Qw ajb ajc ajd ai8 Zx aje),ai9⟩)
 (acC:codeIn K Zx "_law_whole"=true)
 (acD:keepIn K (.ref mJ)=true)
 (avd:nsIn K mainGlobals "_law_at"=some (some (.ref FN)))
 (aos:K.lookup FN=some ⟨aqL,aqI,.func (FO "_law_at" "_law_at" aiM aqM aqN aqO aqJ akr aqP),aqK⟩)
 (aot:codeIn K akr "_law_at"=true)
 (aou:keepIn K (.ref FN)=true)
 (aov:nsIn K mainGlobals "_law_same"=some (some (.ref qC)))
 (ahU:K.lookup qC=some ⟨aly,alv,.func (FO "_law_same" "_law_same" Xn alz alA alB alw acA alC),alx⟩)
 (ahV:codeIn K acA "_law_same"=true)
 (ahW:keepIn K (.ref qC)=true)
 (ahX:nsIn K mainGlobals "_law_town_of"=some (some (.ref jh)))
 (Tr:K.lookup jh=some ⟨ae6,ae3,.func (FO "_law_town_of" "_law_town_of" Fw ae7 ae8 ae9 ae4 Pg afa),ae5⟩)
 (Tt:codeIn K Pg "_law_town_of"=true)
 (Tu:keepIn K (.ref jh)=true)
 (ara:nsIn K mainGlobals "_law_bid"=some (some (.ref vW)))
 (aky:K.lookup vW=some ⟨aof,aoc,.func (FO "_law_bid" "_law_bid" ac2 aog aoh aoi aod ahd aoj),aoe⟩)
 (akz:codeIn K ahd "_law_bid"=true)
 (akA:keepIn K (.ref vW)=true)
 (afA:nsIn K mainGlobals "_law_lend_out"=some (some (.ref iK)))
 (Qc:K.lookup iK=some ⟨abm,abj,.func (FO "_law_lend_out" "_law_lend_out" zX abn abo abp abk Je abq),abl⟩)
 (Qd:codeIn K Je "_law_lend_out"=true)
 (Qe:keepIn K (.ref iK)=true)
 (alN:nsIn K mainGlobals "_law_serve"=some (some (.ref mK)))
 (acE:K.lookup mK=some ⟨aji,ajf,.func (FO "_law_serve" "_law_serve" Qx ajj ajk ajl ajg Zy ajm),ajh⟩)
 (acF:codeIn K Zy "_law_serve"=true)
 (acG:keepIn K (.ref mK)=true)
 (ahY:nsIn K mainGlobals "_law_came_up"=some (some (.ref ji)))
 (Tw:K.lookup ji=some ⟨afe,afb,.func (FO "_law_came_up" "_law_came_up" Fx afg afh afi afc Ph afj),afd⟩)
 (Tz:codeIn K Ph "_law_came_up"=true)
 (TJ:keepIn K (.ref ji)=true)
 (ajq:nsIn K mainGlobals "_law_enough"=some (some (.ref j8)))
 (aaj:K.lookup j8=some ⟨ahh,ahe,.func (FO "_law_enough" "_law_enough" JN ahi ahj ahk ahf Su ahl),ahg⟩)
 (aak:codeIn K Su "_law_enough"=true)
 (aal:keepIn K (.ref j8)=true)
 (abS:nsIn K mainGlobals "_law_fulfilled"=some (some (.ref gJ)))
 (Jv:K.lookup gJ=some ⟨ZF,Zz,.func (FO "_law_fulfilled" "_law_fulfilled" xm ZG ZJ ZK ZC GJ ZL),ZD⟩)
 (Jw:codeIn K GJ "_law_fulfilled"=true)
 (Jx:keepIn K (.ref gJ)=true)
 (abT:nsIn K mainGlobals "_law_came_down"=some (some (.ref gK)))
 (Jy:K.lookup gK=some ⟨ZR,ZM,.func (FO "_law_came_down" "_law_came_down" xn ZS ZV ZW ZP GK ZX),ZQ⟩)
 (Jz:codeIn K GK "_law_came_down"=true)
 (JB:keepIn K (.ref gK)=true)
 (aam:nsIn K mainGlobals "_law_refusal_of"=some (some (.ref fX)))
 (Hv:K.lookup fX=some ⟨V0,VN,.func (FO "_law_refusal_of" "_law_refusal_of" uy V1 V2 V3 VP Cv V4),VR⟩)
 (Hw:codeIn K Cv "_law_refusal_of"=true)
 (Hx:keepIn K (.ref fX)=true)
 (afB:nsIn K mainGlobals "_law_answered"=some (some (.ref iM)))
 (Qf:K.lookup iM=some ⟨abv,abr,.func (FO "_law_answered" "_law_answered" zY abw abx aby abt Jf abz),abu⟩)
 (Qg:codeIn K Jf "_law_answered"=true)
 (Qh:keepIn K (.ref iM)=true)
 (aan:nsIn K mainGlobals "_law_numbers_of"=some (some (.ref fY)))
 (Hy:K.lookup fY=some ⟨V8,V5,.func (FO "_law_numbers_of" "_law_numbers_of" uz V9 Wa Wb V6 Cw Wc),V7⟩)
 (Hz:codeIn K Cw "_law_numbers_of"=true)
 (HB:keepIn K (.ref fY)=true)
 (Wr:nsIn K mainGlobals "_law_first_deeds"=some (some (.ref fG)))
 (CV:K.lookup fG=some ⟨Ry,Ru,.func (FO "_law_first_deeds" "_law_first_deeds" rm Rz RB RC Rv zf RD),Rx⟩)
 (CW:codeIn K zf "_law_first_deeds"=true)
 (CZ:keepIn K (.ref fG)=true)
 (afC:nsIn K mainGlobals "_law_asked_of"=some (some (.ref iQ)))
 (Qi:K.lookup iQ=some ⟨abD,abA,.func (FO "_law_asked_of" "_law_asked_of" zZ abE abF abG abB Jg abH),abC⟩)
 (Qj:codeIn K Jg "_law_asked_of"=true)
 (Qk:keepIn K (.ref iQ)=true)
 (aao:nsIn K mainGlobals "_law_row_walked"=some (some (.ref fZ)))
 (HD:K.lookup fZ=some ⟨Wg,Wd,.func (FO "_law_row_walked" "_law_row_walked" uA Wh Wi Wj We Cy Wk),Wf⟩)
 (HH:codeIn K Cy "_law_row_walked"=true)
 (HJ:keepIn K (.ref fZ)=true)
 (arU:nsIn K mainGlobals "law"=some (some (.ref Xw)))
 (arV:K.lookup Xw=some ⟨au8,au5,.func (FO "law" "law" amY au9 ava avb au6 aok avc),au7⟩)
 (arW:codeIn K aok "law"=true)
 (arX:keepIn K (.ref Xw)=true)
 (ave:nsIn K mainGlobals "NONE"=some (some (.str "none" aol)))
 (avf:nsIn K mainGlobals "READ"=some (some (.str "read" aom)))
 (arb:nsIn K mainGlobals "WRITE"=some (some (.str "write" aks)))
 (arc:nsIn K mainGlobals "RANKS"=some (some (.ref sV)))
 (aow:K.lookup sV=some ⟨.type "dict",none,.dict ahm aqQ,#[]⟩)
 (aox:KeysLit w.params ahm.toList)
 (alO:nsIn K sV "none"=some (some (.int 0 aon)))
 (alP:nsIn K sV "read"=some (some (.int 1 aoo)))
 (alQ:nsIn K sV "write"=some (some (.int 2 aop)))
 (avh:nsIn K mainGlobals "DONE"=some (some (.str "done" aoq)))
 (ard:nsIn K mainGlobals "WAITS"=some (some (.str "waits" akt)))
 (ayd:nsIn K mainGlobals "len"=some none)
 (ahZ:nsIn K mainGlobals "enumerate"=some none)
 (arf:nsIn K mainGlobals "range"=some none)
 (afD:nsIn K mainGlobals "isinstance"=some none)
 (aye:nsIn K mainGlobals "int"=some none)
 (avi:nsIn K mainGlobals "bool"=some none)
 (avj:nsIn K mainGlobals "list"=some none)
 (arh:nsIn K mainGlobals "tuple"=some none)
 (ayf:nsIn K mainGlobals "str"=some none)
   : ∃fd:FuncData,(∀(s:Shared) (v:Value),BindsTo s fd ⟨[v],[]⟩ [("_law_script",v)])/\∀base:Heap,K.In base->base.Ns mainGlobals mg->dj l.prog w K mg base oM 11 fa fd ["_law_script"] (akq K):=by
  have e:=(mg_of X G arU).symm.trans hfa
  cases e
  have T:Txt K w mg ⟨bu,bj,bf,aN,aV,aJ,bK,aD,ie,bz,Aa,_,iw,_,fD,_,gF,_,gG,_,gH,_,jf,_,fW,_,iy,_,dY,_,gA,_,iz,_,iB,_,iC,_,fL,_,eQ,_,dG,_,eV,_,cH,_,iD,_,dH,_,cO,_,cA,_,cI,_,du,_,bV,_,dI,_,cJ,_,cP,_,iG,_,iH,_,iI,_,eX,_,dw,_,dB,_,eY,_,fM,_,eZ,_,dZ,_,dC,_,cR,_,dJ,_,dN,_,eE,_,cY,_,jg,_,iJ,_,qz,_,mJ,_,FN,_,qC,_,jh,_,vW,_,iK,_,mK,_,ji,_,j8,_,gJ,_,gK,_,fX,_,iM,_,fY,_,fG,_,iQ,_,fZ,_,fa,_,sV⟩:=⟨Qt afm afn,
   mg_of X G afk,
   Qt alG alH,
   mg_of X G alD,
   Qt alI alJ,
   mg_of X G alE,
   Qt ajo ajp,
   mg_of X G ajn,
   Qt alK alL,
   mg_of X G alF,
   Qt aho ahp,
   mg_of X G ahn,
   ⟨ahq,ahr,ahs⟩,
   rP,
   fc,
   yE,
   yF,
   pX,
   vX,
   nP,
   yG,
   pY,
   uK,
   lY,
   qD,
   ⟨aht,ahu,ahv⟩,
   rQ,
   gj,
   yH,
   yI,
   yJ,
   vY,
   nQ,
   yK,
   pZ,
   uL,
   lZ,
   qF,
   ⟨afo,afp,afq⟩,
   qG,
   iR,
   vZ,
   v5,
   v7,
   v8,
   uM,
   v9,
   nR,
   rR,
   lr,
   oW,
   ⟨ahw,ahx,ahy⟩,
   rT,
   lu,
   yL,
   yM,
   yN,
   yO,
   wg,
   wj,
   yP,
   uN,
   mj,
   qH,
   ⟨abI,abJ,abK⟩,
   oX,
   oY,
   uO,
   uP,
   uQ,
   uR,
   rW,
   rY,
   uT,
   uU,
   qI,
   nT,
   ⟨aqU,aqV,aqW,aqX⟩,
   ⟨ade,ahA,ahB,aqY⟩,
   mg_of X G aqR,
   dU,
   jo,
   ⟨afr,afs,aft,afu⟩,
   ⟨Ao,RK,RL,afv⟩,
   mg_of X G afl,
   gb,
   fj,
   b8,
   cZ,
   di,
   eF,
   ⟨aqZ,aq0,aq1,aq2⟩,
   ⟨adf,ahK,ahL,aq3⟩,
   mg_of X G aqS,
   qm,
   ⟨aq4,aq5,aq6,aq7⟩,
   ⟨adg,ahO,ahP,aq8⟩,
   mg_of X G aqT,
   jq,
   sW,
   gM,
   gO,
   gU,
   qJ,
   aK aku akv akx,
   (aK aku akv akx).binds fun _ _ _ _ _ _ us h=>by obtain⟨_,rfl⟩:=Mi h;rfl,
   mg_of X G aq9,
   aK Pj Pk Pn,
   (aK Pj Pk Pn).binds fun _ _ _ _ _ _ us h=>by obtain⟨_,_,rfl⟩:=jy h;rfl,
   mg_of X G afw,
   aK Cz CG CJ,
   (aK Cz CG CJ).binds fun _ _ _ _ _ _ us h=>by obtain⟨_,_,rfl⟩:=jy h;rfl,
   mg_of X G Wl,
   aK Jh Ji Jj,
   (aK Jh Ji Jj).binds fun _ _ _ _ _ _ us h=>by obtain⟨_,_,rfl⟩:=jy h;rfl,
   mg_of X G abL,
   aK Jk Jl Jm,
   (aK Jk Jl Jm).binds fun _ _ _ _ _ _ us h=>by obtain⟨_,_,_,rfl⟩:=JM h;rfl,
   mg_of X G abM,
   aK Jo Jp Jq,
   (aK Jo Jp Jq).binds fun _ _ _ _ _ _ us h=>by obtain⟨_,_,rfl⟩:=jy h;rfl,
   mg_of X G abN,
   aK Sv Sw Sx,
   (aK Sv Sw Sx).binds fun _ _ _ _ _ _ us h=>by obtain⟨_,_,rfl⟩:=jy h;rfl,
   mg_of X G ahz,
   aK GP GQ GR,
   (aK GP GQ GR).binds fun _ _ _ _ _ _ us h=>by obtain⟨_,rfl⟩:=Mi h;rfl,
   mg_of X G ZZ,
   aK Sy SJ SM,
   (aK Sy SJ SM).binds fun _ _ _ _ _ _ us h=>by obtain⟨_,rfl⟩:=Mi h;rfl,
   aK CK CN rM,
   (aK CK CN rM).binds fun _ _ _ _ _ _ us h=>by obtain⟨_,_,rfl⟩:=jy h;rfl,
   ⟨Wm,Wn,rM⟩,
   aK Pq Pr BK,
   (aK Pq Pr BK).binds fun _ _ _ _ _ _ us h=>by obtain⟨_,rfl⟩:=Mi h;rfl,
   ⟨afx,afy,BK⟩,
   aK SN SQ GX,
   (aK SN SQ GX).binds fun _ _ _ _ _ _ us h=>by obtain⟨_,_,rfl⟩:=jy h;rfl,
   ⟨ahC,ahD,GX⟩,
   aK SX S5 GZ,
   (aK SX S5 GZ).binds fun _ _ _ _ _ _ us h=>by obtain⟨_,_,rfl⟩:=jy h;rfl,
   ⟨ahE,ahF,GZ⟩,
   aK S6 S7 G8,
   (aK S6 S7 G8).binds fun _ _ _ _ _ _ us h=>by obtain⟨_,_,rfl⟩:=jy h;rfl,
   ⟨ahG,ahH,G8⟩,
   aK Jr Js ye,
   (aK Jr Js ye).binds fun _ _ _ _ _ _ us h=>by obtain⟨_,_,rfl⟩:=jy h;rfl,
   ⟨abO,abP,ye⟩,
   aK G9 Ha vg,
   (aK G9 Ha vg).binds fun _ _ _ _ _ _ us h=>by obtain⟨_,_,rfl⟩:=jy h;rfl,
   ⟨Z0,aaa,vg⟩,
   aK zg zj p8,
   (aK zg zj p8).binds fun _ _ _ _ _ _ us h=>by obtain⟨_,_,_,_,rfl⟩:=ati h;rfl,
   ⟨RG,RJ,p8⟩,
   aK Hc Hd vh,
   (aK Hc Hd vh).binds fun _ _ _ _ _ _ us h=>by obtain⟨_,_,_,rfl⟩:=JM h;rfl,
   ⟨aab,aac,vh⟩,
   aK pB pC jE,
   (aK pB pC jE).binds fun _ _ _ _ _ _ us h=>by obtain⟨_,_,rfl⟩:=jy h;rfl,
   ⟨Ei,Ej,jE⟩,
   aK S8 S9 Hf,
   (aK S8 S9 Hf).binds fun _ _ _ _ _ _ us h=>by obtain⟨_,_,_,_,rfl⟩:=ati h;rfl,
   ⟨ahI,ahJ,Hf⟩,
   aK zm zp zq,
   (aK zm zp zq).binds fun _ _ _ _ _ _ us h=>by obtain⟨_,_,_,rfl⟩:=JM h;rfl,
   aK qN qO j9,
   (aK qN qO j9).binds fun _ _ _ _ _ _ us h=>by obtain⟨_,_,_,rfl⟩:=JM h;rfl,
   ⟨Hg,Hh,j9⟩,
   aK mO mQ je,
   (aK mO mQ je).binds fun _ _ _ _ _ _ us h=>by obtain⟨_,_,rfl⟩:=jy h;rfl,
   ⟨zr,zu,je⟩,
   aK pD pF jF,
   (aK pD pF jF).binds fun _ _ _ _ _ _ us h=>by obtain⟨_,_,_,rfl⟩:=JM h;rfl,
   ⟨Ek,El,jF⟩,
   aK wJ wK oF,
   (aK wJ wK oF).binds fun _ _ _ _ _ _ us h=>by obtain⟨_,rfl⟩:=Mi h;rfl,
   ⟨Pu,Px,oF⟩,
   aK kh kj gW,
   (aK kh kj gW).binds fun _ _ _ _ _ _ us h=>by obtain⟨_,rfl⟩:=Mi h;rfl,
   ⟨vm,vo,gW⟩,
   aK zx zy qb,
   (aK zx zy qb).binds fun _ _ _ _ _ _ us h=>by obtain⟨_,rfl⟩:=Mi h;rfl,
   ⟨RM,RN,qb⟩,
   aK pG pH jG,
   (aK pG pH jG).binds fun _ _ _ _ _ _ us h=>by obtain⟨_,_,rfl⟩:=jy h;rfl,
   ⟨Em,En,jG⟩,
   aK qQ qR km,
   (aK qQ qR km).binds fun _ _ _ _ _ _ us h=>by obtain⟨_,_,rfl⟩:=jy h;rfl,
   ⟨Hi,Hj,km⟩,
   aK Tc Td Te,
   (aK Tc Td Te).binds fun _ _ _ _ _ _ us h=>by obtain⟨_,_,rfl⟩:=jy h;rfl,
   aK Tf Tg Hk,
   (aK Tf Tg Hk).binds fun _ _ _ _ _ _ us h=>by obtain⟨_,_,_,rfl⟩:=JM h;rfl,
   ⟨ahM,ahN,Hk⟩,
   aK Th Ti Tj,
   (aK Th Ti Tj).binds fun _ _ _ _ _ _ us h=>by obtain⟨_,_,_,rfl⟩:=JM h;rfl,
   aK Hl Hm vp,
   (aK Hl Hm vp).binds fun _ _ _ _ _ _ us h=>by obtain⟨_,_,rfl⟩:=jy h;rfl,
   ⟨aad,aae,vp⟩,
   aK wL wM oG,
   (aK wL wM oG).binds fun _ _ _ _ _ _ us h=>by obtain⟨_,_,rfl⟩:=jy h;rfl,
   ⟨Py,Pz,oG⟩,
   aK wN wO oH,
   (aK wN wO oH).binds fun _ _ _ _ _ _ us h=>by obtain⟨_,_,rfl⟩:=jy h;rfl,
   ⟨PB,PJ,oH⟩,
   aK Hn Ho vq,
   (aK Hn Ho vq).binds fun _ _ _ _ _ _ us h=>by obtain⟨_,_,_,rfl⟩:=JM h;rfl,
   ⟨aaf,aag,vq⟩,
   aK Jt Ju yf,
   (aK Jt Ju yf).binds fun _ _ _ _ _ _ us h=>by obtain⟨_,_,_,_,rfl⟩:=ati h;rfl,
   ⟨abQ,abR,yf⟩,
   aK Hq Hr vy,
   (aK Hq Hr vy).binds fun _ _ _ _ _ _ us h=>by obtain⟨_,_,_,rfl⟩:=JM h;rfl,
   ⟨aah,aai,vy⟩,
   aK CQ CT rN,
   (aK CQ CT rN).binds fun _ _ _ _ _ _ us h=>by obtain⟨_,_,rfl⟩:=jy h;rfl,
   ⟨Wo,Wq,rN⟩,
   aK wQ wR oJ,
   (aK wQ wR oJ).binds fun _ _ _ _ _ _ us h=>by obtain⟨_,_,rfl⟩:=jy h;rfl,
   ⟨PK,PL,oJ⟩,
   aK su sE lz,
   (aK su sE lz).binds fun _ _ _ _ _ _ us h=>by obtain⟨_,_,rfl⟩:=jy h;rfl,
   ⟨Ih,Ii,lz⟩,
   aK zz zA qg,
   (aK zz zA qg).binds fun _ _ _ _ _ _ us h=>by obtain⟨_,_,_,rfl⟩:=JM h;rfl,
   ⟨RP,RQ,qg⟩,
   aK wU wV oK,
   (aK wU wV oK).binds fun _ _ _ _ _ _ us h=>by obtain⟨_,rfl⟩:=Mi h;rfl,
   ⟨PN,PQ,oK⟩,
   aK zB zE qi,
   (aK zB zE qi).binds fun _ _ _ _ _ _ us h=>by obtain⟨_,_,rfl⟩:=jy h;rfl,
   ⟨RT,RV,qi⟩,
   aK qT qU kE,
   (aK qT qU kE).binds fun _ _ _ _ _ _ us h=>by obtain⟨_,rfl⟩:=Mi h;rfl,
   ⟨Ht,Hu,kE⟩,
   aK Tn Tp Tq,
   (aK Tn Tp Tq).binds fun _ _ _ _ _ _ us h=>by obtain⟨_,_,rfl⟩:=jy h;rfl,
   mg_of X G ahQ,
   aK PX P0 Qa,
   (aK PX P0 Qa).binds fun _ _ _ _ _ _ us h=>by obtain⟨_,_,_,rfl⟩:=JM h;rfl,
   mg_of X G afz,
   aK ahR ahS ahT,
   (aK ahR ahS ahT).binds fun _ _ _ _ _ _ us h=>by obtain⟨_,_,_,rfl⟩:=JM h;rfl,
   mg_of X G aor,
   aK acB acC acD,
   (aK acB acC acD).binds fun _ _ _ _ _ _ us h=>by obtain⟨_,rfl⟩:=Mi h;rfl,
   mg_of X G alM,
   aK aos aot aou,
   (aK aos aot aou).binds fun _ _ _ _ _ _ us h=>by obtain⟨_,_,rfl⟩:=jy h;rfl,
   mg_of X G avd,
   aK ahU ahV ahW,
   (aK ahU ahV ahW).binds fun _ _ _ _ _ _ us h=>by obtain⟨_,_,rfl⟩:=jy h;rfl,
   mg_of X G aov,
   aK Tr Tt Tu,
   (aK Tr Tt Tu).binds fun _ _ _ _ _ _ us h=>by obtain⟨_,_,rfl⟩:=jy h;rfl,
   mg_of X G ahX,
   aK aky akz akA,
   (aK aky akz akA).binds fun _ _ _ _ _ _ us h=>by obtain⟨_,_,rfl⟩:=jy h;rfl,
   mg_of X G ara,
   aK Qc Qd Qe,
   (aK Qc Qd Qe).binds fun _ _ _ _ _ _ us h=>by obtain⟨_,_,rfl⟩:=jy h;rfl,
   mg_of X G afA,
   aK acE acF acG,
   (aK acE acF acG).binds fun _ _ _ _ _ _ us h=>by obtain⟨_,_,rfl⟩:=jy h;rfl,
   mg_of X G alN,
   aK Tw Tz TJ,
   (aK Tw Tz TJ).binds fun _ _ _ _ _ _ us h=>by obtain⟨_,_,rfl⟩:=jy h;rfl,
   mg_of X G ahY,
   aK aaj aak aal,
   (aK aaj aak aal).binds fun _ _ _ _ _ _ us h=>by obtain⟨_,_,rfl⟩:=jy h;rfl,
   mg_of X G ajq,
   aK Jv Jw Jx,
   (aK Jv Jw Jx).binds fun _ _ _ _ _ _ us h=>by obtain⟨_,_,_,rfl⟩:=JM h;rfl,
   mg_of X G abS,
   aK Jy Jz JB,
   (aK Jy Jz JB).binds fun _ _ _ _ _ _ us h=>by obtain⟨_,_,rfl⟩:=jy h;rfl,
   mg_of X G abT,
   aK Hv Hw Hx,
   (aK Hv Hw Hx).binds fun _ _ _ _ _ _ us h=>by obtain⟨_,_,rfl⟩:=jy h;rfl,
   mg_of X G aam,
   aK Qf Qg Qh,
   (aK Qf Qg Qh).binds fun _ _ _ _ _ _ us h=>by obtain⟨_,_,rfl⟩:=jy h;rfl,
   mg_of X G afB,
   aK Hy Hz HB,
   (aK Hy Hz HB).binds fun _ _ _ _ _ _ us h=>by obtain⟨_,_,rfl⟩:=jy h;rfl,
   mg_of X G aan,
   aK CV CW CZ,
   (aK CV CW CZ).binds fun _ _ _ _ _ _ us h=>by obtain⟨_,_,rfl⟩:=jy h;rfl,
   mg_of X G Wr,
   aK Qi Qj Qk,
   (aK Qi Qj Qk).binds fun _ _ _ _ _ _ us h=>by obtain⟨_,_,_,rfl⟩:=JM h;rfl,
   mg_of X G afC,
   aK HD HH HJ,
   (aK HD HH HJ).binds fun _ _ _ _ _ _ us h=>by obtain⟨_,_,_,rfl⟩:=JM h;rfl,
   mg_of X G aao,
   aK arV arW arX,
   (aK arV arW arX).binds fun _ _ _ _ _ _ us h=>by obtain⟨_,rfl⟩:=Mi h;rfl,
   mg_of X G arU,
   ⟨aol,mg_of X G ave⟩,
   ⟨aom,mg_of X G avf⟩,
   ⟨aks,mg_of X G arb⟩,
   mg_of X G arc,
   asJ aow aox alO alP alQ,
   ⟨aoq,mg_of X G avh⟩,
   ⟨akt,mg_of X G ard⟩,
   mg_none_of X G ayd,
   mg_none_of X G ahZ,
   mg_none_of X G arf,
   mg_none_of X G afD,
   mg_none_of X G aye,
   mg_none_of X G avi,
   mg_none_of X G avj,
   mg_none_of X G arh,
   mg_none_of X G ayf⟩
  exact⟨_,fun s v=>.of_eq rfl,fun base _ _=>auU T⟩
end
theorem walk{l:PySem.W.OpenLaw}{q:Program}{loose:List Str}{XP:(Str->Option Value)->Heap->Prop}{YP:World->Heap->Prop}{d:DefRec}{K:Params->PySem.W.Frag}(hn:l.most=some 63)(hdf:d.params.defaults=[])
 (hY:∀(w:World) (h:Heap),YP w h->(K w.params).In h)
 (F:∀(w:World) (mg:Str->Option Value) (fa:Addr) (h:Heap),(K w.params).In h->h.Ns mainGlobals mg->mg d.name=some (.ref fa)->
   ∃fd:FuncData,(∀(s:Shared) (u:Value),BindsTo s fd ⟨[u],[]⟩ [("_law_script",u)])/\∀base:Heap,(K w.params).In base->base.Ns mainGlobals mg->dj l.prog w (K w.params) mg base oM 11 fa fd ["_law_script"] (akq (K w.params))) :
 PySem.W.WalkO q loose XP YP l.row.toRowW d [] (fun f vs=>PySem.call f vs) :=
 L2.aoV (n:=63) (k:=11) (x:="_law_script") (CX:=fun _=>oM) (sp:=fun w=>akq (K w.params)) hn (by decide) hdf ⟨rfl,by decide,by decide⟩ hY F (fun _ _ a ns hl _ hS=>⟨a,ns,rfl,hS,hl,fun _=>rfl⟩) fun _ _ _ _ _ z=>z
end gn
open PySem PySem.W PyProof.Rows
set_option maxRecDepth 100000 in
set_option maxHeartbeats 0 in
theorem PySem.Challenge.cw_copydesks_k02_whole_one_row_holds : PySem.Challenge.rw_copydesks_k02_whole_one_row.Holds := by
 w_on;refine PySem.W.holds_law H1.said fun said=>?_
 refine PySem.W.holds_open (r:=PySem.W.OpenLaw.row H1.rw_) (q:=H1.q) (loose:=["RANKS"]) (d:=H1.d) (kwd:=[]) (Xt:=H1.Xt) (XP:=PySem.W.XL H1.q []) (YP:=PySem.W.InK H1.K0.heap_1) H1.hl (PySem.W.InK.of H1.KAe) PySem.W.InK.keeps (fun s e=>PySem.W.xl_of s (Bool.and_eq_true_iff.mp e).1) PySem.W.XL.keeps H1.hdef H1.hp H1.hk (fun s e=>PySem.W.recFacts_of (Bool.and_eq_true_iff.mp e).2) rfl said H1.ok ⟨rfl,rfl,rfl,rfl,rfl,by decide +kernel⟩ ?hw ?hc
 (case hw=>w_witness2)
 k_fill
 refine gn.walk (l:=PySem.Challenge.rw_copydesks_k02_whole_one_row) rfl H1.hdf (fun w h Y=>Y) ?F
 case F =>
  intro w mg fa h KX G hmg
  refine' gn.all_mk KX G hmg ?_ ?_ ?_ ?_ ?_ ?_ ?_ ?_ ?_ ?_ ?_ ?_ ?_ ?_ ?_ ?_ ?_ ?_ ?_ ?_ ?_ ?_ ?_ ?_ ?_ ?_ ?_ ?_ ?_ ?_ ?_ ?_ ?_ ?_ ?_ ?_ ?_ ?_ ?_ ?_ ?_ ?_ ?_ ?_ ?_ ?_ ?_ ?_ ?_ ?_ ?_ ?_ ?_ ?_ ?_ ?_ ?_ ?_ ?_ ?_ ?_ ?_ ?_ ?_ ?_ ?_ ?_ ?_ ?_ ?_ ?_ ?_ ?_ ?_ ?_ ?_ ?_ ?_ ?_ ?_ ?_ ?_ ?_ ?_ ?_ ?_ ?_ ?_ ?_ ?_ ?_ ?_ ?_ ?_ ?_ ?_ ?_ ?_ ?_ ?_ ?_ ?_ ?_ ?_ ?_ ?_ ?_ ?_ ?_ ?_ ?_ ?_ ?_ ?_ ?_ ?_ ?_ ?_ ?_ ?_ ?_ ?_ ?_ ?_ ?_ ?_ ?_ ?_ ?_ ?_ ?_ ?_ ?_ ?_ ?_ ?_ ?_ ?_ ?_ ?_ ?_ ?_ ?_ ?_ ?_ ?_ ?_ ?_ ?_ ?_ ?_ ?_ ?_ ?_ ?_ ?_ ?_ ?_ ?_ ?_ ?_ ?_ ?_ ?_ ?_ ?_ ?_ ?_ ?_ ?_ ?_ ?_ ?_ ?_ ?_ ?_ ?_ ?_ ?_ ?_ ?_ ?_ ?_ ?_ ?_ ?_ ?_ ?_ ?_ ?_ ?_ ?_ ?_ ?_ ?_ ?_ ?_ ?_ ?_ ?_ ?_ ?_ ?_ ?_ ?_ ?_ ?_ ?_ ?_ ?_ ?_ ?_ ?_ ?_ ?_ ?_ ?_ ?_ ?_ ?_ ?_ ?_ ?_ ?_ ?_ ?_ ?_ ?_ ?_ ?_ ?_ ?_ ?_ ?_ ?_ ?_ ?_ ?_ ?_ ?_ ?_ ?_ ?_ ?_ ?_ ?_ ?_ ?_ ?_ ?_ ?_ ?_ ?_ ?_ ?_ ?_ ?_ ?_ ?_ ?_ ?_ ?_ ?_ ?_ ?_ ?_ ?_ ?_ ?_ ?_ ?_ ?_ ?_ ?_ ?_ ?_ ?_ ?_ ?_ ?_ ?_ ?_ ?_ ?_ ?_ ?_ ?_ ?_ ?_ ?_ ?_ ?_ ?_ ?_ ?_ ?_ ?_ ?_ ?_ ?_ ?_ ?_ ?_ ?_ ?_ ?_ ?_ ?_ ?_ ?_ ?_ ?_ ?_ ?_ ?_ ?_ ?_ ?_ ?_ ?_ ?_ ?_ ?_ ?_ ?_ ?_ ?_ ?_ ?_ ?_ ?_ ?_ ?_ ?_ ?_ ?_ ?_ ?_ ?_ ?_ ?_ ?_ ?_ ?_ ?_ ?_ ?_ ?_ ?_ ?_ ?_ ?_ ?_ ?_ ?_ ?_ ?_ ?_ ?_ ?_ ?_ ?_ ?_ ?_ ?_ ?_ ?_ ?_ ?_ ?_ ?_ ?_ ?_ ?_ ?_ ?_ ?_ ?_ ?_ ?_ ?_ ?_ ?_ ?_ ?_ ?_ ?_ ?_ ?_ ?_ ?_ ?_ ?_ ?_ ?_ ?_ ?_ ?_ ?_ ?_ ?_ ?_ ?_ ?_ ?_ ?_ ?_ ?_ ?_ ?_ ?_ ?_ ?_ ?_ ?_ ?_ ?_ ?_ ?_ ?_ ?_ ?_ ?_ ?_ ?_ ?_ ?_ ?_ ?_ ?_ ?_ ?_ ?_ ?_ ?_ ?_ ?_ ?_ ?_ ?_ ?_ ?_ ?_ ?_ ?_ ?_ ?_ ?_ ?_ ?_ ?_ ?_ ?_ ?_ ?_ ?_ ?_
  all_goals try first | k_is | kernel_rfl | decide | exact⟨⟨_,_,rfl,rfl⟩,⟨⟨_,_,rfl,rfl⟩,⟨⟨_,_,rfl,rfl⟩,trivial⟩⟩⟩
