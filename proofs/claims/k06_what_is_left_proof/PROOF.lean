import PyProof.Rows.All
import Wide.All
import OpenK.AllK
import Wide.FinOn
import Lean
import PyProof.EqAt
import PyProof.EqKinds
import PyProof.NeKinds
import PyProof.TupleCall
import PySem.Challenge.RW_copydesks_k06_what_is_left
set_option Elab.async false
set_option maxRecDepth 100000
set_option maxHeartbeats 4000000
namespace H1
open PySem PySem.W PySem.Calls PyProof.Rows
noncomputable def fN {α:Type} (n:Nat) (k:Nat->α):α := @Nat.rec (fun _=>α) (k 0) (fun m _=>k (Nat.succ m)) n
theorem apV{α:Type}(n:Nat)(k:Nat->α):fN n k=k n:=by cases n<;>rfl
noncomputable def run (tb:String->Option Builtin) (p:Program) (w:World) (n₀:Nat) (ann:Option Value):Nat->SharedT->Thread->Option SharedT
 | 0,_,_=>none
 | n+1,s,t=>match through t with
   | true=>some s
   | false=>match stepOk n₀ ann t with
     | false=>none
     | true=>match stepT (denote tb) p w s t with
       | some (⟨T,k,l,g,d,tk,os⟩,t')=>fN tk fun tk=>fN k fun k=>run tb p w n₀ ann n ⟨T,k,l,g,d,tk,os⟩ t'
       | none=>none
section
variable{tb:String->Option Builtin}{p:Program}{w:World}{n₀:Nat}{ann:Option Value}
theorem akS:∀{n:Nat} {s s':SharedT} {t:Thread},run tb p w n₀ ann n s t=some s'->topRun tb p w n₀ ann n s.abs t=some s'.abs
 | 0,_,_,_,h=>by cases h
 | n+1,s,s',t,h=>by
   unfold run at h
   unfold topRun
   cases he:through t with
   | true=>rw[he]at h;cases h;rfl
   | false =>
     rw[he]at h
     cases hk:stepOk n₀ ann t with
     | false=>rw[hk]at h;cases h
     | true =>
       rw[hk]at h
       cases hs:stepT (denote tb) p w s t with
       | none=>rw[hs]at h;cases h
       | some r =>
         obtain⟨⟨T,k,l,g,d,tk,os⟩,t₂⟩:=r
         rw[hs]at h
         rw[stepT_spec hs]
         dsimp only at h
         rw[apV,apV]at h
         exact akS h
end
def looks(p q:Program)(loose:List Str)(Xt:Shared->Bool){α:Type}(Yf:Shared->α)(g0:Bool)(H₀:Heap)(s:Shared) :=
 (staticsOk (importedModules p.main.body) H₀ s.heap && namesBound p s.heap && gensDone s && laidKept H₀ s.heap,openSeen q loose (importedModules p.main.body) Xt g0 s,Yf s)
def looks0(p q:Program)(loose:List Str)(Xt:Shared->Bool)(H₀:Heap)(s:Shared) :=
 (staticsOk (importedModules p.main.body) H₀ s.heap && namesBound p s.heap && gensDone s && laidKept H₀ s.heap,openSeen q loose (importedModules p.main.body) Xt true s)
theorem left{p q:Program}{loose:List Str}{Xt:Shared->Bool}{α:Type}{Yf:Shared->α}{Ya:World->α}{N M:Nat}{g0:Bool}{T₀:Params->BT}{n₀:Nat}{life:Life}{gs₀:Array GenState}{d₀:Drawn}{k₀:Nat}{ann:Option Value}
 (open_:∀w:World,(fencedOpening treeTable p w N).map (fun s=>(s.heap,s.gens,s.drawn,s.toks))=some (absHeap (T₀ w.params) n₀ life,gs₀,d₀,k₀))
 (size:∀w:World,((absHeap (T₀ w.params) n₀ life).isNs mainGlobals && gs₀.size == 0,(absHeap (T₀ w.params) n₀ life).nsMap mainGlobals "__annotations__")=(true,ann))
 (h:∀w:World,(fun os=>(run treeTable p w n₀ ann M ⟨T₀ w.params,n₀,life,gs₀,d₀,k₀,os⟩ (topStub p)).map fun s=>looks p q loose Xt Yf g0 (absHeap (T₀ w.params) n₀ life) s.abs)=fun _=>some (true,openGood q loose,Ya w))
 (le:Nat.ble M N=true):LeftO p q loose Xt Yf Ya N g0:=fun w=>by
 obtain⟨⟨h0,gs,d,k,os⟩,e,e'⟩:=Option.map_eq_some_iff.mp (open_ w)
 obtain⟨rfl,rfl,rfl,rfl⟩:h0=absHeap (T₀ w.params) n₀ life/\gs=gs₀/\d=d₀/\k=k₀:=by simpa using e'
 obtain⟨z1,z3⟩:_/\_:=by simpa only[Prod.mk.injEq] using size w
 obtain⟨sT,r0,l0⟩:=Option.map_eq_some_iff.mp (congrFun (h w) os)
 obtain⟨l1,l2,l3⟩:_/\_/\_:=by simpa only[looks,Prod.mk.injEq] using l0
 have r:=topRun_mono (N - M) _ _ _ _ (akS r0)
 rw[show M+(N - M)=N by have:=Nat.le_of_ble_eq_true le;lia]at r
 have t:topFrom treeTable p w N ⟨absHeap (T₀ w.params) n₀ life,gs,d,k,os⟩=some sT.abs:=by
  unfold topFrom
  dsimp only
  rw[z1,absHeap_size,z3]
  have r':topRun treeTable p w n₀ ann N ⟨absHeap (T₀ w.params) n₀ life,gs,d,k,os⟩ (topStub p)=some sT.abs:=r
  rw[r']
  show(match staticsOk (importedModules p.main.body) (absHeap (T₀ w.params) n₀ life) sT.abs.heap && namesBound p sT.abs.heap && gensDone sT.abs && laidKept (absHeap (T₀ w.params) n₀ life) sT.abs.heap with | true=>_ | false=>_)=_
  rw[l1]
 unfold openEnds
 rw[e]
 show(topFrom treeTable p w N _).map _=_
 rw[t]
 exact congrArg some (Prod.ext l2 l3)
end H1
namespace H1
open PySem PySem.W PySem.Calls PyProof.Rows
theorem auf{p q:Program}{loose:List Str}{Xt:Shared->Bool}{α:Type}{Yf:Shared->α}{Ya:World->α}{N M:Nat}{g0:Bool}{T₀:Params->BT}{n₀:Nat}{life:Life}{gs₀:Array GenState}{d₀:Drawn}{k₀:Nat}{ann:Option Value}(row:String)
 (open_:∀w:World,(fencedOpening treeTable p w N).map (fun s=>(s.heap,s.gens,s.drawn,s.toks))=some (absHeap (T₀ w.params) n₀ life,gs₀,d₀,k₀))
 (size:∀w:World,((absHeap (T₀ w.params) n₀ life).isNs mainGlobals && gs₀.size == 0,(absHeap (T₀ w.params) n₀ life).nsMap mainGlobals "__annotations__")=(true,ann))
 (h0:∀w:World,(fun os=>(run treeTable p (w.withFollow row false) n₀ ann M ⟨T₀ (w.withFollow row false).params,n₀,life,gs₀,d₀,k₀,os⟩ (topStub p)).map fun s=>looks p q loose Xt Yf g0 (absHeap (T₀ (w.withFollow row false).params) n₀ life) s.abs)=fun _=>some (true,openGood q loose,Ya (w.withFollow row false)))
 (h1:∀w:World,(fun os=>(run treeTable p (w.withFollow row true) n₀ ann M ⟨T₀ (w.withFollow row true).params,n₀,life,gs₀,d₀,k₀,os⟩ (topStub p)).map fun s=>looks p q loose Xt Yf g0 (absHeap (T₀ (w.withFollow row true).params) n₀ life) s.abs)=fun _=>some (true,openGood q loose,Ya (w.withFollow row true)))
 (le:Nat.ble M N=true):LeftO p q loose Xt Yf Ya N g0 :=
 left open_ size (fun w=>by
  have e:=World.withFollow_self w row
  cases hb:w.params.followText row with
  | false=>rw[hb]at e;have:=h0 w;rw[e]at this;exact this
  | true=>rw[hb]at e;have:=h1 w;rw[e]at this;exact this) le
theorem glue{β γ:Type}{r:Option β}{f:β->γ}{δ:Type}{g:β->δ}{a:γ}{b:δ}(x:r.map f=some a)(y:r.map g=some b):r.map (fun s=>(f s,g s))=some (a,b):=by
 cases r with
 | none=>cases x
 | some s=>cases x;cases y;rfl
theorem both{p q:Program}{loose:List Str}{Xt:Shared->Bool}{α:Type}{Yf:Shared->α}{M:Nat}{n₀:Nat}{life:Life}{gs₀:Array GenState}{d₀:Drawn}{k₀:Nat}{ann:Option Value}{w:World}{T:BT}{y:α}
 (x:(fun os=>(run treeTable p w n₀ ann M ⟨T,n₀,life,gs₀,d₀,k₀,os⟩ (topStub p)).map fun s=>looks0 p q loose Xt (absHeap T n₀ life) s.abs)=fun _=>some (true,openGood q loose))
 (z:(fun os=>(run treeTable p w n₀ ann M ⟨T,n₀,life,gs₀,d₀,k₀,os⟩ (topStub p)).map fun s=>Yf s.abs)=fun _=>some y) :
 (fun os=>(run treeTable p w n₀ ann M ⟨T,n₀,life,gs₀,d₀,k₀,os⟩ (topStub p)).map fun s=>looks p q loose Xt Yf true (absHeap T n₀ life) s.abs)=fun _=>some (true,openGood q loose,y):=by
 funext os
 have e:=glue (congrFun x os) (congrFun z os)
 cases h:run treeTable p w n₀ ann M ⟨T,n₀,life,gs₀,d₀,k₀,os⟩ (topStub p)with
 | none=>rw[h]at e;cases e
 | some s =>
   rw[h]at e
   simp only[Option.map_some,Option.some.injEq,Prod.mk.injEq,looks0,looks]at e ⊢
   exact⟨e.1.1,e.1.2,e.2⟩
noncomputable def mkT (l:List Obj):Nat->Nat->Nat->BT
 | 0,_,_=>.nil
 | f+1,a,b=>match l[b]? with
   | some o=>.node o (mkT l f (2*a) (a+b)) (mkT l f (2*a) (2*a+b))
   | none=>.nil
noncomputable def T0 (P:Params):BT:=mkT (boot_heap P).objs.toList 12 1 0
theorem t0(P:Params):absHeap (T0 P) 11 {}=boot_heap P:=by kernel_rfl
theorem opens{p:Program}{N:Nat}(e:opening p=plainProg p.main.scope.names)(hN:Nat.ble 600 N=true)(f:∀s,fenceModules? p s=some s)(w:World):(fencedOpening treeTable p w N).map (fun s=>(s.heap,s.gens,s.drawn,s.toks))=some (absHeap (T0 w.params) 11 {},#[],boot_drawn,boot_toks):=by
 rw[t0];exact boot_open e hN f w
theorem sizes(w:World):((absHeap (T0 w.params) 11 {}).isNs mainGlobals && (#[]:Array GenState).size == 0,(absHeap (T0 w.params) 11 {}).nsMap mainGlobals "__annotations__")=(true,some (.ref 6)):=by
 rw[t0];kernel_rfl
end H1
lay_quick H1.run H1.looks0
set_option Elab.async false
set_option linter.all false
set_option maxRecDepth 100000
namespace PySem
theorem Dw:0<=sizeLine:=by decide
theorem zz1:1<=sizeLine:=by decide
theorem uA:2<=sizeLine:=by decide
theorem Zy:3<=sizeLine:=by decide
theorem zz4:4<=sizeLine:=by decide
theorem zz5:5<=sizeLine:=by decide
theorem zz6:6<=sizeLine:=by decide
theorem zz7:7<=sizeLine:=by decide
theorem zz8:8<=sizeLine:=by decide
theorem zz9:9<=sizeLine:=by decide
end PySem
namespace L2
theorem kE{α β:Type}{p r q:α->β->Prop}{C:Prop}(h:∃x y,p x y/\r x y/\q x y)(k:∀x y,p x y->r x y->q x y->C):C:=Exists.elim h fun x h=>Exists.elim h fun y h=>k x y h.1 h.2.1 h.2.2
theorem ex3{β:Type}{p q:β->Prop}{C:Prop}(h:∃y,p y/\q y)(k:∀y,p y->q y->C):C:=Exists.elim h fun y h=>k y h.1 h.2
theorem ex4{α β:Type}{p q:α->β->Prop}{C:Prop}(h:∃x y,p x y/\q x y)(k:∀x y,p x y->q x y->C):C:=Exists.elim h fun x h=>Exists.elim h fun y h=>k x y h.1 h.2
open PySem PySem.Spec PyProof.Rows
abbrev Key:=Sum Int Str
def abq:Key->Value->Bool
 | .inl k,v=>Value.isInt k v
 | .inr x,v=>Value.isStrOf x v
def axt(w:World):Key->Int
 | .inl k=>hashInt k
 | .inr x=>hashStr w x
theorem gW:∀{k:Key} {v:Value},abq k v=true->(∃i t,k=Sum.inl i/\v=Value.int i t)\/(∃x t,k=Sum.inr x/\v=Value.str x t)
 | .inl i,v,h=>by
   obtain⟨t,e⟩:=Value.isInt_shape (k:=i) (v:=v) h
   exact .inl ⟨i,t,rfl,e⟩
 | .inr x,v,h=>by
   obtain⟨t,e⟩:=Value.isStrOf_shape (x:=x) (v:=v) h
   exact .inr ⟨x,t,rfl,e⟩
theorem ajJ(i:Int)(t:Tok):abq (.inl i) (.int i t)=true:=by simp[abq,Value.isInt]
theorem ajK(x:Str)(t:Tok):abq (.inr x) (.str x t)=true:=by simp[abq,Value.isStrOf]
theorem aqz(a b:Int):decide ((Sum.inl a:Key)=Sum.inl b)=(a == b):=by
 by_cases e:a=b
 ·subst e;simp
 ·have h:¬(Sum.inl a:Key)=Sum.inl b:=fun q=>e (Sum.inl.inj q)
  rw[decide_eq_false h]
  exact(beq_eq_false_iff_ne.mpr e).symm
theorem aqA(a b:Str):decide ((Sum.inr a:Key)=Sum.inr b)=decide (a=b):=by
 by_cases e:a=b
 ·subst e;simp
 ·have h:¬(Sum.inr a:Key)=Sum.inr b:=fun q=>e (Sum.inr.inj q)
  rw[decide_eq_false h,decide_eq_false e]
theorem aqB(a:Int)(b:Str):decide ((Sum.inl a:Key)=Sum.inr b)=false:=decide_eq_false (fun q=>nomatch q)
theorem aqC(a:Str)(b:Int):decide ((Sum.inr a:Key)=Sum.inl b)=false:=decide_eq_false (fun q=>nomatch q)
def gO(prog:Program)(w:World):PySem.KeyKind prog w Key where
 is:=abq
 hash:=axt w
 inj:=fun v a b ha hb=>by
  rcases gW ha with ⟨i,t,rfl,rfl⟩ | ⟨x,t,rfl,rfl⟩
  ·rcases gW hb with ⟨j,u,rfl,e⟩ | ⟨y,u,rfl,e⟩
   ·injection e with e1 _;rw[e1]
   ·exact nomatch e
  ·rcases gW hb with ⟨j,u,rfl,e⟩ | ⟨y,u,rfl,e⟩
   ·exact nomatch e
   ·injection e with e1 _;rw[e1]
 byValue:=fun k v h=>by
  rcases gW h with ⟨i,t,rfl,rfl⟩ | ⟨x,t,rfl,rfl⟩<;>rfl
 pyHash:=fun hv h=>by
  rcases gW hv with ⟨i,t,rfl,rfl⟩ | ⟨x,t,rfl,rfl⟩
  ·exact wpAny_pyHash_int h
  ·exact wpAny_pyHash_str h
 eqBool:=fun hu hv h=>by
  rcases gW hu with ⟨i,t,rfl,rfl⟩ | ⟨x,t,rfl,rfl⟩
  ·rcases gW hv with ⟨j,u,rfl,rfl⟩ | ⟨y,u,rfl,rfl⟩
   ·rw[aqz]at h;exact wpAny_eqBool_int h
   ·rw[aqB]at h;exact SeqAt.EqAt.int_str i t y u _ _ _ _ h
  ·rcases gW hv with ⟨j,u,rfl,rfl⟩ | ⟨y,u,rfl,rfl⟩
   ·rw[aqC]at h;exact SeqAt.EqAt.str_int x t j u _ _ _ _ h
   ·rw[aqA]at h;exact wpAny_eqBool_str h
 «strs»:=fun k x t v h=>by
  rcases gW h with ⟨i,u,rfl,e⟩ | ⟨y,u,rfl,e⟩
  ·exact nomatch e
  ·injection e with e1 _
   subst e1
   cases v<;>rfl
theorem ae8(prog:Program)(w:World)(i:Int)(t:Tok):(gO prog w).is (.inl i) (.int i t)=true:=ajJ i t
theorem ae9(prog:Program)(w:World)(x:Str)(t:Tok):(gO prog w).is (.inr x) (.str x t)=true:=ajK x t
end L2
namespace L2
open PySem PySem.Spec PyProof.Rows
inductive V where
 | non | bl (b:Bool) | int (i:Int) | str (x:Str) | byt (b:Array UInt8) | flt (b:UInt64) | ref (a:Addr) | ty (n:String)
 deriving DecidableEq
def RelV:V->Value->Prop
 | .non,u=>u=Value.none
 | .bl b,u=>u=Value.bool b
 | .int i,u=>∃t,u=Value.int i t
 | .str x,u=>∃t,u=Value.str x t
 | .byt b,u=>∃t,u=Value.bytes b t
 | .flt b,u=>∃t,u=Value.float b t
 | .ref a,u=>u=Value.ref a
 | .ty n,u=>u=Value.type n
abbrev Vals:List V->List Value->Prop:=Paired RelV
theorem Vals.length{xs:List V}{us:List Value}(r:Vals xs us):xs.length=us.length:=Paired.length r
theorem Vals.get:∀{xs:List V} {us:List Value} {i:Nat} {x:V},Vals xs us->xs[i]? = some x->∃u,us[i]? = some u/\RelV x u
 | _,_,_,_,.nil,e=>by simp at e
 | _,_,0,_,.cons r _,e=>by simp at e;subst e;exact⟨_,rfl,r⟩
 | _,_,i+1,x,.cons _ t,e=>by
   obtain⟨u,h1,h2⟩:=Vals.get (i:=i) (x:=x) t (by simpa using e)
   exact⟨u,by simpa using h1,h2⟩
theorem Vals.set{x:V}{u:Value}(r:RelV x u):∀{xs:List V} {us:List Value} (i:Nat),Vals xs us->Vals (xs.set i x) (us.set i u)
 | _,_,_,.nil=>.nil
 | _,_,0,.cons _ t=>.cons r t
 | _,_,i+1,.cons q t=>.cons q (Vals.set r i t)
theorem Vals.append:∀{xs ys:List V} {us ws:List Value},Vals xs us->Vals ys ws->Vals (xs++ys) (us++ws)
 | _,_,_,_,.nil,s=>s
 | _,_,_,_,.cons r t,s=>.cons r (Vals.append t s)
theorem Vals.take:∀{xs:List V} {us:List Value} (n:Nat),Vals xs us->Vals (xs.take n) (us.take n)
 | _,_,0,_=>.nil
 | _,_,_+1,.nil=>.nil
 | _,_,n+1,.cons r t=>.cons r (Vals.take n t)
theorem Vals.drop:∀{xs:List V} {us:List Value} (n:Nat),Vals xs us->Vals (xs.drop n) (us.drop n)
 | _,_,0,r=>r
 | _,_,_+1,.nil=>.nil
 | _,_,n+1,.cons _ t=>Vals.drop n t
def BW:Option V->Option Value->Prop
 | some v,some u=>RelV v u
 | none,none=>True
 | _,_=>False
def KV{κ:Type}:List (κ×V)->List (κ×Value)->Prop:=Paired fun(p:κ×V) (q:κ×Value)=>p.1=q.1/\RelV p.2 q.2
def kV:Key->V
 | .inl i=>.int i
 | .inr x=>.str x
inductive HO where
 | lst (xs:List V)
 | tup (xs:List V)
 | dK (kvs:List (Key×V)) | dT (kvs:List (List Key×V))
 | set (S:Int->Bool) (n:Nat)
 | ins (C dx:Addr) (fs:List (Str×V))
 | own (x:Addr)
 | xd (fs:List (Str×V))
 | met (f x:Addr)
 | rng (lo hi:Int)
 | frz (o:Obj) (u:HO)
 | tbl (ps:Array Value)
 | ext (φ:Heap->Prop)
abbrev Hp:=Addr->Option HO
def upd(H:Hp)(a:Addr)(o:HO):Hp:=fun b=>if b=a then some o else H b
theorem aj{H:Hp}{a:Addr}{o:HO}:upd H a o a=some o:=by unfold upd;rw[if_pos rfl]
theorem az{H:Hp}{a b:Addr}{o:HO}(h:b≠a):upd H a o b=H b:=by unfold upd;rw[if_neg h]
theorem aiK{H:Hp}{a:Addr}{o u:HO}:upd (upd H a o) a u=upd H a u:=by
 funext b;unfold upd;split<;>rfl
theorem jq{H:Hp}{a b:Addr}{o u:HO}(h:H a=some o)(h':H b=some u)(d:o≠u):a≠b:=by
 intro e;subst e;rw[h]at h';exact d (Option.some.inj h')
theorem aG{H:Hp}{a b:Addr}{o:HO}(h:H a=some o)(h':H b=none):a≠b:=by
 intro e;subst e;rw[h]at h';cases h'
section
variable(P:Program)(w:World)
def fO(H:Hp)(h:Heap)(a:Addr):HO->Prop
 | .lst xs=>xs.length<=sizeLine/\∃(its:List Value) (n:Nat),Vals xs its/\h.get? a=some {cls:=.type "list",data:=.seq its.toArray n}
 | .tup xs=>xs.length<=sizeLine/\∃its:List Value,Vals xs its/\IsTup h a its.toArray
 | .dK kvs=>kvs.length<=sizeLine/\(a == sysModules)=false/\∃vs,KV kvs vs/\h.DictOf (gO P w) a vs
 | .dT kvs=>kvs.length<=sizeLine/\(a == sysModules)=false/\∃xs:List (List Key×Addr×Value),
    Paired (fun(p:List Key×V) (q:List Key×Addr×Value)=>p.1=q.1/\H q.2.1=some (.tup (p.1.map kV))/\RelV p.2 q.2.2) kvs xs/\
    ∃o es ep,h.get? a=some o/\o.ExactDict/\o.data=.dict es ep/\es.toList=xs.map (entryOfKey (tupleKind (gO P w)))/\(xs.map (·.1)).Nodup
 | .set S n=>h.SetOf (intKind P w) a S n
 | .ins C dx fs=>H dx=some (.own a)/\fs.length<=1000/\dx≠a/\h.get? a=some (PySem.W.instObj C dx)/\
    ∃mA,h.Ns1 dx mA/\(∀f,BW (fs.lookup f) (mA f))/\PySem.Within mA (fs.map (·.1))
 | .own _=>∃o,h.get? a=some o
 | .xd fs=>∃mA,h.Ns1 a mA/\∀f,BW (fs.lookup f) (mA f)
 | .rng lo hi=>∃t u v,h.get? a=some {cls:=.type "range",data:=.fields #[.int lo t,.int hi u,.int 1 v]}
 | .frz o u=>h.get? a=some o/\fO H h a u
 | .tbl ps=>h.get? a=some {cls:=.none,data:=.fields ps}
 | .met f x=>h.get? a=some (PySem.W.methodObj (.ref f) (.ref x))
 | .ext φ=>φ h/\(∃o,h.get? a=some o)/\∀h1 h2:Heap,φ h1->(∀o,h1.get? a=some o->h2.get? a=some o)->φ h2
def Hd(H:Hp)(h:Heap):Prop:=∀a o,H a=some o->fO P w H h a o
end
section
variable{P:Program}{w:World}{H H':Hp}{h h':Heap}{a:Addr}{o:HO}
theorem fO.lt(x:fO P w H h a o):a<h.objs.size:=by
 cases o with
 | lst xs=>obtain⟨_,_,_,_,e⟩:=x;exact Heap.lt_size e
 | tup xs=>obtain⟨_,_,_,p⟩:=x;exact p.lt
 | dK kvs=>obtain⟨_,_,_,_,o,_,_,e,_⟩:=x;exact Heap.lt_size e
 | dT kvs=>obtain⟨_,_,_,_,o,_,_,e,_⟩:=x;exact Heap.lt_size e
 | set S n=>obtain⟨o,_,_,_,e,_⟩:=x;exact Heap.lt_size e
 | ins C dx fs=>obtain⟨_,_,_,e,_⟩:=x;exact Heap.lt_size e
 | own y=>obtain⟨_,e⟩:=x;exact Heap.lt_size e
 | xd fs=>obtain⟨_,⟨_,_,_,e,_⟩,_⟩:=x;exact Heap.lt_size e
 | rng lo hi=>obtain⟨_,_,_,e⟩:=x;exact Heap.lt_size e
 | frz ob u=>obtain⟨e,_⟩:=x;exact Heap.lt_size e
 | tbl ps=>exact Heap.lt_size (show h.get? a=some _ from x)
 | met f y=>exact Heap.lt_size (show h.get? a=some _ from x)
 | ext φ=>obtain⟨_,⟨_,e⟩,_⟩:=x;exact Heap.lt_size e
theorem Paired.aqD{α β:Type}{F G:α->β->Prop}:∀{l₁:List α} {l₂:List β},Paired F l₁ l₂->(∀a b,F a b->G a b)->Paired G l₁ l₂
 | _,_,.nil,_=>.nil
 | _,_,.cons r t,f=>.cons (f _ _ r) (Paired.aqD t f)
theorem fO.stay(x:fO P w H h a o)(k:∀b u,(b=a\/H b=some (.own a))->h.get? b=some u->h'.get? b=some u)
 (ho:∀b,H b=some (.own a)->H' b=some (.own a)) (ht:∀b xs,H b=some (.tup xs)->H' b=some (.tup xs)):fO P w H' h' a o:=by
 induction o with
 | lst xs=>obtain⟨z,its,n,r,e⟩:=x;exact⟨z,its,n,r,k _ _ (.inl rfl) e⟩
 | tup xs=>obtain⟨z,its,r,ob,e,c⟩:=x;exact⟨z,its,r,ob,k _ _ (.inl rfl) e,c⟩
 | dK kvs=>obtain⟨z,y,vs,r,ob,es,ep,e,c⟩:=x;exact⟨z,y,vs,r,ob,es,ep,k _ _ (.inl rfl) e,c⟩
 | dT kvs =>
   obtain⟨z,y,xs,r,ob,es,ep,e,c⟩:=x
   exact⟨z,y,xs,Paired.aqD r fun p q z=>⟨z.1,ht _ _ z.2.1,z.2.2⟩,ob,es,ep,k _ _ (.inl rfl) e,c⟩
 | set S n=>obtain⟨ob,es,ep,t,e,c⟩:=x;exact⟨ob,es,ep,t,k _ _ (.inl rfl) e,c⟩
 | ins C dx fs =>
   obtain⟨d,z,ne,e,mA,⟨od,es,ep,e2,c⟩,r⟩:=x
   exact⟨ho _ d,z,ne,k _ _ (.inl rfl) e,mA,⟨od,es,ep,k _ _ (.inr d) e2,c⟩,r⟩
 | own y=>obtain⟨ob,e⟩:=x;exact⟨ob,k _ _ (.inl rfl) e⟩
 | xd fs=>obtain⟨mA,⟨od,es,ep,e,c⟩,r⟩:=x;exact⟨mA,⟨od,es,ep,k _ _ (.inl rfl) e,c⟩,r⟩
 | rng lo hi=>obtain⟨t,u,v,e⟩:=x;exact⟨t,u,v,k _ _ (.inl rfl) e⟩
 | frz ob u ih=>obtain⟨e,q⟩:=x;exact⟨k _ _ (.inl rfl) e,ih q⟩
 | tbl ps =>
   have e:h.get? a=some {cls:=.none,data:=.fields ps}:=x
   show h'.get? a=some {cls:=.none,data:=.fields ps}
   exact k a _ (.inl rfl) e
 | met f y =>
   have e:h.get? a=some (PySem.W.methodObj (.ref f) (.ref y)):=x
   show h'.get? a=some (PySem.W.methodObj (.ref f) (.ref y))
   exact k a _ (.inl rfl) e
 | ext φ=>obtain⟨p,⟨o,e⟩,st⟩:=x;exact⟨st _ _ p fun o q=>k _ _ (.inl rfl) q,⟨o,k _ _ (.inl rfl) e⟩,st⟩
theorem Hd.lt(x:Hd P w H h)(e:H a=some o):a<h.objs.size:=(x a o e).lt
theorem Hd.fresh(x:Hd P w H h)(e:h.objs.size<=a):H a=none:=by
 cases q:H a with
 | none=>rfl
 | some u=>exact absurd (Nat.lt_of_lt_of_le (x.lt q) e) (Nat.lt_irrefl _)
theorem Hd.kept(x:Hd P w H h)(k:∀b u,h.get? b=some u->h'.get? b=some u):Hd P w H h':=fun a o e =>
 (x a o e).stay (fun b u _ q=>k b u q) (fun _ q=>q) fun _ _ q=>q
theorem Hd.laid(x:Hd P w H h)(k:∀b u,h.get? b=some u->h'.get? b=some u)(hp:h.objs.size<=a)(new:fO P w (upd H a o) h' a o):Hd P w (upd H a o) h':=fun b u e=>by
 have hn:=x.fresh hp
 by_cases hb:b=a
 ·subst hb;rw[aj]at e;cases e;exact new
 ·rw[az hb]at e
  exact(x b u e).stay (fun c v _ q=>k c v q) (fun c q=>by rw[az (aG q hn)];exact q) fun c xs q=>by rw[az (aG q hn)];exact q
end
def Rd(H:Hp)(a:Addr)(u:HO):Prop:=H a=some u\/∃o,H a=some (.frz o u)
theorem Rd.ok{P:Program}{w:World}{H:Hp}{h:Heap}{a:Addr}{u:HO}(r:Rd H a u)(x:Hd P w H h):fO P w H h a u:=by
 rcases r with r | ⟨o,r⟩
 ·exact x a u r
 ·obtain⟨_,q⟩:=x a _ r
  exact q
def Mut:Option HO->Prop
 | some (.lst _)=>True
 | some (.dK _)=>True
 | some (.dT _)=>True
 | some (.set _ _)=>True
 | some (.ins _ _ _)=>True
 | some (.ext _)=>True
 | _=>False
section
variable{P:Program}{w:World}{H:Hp}{h h':Heap}{x e:Addr}{o':HO}
theorem Hd.write(ok:Hd P w H h)(mu:Mut (H x))(he:e=x\/H e=some (.own x))(k:∀b u,b≠e->h.get? b=some u->h'.get? b=some u)(heo:∃u,h'.get? e=some u)
 (new:fO P w (upd H x o') h' x o'):Hd P w (upd H x o') h':=fun b u q=>by
 have aui:∀c y,H c=some (.own y)->c≠x:=fun c y r z=>by subst z;rw[r]at mu;exact mu
 have axu:∀c xs,H c=some (.tup xs)->c≠x:=fun c xs r z=>by subst z;rw[r]at mu;exact mu
 by_cases hb:b=x
 ·subst hb;rw[aj]at q;cases q;exact new
 ·rw[az hb]at q
  by_cases hbe:b=e
  ·have q':H b=some (.own x):=by
    rcases he with z | z
    ·exact absurd (hbe.trans z) hb
    ·rw[hbe];exact z
   rw[q]at q';cases q'
   obtain⟨v,hv⟩:=heo
   exact⟨v,by rw[hbe];exact hv⟩
  ·refine(ok b u q).stay (fun c v hc r=>k c v ?_ r) (fun c r=>by rw[az (aui c b r)];exact r) fun c xs r=>by rw[az (axu c xs r)];exact r
   rcases hc with rfl | hc
   ·exact hbe
   ·rintro rfl
    rcases he with z | z
    ·exact aui c b hc z
    ·rw[hc]at z;cases z;exact hb rfl
end
structure Un(fs ex:List Addr)(H H':Hp)(h h':Heap):Prop where
 keep:∀b o,h.get? b=some o->H b=none->b∉fs->b∉ex->h'.get? b=some o
 slot:∀b o,h.get? b=some o->H b=none->b∈fs->b∉ex->∃sl,h'.get? b=some {o with slots:=sl}
 free:∀b o,h.get? b=some o->H b=none->b∉ex->H' b=none
 there:∀b o,h.get? b=some o->b∉ex->∃o',h'.get? b=some o'
 tups:∀b xs,H b=some (.tup xs)->H' b=some (.tup xs)
 IK:∀b o u,H b=some (.frz o u)->H' b=some (.frz o u)
 Kr:∀b ps,H b=some (.tbl ps)->∃more,H' b=some (.tbl (ps++more))
section
variable{fs fs' ex ex':List Addr}{H H1 H2:Hp}{h h1 h2 h':Heap}{a x e:Addr}{o:HO}
theorem Un.any(u:Un fs ex H H1 h h1){b:Addr}{ob:Obj}(q:h.get? b=some ob)(n:H b=none)(hx:b∉ex):∃sl,h1.get? b=some {ob with slots:=sl}:=by
 by_cases hb:b∈fs
 ·exact u.slot b ob q n hb hx
 ·exact⟨ob.slots,u.keep b ob q n hb hx⟩
theorem Un.kept(k:∀b u,h.get? b=some u->h'.get? b=some u):Un fs ex H H h h' :=
 ⟨fun b ob q _ _ _=>k b ob q,fun b ob q _ _ _=>⟨ob.slots,k b ob q⟩,fun _ _ _ n _=>n,fun b ob q _=>⟨ob,k b ob q⟩,fun _ _ q=>q,fun _ _ _ q=>q,fun _ ps q=>⟨#[],by rw[q];simp⟩⟩
theorem Un.refl:Un fs ex H H h h:=Un.kept fun _ _ q=>q
theorem Un.laid(k:∀b u,h.get? b=some u->h'.get? b=some u)(hp:h.objs.size<=a)(hn:H a=none):Un fs ex H (upd H a o) h h' where
 keep:=fun b u q _ _ _=>k b u q
 slot:=fun b u q _ _ _=>⟨u.slots,k b u q⟩
 free:=fun b u q n _=>by rw[az (Nat.ne_of_lt (Nat.lt_of_lt_of_le (Heap.lt_size q) hp))];exact n
 there:=fun b u q _=>⟨u,k b u q⟩
 tups:=fun b xs q=>by rw[az (aG q hn)];exact q
 IK:=fun b u xs q=>by rw[az (aG q hn)];exact q
 Kr:=fun b ps q=>⟨#[],by rw[az (aG q hn),q];simp⟩
theorem Un.write(mu:Mut (H x))(he:e=x\/H e=some (.own x))(k:∀b u,b≠e->h.get? b=some u->h'.get? b=some u)(heo:∃u,h'.get? e=some u):Un fs ex H (upd H x o) h h':=by
 have hx:∀b,H b=none->b≠x:=fun b n z=>by subst z;rw[n]at mu;exact mu
 have hb:∀b,H b=none->b≠e:=fun b n z=>by
  subst z
  rcases he with r | r
  ·exact hx b n r
  ·rw[n]at r;cases r
 have hm:∀b u,H b=some u->¬Mut (some u)->b≠x:=fun b u q nm z=>by subst z;rw[q]at mu;exact nm mu
 refine⟨fun b u q n _ _=>k b u (hb b n) q,fun b u q n _ _=>⟨u.slots,k b u (hb b n) q⟩,fun b u q n _=>by rw[az (hx b n)];exact n,fun b u q _=>?_,
  fun b xs q=>by rw[az (hm b _ q fun z=>z)];exact q,fun b u xs q=>by rw[az (hm b _ q fun z=>z)];exact q,fun b ps q=>⟨#[],by rw[az (hm b _ q fun z=>z),q];simp⟩⟩
 by_cases hbe:b=e
 ·subst hbe;exact heo
 ·exact⟨u,k b u hbe q⟩
end
def trk(h:Heap)(H:Hp):List Addr:=(List.range h.objs.size).filter fun a=>(H a).isSome
def ab8(h:Heap)(H:Hp):Heap:=PySem.W.hideAll h (trk h H)
theorem ajL(h:Heap)(H:Hp):(ab8 h H).objs.size=h.objs.size:=PySem.W.hideAll_size _ _
theorem akT{h:Heap}{H:Hp}{b:Addr}{o:Obj}(e:h.get? b=some o)(n:H b=none):(ab8 h H).get? b=some o :=
 PySem.W.hideAll_get _ e fun hm=>by
  have q:(H b).isSome=true:=(List.mem_filter.mp hm).2
  rw[n]at q;simp at q
theorem anp{h:Heap}{H:Hp}{b:Addr}{o:Obj}(e:(ab8 h H).get? b=some o):h.get? b=some o/\H b=none:=by
 have e':h.get? b=some o:=PySem.W.of_hideAll (trk h H) e
 refine⟨e',?_⟩
 cases q:H b with
 | none=>rfl
 | some x =>
   have hm:b∈trk h H:=List.mem_filter.mpr ⟨List.mem_range.mpr (Heap.lt_size e'),by simp[q]⟩
   have z:(ab8 h H).get? b=none:=PySem.W.hideAll_none (trk h H) hm
   rw[z]at e;cases e
end L2
namespace L2
open PySem PySem.Spec PyProof.Rows
structure Mod(K:PySem.W.Frag)(mg:Str->Option Value)(base:Heap):Prop where
 kin:K.In base
 glob:base.Ns mainGlobals mg
 blt:∃mb,base.Ns builtinsNs mb/\∀x:Str,x≠"__name__"->mb x=bootBuiltins x
 nolimit:base.NoLimit
structure Cx where
 prog:Program
 w:World
 K:PySem.W.Frag
 mg:Str->Option Value
 base:Heap
 A:Around
 N:List Str
 s₀:Shared
 H₀:Hp
 env:Env
 outer:List Env
 stack:List Env
 ex:List Addr
 fn:Str->Bool
 calm:Bool
 pn:List (Addr×Obj)
 xe:Value->Shared->Prop
def frs(l:List Env):List Addr:=l.filterMap (·.frame)
abbrev Cx.fs(X:Cx):List Addr:=frs X.outer
def Vis(sc:Scope)(x:Str):Prop:=sc.names.lookup x=some .local\/sc.names.lookup x=some .cell\/sc.names.lookup x=some .free
def Loc(sc:Scope)(x:Str):Prop:=sc.names.lookup x=some .local\/sc.names.lookup x=some .cell
def Look(env:Env)(h:Heap)(m:Str->Option Value)(x:Str)(u:Value):Prop :=
 (env.kindOf x=some .local/\m x=some u)\/((env.kindOf x=some .cell\/env.kindOf x=some .free)/\∃c,env.cells.lookup x=some c/\h.IsCell c (some u))
structure Cx.Ok(X:Cx):Prop where
 mod:Mod X.K X.mg X.base
 kind:X.env.scope.kind=.function
 glob:X.env.globals=mainGlobals
 blt:X.env.builtins=builtinsNs
 above:X.s₀.heap.objs.size<=X.env.locals
 inj:∀x y c,X.env.cells.lookup x=some c->X.env.cells.lookup y=some c->x=y
 has:∀x,(X.env.kindOf x=some .cell\/X.env.kindOf x=some .free)->∃c,X.env.cells.lookup x=some c
 cab:∀x c,X.fn x=true->X.env.cells.lookup x=some c->X.s₀.heap.objs.size<=c
 hd:X.calm=true->X.A.handled=none
 frames:X.A.frames=some X.stack
 stk:X.stack=X.outer\/(X.stack=X.env::X.outer/\X.env.frame=some X.env.locals)
 exf:∀b∈X.ex,b≠X.env.locals/\∀x c,X.env.cells.lookup x=some c->c≠b
 bs:∀b o,X.base.get? b=some o->X.s₀.heap.get? b=some o/\X.H₀ b=none
 bsz:X.base.objs.size<=X.s₀.heap.objs.size
 afa:∀b o,X.base.get? b=some o->b∉X.ex
 ahp:∀b∈X.ex,b∉X.fs
 IV:X.s₀.heap.FunFrames X.base X.outer
 frf:∀b∈X.fs,X.H₀ b=none
structure Inv(X:Cx)(pins:List (Addr×Obj))(σ:List (Option V))(H:Hp)(s:Shared):Prop where
 ok:X.Ok
 os:s.os=X.s₀.os
 bare:AllBare s.gens
 base:Un X.fs X.ex X.H₀ H X.s₀.heap s.heap
 loc:∃m,s.heap.Ns X.env.locals m/\∀(i:Nat) (x:Str) (v:V),X.N[i]? = some x->σ[i]? = some (some v)->Vis X.env.scope x->∃u,RelV v u/\Look X.env s.heap m x u
 cell:∀x c,X.env.cells.lookup x=some c->∃v,s.heap.IsCell c v
 free:H X.env.locals=none
 uC:∀x c,X.env.cells.lookup x=some c->H c=none
 pin:∀p∈X.pn++pins,s.heap.get? p.1=some p.2/\H p.1=none/\p.1≠X.env.locals/\p.1∉X.fs/\∀v,p.2.data≠.cell v
 hok:Hd X.prog X.w H s.heap
 len:σ.length=X.N.length
section
variable{X:Cx}{pins:List (Addr×Obj)}{σ:List (Option V)}{H H':Hp}{s:Shared}{h':Heap}
theorem Cx.Ok.axv(ok:X.Ok){b:Addr}{o:Obj}(e:X.base.get? b=some o):b∉X.fs:=fun hb=>by
 have:=(ok.IV.mem hb).1
 rw[e]at this;cases this
theorem Inv.bs(I:Inv X pins σ H s):∀b o,X.base.get? b=some o->s.heap.get? b=some o/\H b=none:=fun b o e =>
 ⟨I.base.keep b o (I.ok.bs b o e).1 (I.ok.bs b o e).2 (I.ok.axv e) (I.ok.afa b o e),I.base.free b o (I.ok.bs b o e).1 (I.ok.bs b o e).2 (I.ok.afa b o e)⟩
theorem Inv.bk(I:Inv X pins σ H s):∀b o,X.base.get? b=some o->s.heap.get? b=some o:=fun b o e=>(I.bs b o e).1
theorem Inv.mod(I:Inv X pins σ H s):Mod X.K X.mg X.base:=I.ok.mod
theorem Inv.wR(I:Inv X pins σ H s):X.K.In s.heap:=I.ok.mod.kin.keeps I.bk
theorem Inv.lt(I:Inv X pins σ H s):X.env.locals<s.heap.objs.size:=let ⟨_,hn,_⟩:=I.loc;hn.lt
theorem Inv.sz(I:Inv X pins σ H s):X.s₀.heap.objs.size<=s.heap.objs.size:=Nat.le_trans I.ok.above (Nat.le_of_lt I.lt)
theorem Inv.axw(I:Inv X pins σ H s){a:Addr}(h:s.heap.objs.size<=a):a∉X.fs:=fun hb=>by
 obtain⟨_,o,ho,_⟩:=I.ok.IV.mem hb
 exact absurd (Nat.lt_of_lt_of_le (Heap.lt_size ho) (Nat.le_trans I.sz h)) (Nat.lt_irrefl _)
theorem Inv.cne(I:Inv X pins σ H s):∀x c,X.env.cells.lookup x=some c->c≠X.env.locals:=fun x c e z=>by
 obtain⟨v,o,ho,hd⟩:=I.cell x c e
 obtain⟨m,⟨o',es,ep,ho',hd',_⟩,_⟩:=I.loc
 rw[z,ho']at ho;cases ho;rw[hd']at hd;cases hd
theorem Inv.IV(I:Inv X pins σ H s):s.heap.FunFrames X.base X.outer:=by
 have all:∀(l:List Env),(∀b∈frs l,b∈X.fs)->X.s₀.heap.FunFrames X.base l->s.heap.FunFrames X.base l:=by
  intro l
  induction l with
  | nil=>intro _ _;trivial
  | cons env r ih =>
    intro hs hl
    obtain⟨hk,⟨L,o,hf,hn,ho,hd⟩,hr⟩:=hl
    have hL:L∈X.fs:=hs L (by unfold frs;rw[List.filterMap_cons,hf];exact List.mem_cons_self)
    obtain⟨sl,e⟩:=I.base.slot L o ho (I.ok.frf L hL) hL fun z=>I.ok.ahp L z hL
    exact⟨hk,⟨L,_,hf,hn,e,hd⟩,ih (fun b hb=>hs b (by unfold frs;rw[List.filterMap_cons,hf];exact List.mem_cons_of_mem _ hb)) hr⟩
 exact all X.outer (fun _ hb=>hb) I.ok.IV
theorem Inv.stack(I:Inv X pins σ H s):s.heap.FunFrames X.base X.stack:=by
 rcases I.ok.stk with e | ⟨e,hf⟩
 ·rw[e];exact I.IV
 ·rw[e]
  obtain⟨m,hn,_⟩:=I.loc
  refine .cons (by rw[I.ok.kind];decide) hf hn ?_ I.IV
  exact Heap.get?_none_of_le (Nat.le_trans I.ok.bsz I.ok.above)
theorem Inv.V5(I:Inv X pins σ H s):∀b∈frs X.stack,b∈X.env.locals::X.fs:=fun b hb=>by
 rcases I.ok.stk with e | ⟨e,hf⟩
 ·rw[e]at hb;exact List.mem_cons_of_mem _ hb
 ·rw[e]at hb
  unfold frs at hb
  rw[List.filterMap_cons,hf]at hb
  exact hb
theorem Inv.ab9(I:Inv X pins σ H s):∀b∈frs X.stack,H b=none:=fun b hb=>by
 rcases List.mem_cons.mp (I.V5 b hb)with e | hb
 ·rw[e];exact I.free
 ·obtain⟨_,o,ho,_⟩:=I.ok.IV.mem hb
  exact I.base.free b o ho (I.ok.frf b hb) fun z=>I.ok.ahp b z hb
theorem Inv.step{g':Array GenState}{t':Nat}{d':Drawn}{ch:List Addr}(I:Inv X pins σ H s)
 (hch:∀b∈ch,(b∈X.ex\/X.s₀.heap.objs.size<=b)/\b≠X.env.locals/\(∀x c,X.env.cells.lookup x=some c->c≠b)/\∀p∈X.pn++pins,p.1≠b)
 (keep:∀b o,b≠X.env.locals->b∉X.fs->b∉ch->s.heap.get? b=some o->H b=none->h'.get? b=some o)
 (slot:∀b o,b≠X.env.locals->b∈X.fs->b∉ch->s.heap.get? b=some o->H b=none->∃sl,h'.get? b=some {o with slots:=sl}) (free:∀b o,b∉ch->s.heap.get? b=some o->H b=none->H' b=none)
 (there:∀b o,b∉ch->s.heap.get? b=some o->∃o',h'.get? b=some o')
 (tups:∀b xs,H b=some (.tup xs)->H' b=some (.tup xs)) (IK:∀b o u,H b=some (.frz o u)->H' b=some (.frz o u)) (Kr:∀b ps,H b=some (.tbl ps)->∃more,H' b=some (.tbl (ps++more)))
 (ns:∀m,s.heap.Ns X.env.locals m->h'.Ns X.env.locals m) (hok:Hd X.prog X.w H' h') (hg:AllBare g') :
 Inv X pins σ H' {s with heap:=h',gens:=g',drawn:=d',toks:=t'}:=by
 have neL:∀b o,X.s₀.heap.get? b=some o->b≠X.env.locals:=fun b o e=>Nat.ne_of_lt (Nat.lt_of_lt_of_le (Heap.lt_size e) I.ok.above)
 have neC:∀b o,X.s₀.heap.get? b=some o->b∉X.ex->b∉ch:=fun b o e hx hb=>by
  rcases (hch b hb).1 with z | z
  ·exact hx z
  ·exact absurd (Nat.lt_of_lt_of_le (Heap.lt_size e) z) (Nat.lt_irrefl _)
 have cellK:∀x c,X.env.cells.lookup x=some c->∀v,s.heap.IsCell c v->h'.IsCell c v:=fun x c e v ⟨o,ho,hd⟩=>by
  have nch:c∉ch:=fun z=>(hch c z).2.2.1 x c e rfl
  by_cases hc:c∈X.fs
  ·obtain⟨sl,q⟩:=slot c o (I.cne x c e) hc nch ho (I.uC x c e)
   exact⟨_,q,hd⟩
  ·exact⟨o,keep c o (I.cne x c e) hc nch ho (I.uC x c e),hd⟩
 refine⟨I.ok,I.os,hg,⟨fun b o e n hb hx=>?_,fun b o e n hb hx=>?_,fun b o e n hx=>?_,fun b o e hx=>?_,fun b xs e=>tups b xs (I.base.tups b xs e),fun b o xs e=>IK b o xs (I.base.IK b o xs e),fun b ps e=>?_⟩,?_,fun x c e=>?_,?_,fun x c e=>?_,fun p hp=>?_,hok,I.len⟩
 ·exact keep b o (neL b o e) hb (neC b o e hx) (I.base.keep b o e n hb hx) (I.base.free b o e n hx)
 ·obtain⟨sl,e1⟩:=I.base.slot b o e n hb hx
  obtain⟨sl',e2⟩:=slot b _ (neL b o e) hb (neC b o e hx) e1 (I.base.free b o e n hx)
  exact⟨sl',e2⟩
 ·obtain⟨o',e1⟩:=I.base.there b o e hx
  exact free b o' (neC b o e hx) e1 (I.base.free b o e n hx)
 ·obtain⟨o',e1⟩:=I.base.there b o e hx
  exact there b o' (neC b o e hx) e1
 ·obtain⟨m1,e1⟩:=I.base.Kr b ps e
  obtain⟨m2,e2⟩:=Kr b _ e1
  exact⟨m1++m2,by rw[e2,Array.append_assoc]⟩
 ·obtain⟨m,hn,hl⟩:=I.loc
  refine⟨m,ns m hn,fun i x v e1 e2 e3=>?_⟩
  obtain⟨u,r,l⟩:=hl i x v e1 e2 e3
  refine⟨u,r,?_⟩
  rcases l with l | ⟨k,c,e,z⟩
  ·exact .inl l
  ·exact .inr ⟨k,c,e,cellK x c e _ z⟩
 ·obtain⟨v,z⟩:=I.cell x c e
  exact⟨v,cellK x c e v z⟩
 ·obtain⟨m,⟨o,_,_,ho,_⟩,_⟩:=I.loc
  exact free _ o (fun z=>(hch _ z).2.1 rfl) ho I.free
 ·obtain⟨v,o,ho,hd⟩:=I.cell x c e
  exact free c o (fun z=>(hch c z).2.2.1 x c e rfl) ho (I.uC x c e)
 ·obtain⟨e,n,ne,nf,d⟩:=I.pin p hp
  have nch:p.1∉ch:=fun z=>(hch p.1 z).2.2.2 p hp rfl
  exact⟨keep p.1 p.2 ne nf nch e n,free p.1 p.2 nch e n,ne,nf,d⟩
theorem Inv.un{t':Nat}(I:Inv X pins σ H s)(u:Un X.fs [] H H' s.heap h')(hok:Hd X.prog X.w H' h'):Inv X pins σ H' {s with heap:=h',toks:=t'}:=by
 obtain⟨m,⟨o,es,ep,ho,r⟩,_⟩:=id I.loc
 obtain⟨sl,hL⟩:=u.any ho I.free (by simp)
 exact I.step (g':=s.gens) (d':=s.drawn) (ch:=[]) (fun _ z=>nomatch z) (fun b o _ hb _ e n=>u.keep b o e n hb (by simp)) (fun b o _ hb _ e n=>u.slot b o e n hb (by simp)) (fun b o _ e n=>u.free b o e n (by simp)) (fun b o _ e=>u.there b o e (by simp)) u.tups u.IK u.Kr (fun m' hm=>by
  obtain⟨o',es',ep',ho',r'⟩:=hm
  rw[ho]at ho';cases ho'
  exact⟨_,es',ep',hL,r'⟩) hok I.bare
theorem Inv.call{g':Array GenState}{t':Nat}{d':Drawn}{ch:List Addr}(I:Inv X pins σ H s)(u:Un (frs X.stack) ch H H' s.heap h')(hok:Hd X.prog X.w H' h')(hg:AllBare g')
 (hch:∀b∈ch,(b∈X.ex\/X.s₀.heap.objs.size<=b)/\b≠X.env.locals/\(∀x c,X.env.cells.lookup x=some c->c≠b)/\∀p∈X.pn++pins,p.1≠b) :
 Inv X pins σ H' {s with heap:=h',gens:=g',drawn:=d',toks:=t'}:=by
 obtain⟨m,⟨o,es,ep,ho,r⟩,_⟩:=id I.loc
 obtain⟨sl,hL⟩:=u.any ho I.free fun z=>(hch _ z).2.1 rfl
 exact I.step (ch:=ch) hch (fun b o hL hb hc e n=>u.keep b o e n (fun z=>(List.mem_cons.mp (I.V5 b z)).elim hL hb) hc) (fun b o _ _ hc e n=>u.any e n hc) (fun b o hc e n=>u.free b o e n hc) (fun b o hc e=>u.there b o e hc) u.tups u.IK u.Kr (fun m' hm=>by
  obtain⟨o',es',ep',ho',r'⟩:=hm
  rw[ho]at ho';cases ho'
  exact⟨_,es',ep',hL,r'⟩) hok hg
theorem Inv.turned{t':Nat}{it:Addr}(I:Inv X pins σ H s)(k:∀b o,b≠it->s.heap.get? b=some o->h'.get? b=some o)(hn:H it=none)(hL:it≠X.env.locals)
 (h1:it∈X.ex\/X.s₀.heap.objs.size<=it) (h2:∀x c,X.env.cells.lookup x=some c->c≠it) (h3:∀p∈X.pn++pins,p.1≠it):Inv X pins σ H {s with heap:=h',toks:=t'}:=by
 have nit:∀b u,H b=some u->b≠it:=fun b u e z=>by rw[z,hn]at e;cases e
 refine I.step (g':=s.gens) (d':=s.drawn) (ch:=[it]) (fun b hb=>?_) (fun b o _ _ hc e _=>k b o (fun z=>hc (by simp[z])) e) (fun b o _ _ hc e _=>⟨o.slots,k b o (fun z=>hc (by simp[z])) e⟩) (fun _ _ _ _ n=>n)
  (fun b o hc e=>⟨o,k b o (fun z=>hc (by simp[z])) e⟩) (fun _ _ e=>e) (fun _ _ _ e=>e) (fun b ps e=>⟨#[],by rw[e];simp⟩) (fun m hm=>?_) (fun b u e=>?_) I.bare
 ·have e:b=it:=by simpa using hb
  subst e
  exact⟨h1,hL,h2,h3⟩
 ·obtain⟨o,es,ep,ho,r⟩:=hm
  exact⟨o,es,ep,k _ o (Ne.symm hL) ho,r⟩
 ·refine(I.hok b u e).stay (fun c v hc q=>k c v ?_ q) (fun _ q=>q) fun _ _ q=>q
  rcases hc with z | z
  ·rw[z];exact nit b u e
  ·exact nit c _ z
theorem Inv.tok(I:Inv X pins σ H s)(t:Nat):Inv X pins σ H {s with toks:=t}:=I.un (h':=s.heap) (t':=t) Un.refl I.hok
theorem Inv.kept{t':Nat}(I:Inv X pins σ H s)(k:∀b u,s.heap.get? b=some u->h'.get? b=some u):Inv X pins σ H {s with heap:=h',toks:=t'}:=I.un (Un.kept k) (I.hok.kept k)
theorem Inv.laid{a:Addr}{o:HO}{t':Nat}(I:Inv X pins σ H s)(k:∀b u,s.heap.get? b=some u->h'.get? b=some u)(hp:s.heap.objs.size<=a)(new:fO X.prog X.w (upd H a o) h' a o) :
 Inv X pins σ (upd H a o) {s with heap:=h',toks:=t'}:=I.un (Un.laid k hp (I.hok.fresh hp)) (I.hok.laid k hp new)
theorem Inv.write{x e:Addr}{o:HO}{t':Nat}(I:Inv X pins σ H s)(mu:Mut (H x))(he:e=x\/H e=some (.own x))(k:∀b u,b≠e->s.heap.get? b=some u->h'.get? b=some u)(heo:∃u,h'.get? e=some u)
 (new:fO X.prog X.w (upd H x o) h' x o):Inv X pins σ (upd H x o) {s with heap:=h',toks:=t'}:=I.un (Un.write mu he k heo) (I.hok.write mu he k heo new)
theorem Inv.aiL{akW:List (Addr×Obj)}(I:Inv X pins σ H s)(h:∀p∈akW,s.heap.get? p.1=some p.2/\H p.1=none/\p.1≠X.env.locals/\p.1∉X.fs/\∀v,p.2.data≠.cell v):Inv X akW σ H s :=
 ⟨I.ok,I.os,I.bare,I.base,I.loc,I.cell,I.free,I.uC,fun p hp=>(List.mem_append.mp hp).elim (fun z=>I.pin p (List.mem_append_left _ z)) (h p),I.hok,I.len⟩
theorem afb{N:List Str}(hN:N.Nodup){i j:Nat}{x:Str}(a:N[i]? = some x)(b:N[j]? = some x):i=j:=by
 obtain⟨h1,e1⟩:=List.getElem?_eq_some_iff.mp a
 obtain⟨h2,e2⟩:=List.getElem?_eq_some_iff.mp b
 exact(List.getElem_inj hN).mp (e1.trans e2.symm)
theorem abr{M:Model}{A:Around}{E:Value->Shared->Prop}{i:Nat}{x:Str}{v:V}{u:Value}{Q:Unit->Shared->Prop}(I:Inv X pins σ H s)(hN:X.N.Nodup)(hi:X.N[i]? = some x)(hx:Loc X.env.scope x)(r:RelV v u)
 (h:∀s',Inv X pins (σ.set i (some v)) H s'->(∃a,Heap.SameBut a s.heap s'.heap/\(a=X.env.locals\/X.env.cells.lookup x=some a))->Q () s') (hf:X.fn x=true\/X.env.scope.names.lookup x=some .local:=by first | exact .inl rfl | exact .inr rfl | assumption):wpAny M A (storeName X.env x u) Q E s:=by
 obtain⟨m,hn,hl⟩:=id I.loc
 have hcls:(X.env.scope.kind == .class || (X.env.scope.kind == .module && X.env.locals != X.env.globals))=false:=by rw[I.ok.kind];rfl
 have hiσ:i<σ.length:=by rw[I.len];exact(List.getElem?_eq_some_iff.mp hi).1
 have cne:=I.cne
 have tracked:∀{a:Addr} {h':Heap},(∃o,s.heap.get? a=some o/\H a=none)->Heap.SameBut a s.heap h'->Hd X.prog X.w H h':=fun {a h'} ha hs b ob e=>by
  obtain⟨_,_,hfree⟩:=ha
  refine(I.hok b ob e).stay (fun c w' hc q=>(hs.2 c ?_).trans q) (fun _ q=>q) fun _ _ q=>q
  rintro rfl
  rcases hc with rfl | hc
  ·rw[hfree]at e;cases e
  ·rw[hfree]at hc;cases hc
 rcases hx with hk | hk
 ·refine wpAny_storeName_local hk hn (fun h' hn' hs=>?_) hcls
  obtain⟨oL,_,_,hoL,_⟩:=id hn
  refine h _ ⟨I.ok,I.os,I.bare,⟨fun b o e n hb hx=>?_,fun b o e n hb hx=>?_,I.base.free,fun b o e hx=>?_,I.base.tups,I.base.IK,I.base.Kr⟩,⟨_,hn',fun j y v' e1 e2 e3=>?_⟩,fun y c e=>?_,I.free,I.uC,fun p hp=>?_,tracked ⟨oL,hoL,I.free⟩ hs,by simpa using I.len⟩ ⟨_,hs,.inl rfl⟩
  ·exact(hs.2 b (Nat.ne_of_lt (Nat.lt_of_lt_of_le (Heap.lt_size e) I.ok.above))).trans (I.base.keep b o e n hb hx)
  ·obtain⟨sl,e1⟩:=I.base.slot b o e n hb hx
   exact⟨sl,(hs.2 b (Nat.ne_of_lt (Nat.lt_of_lt_of_le (Heap.lt_size e) I.ok.above))).trans e1⟩
  ·obtain⟨o',e1⟩:=I.base.there b o e hx
   exact⟨o',(hs.2 b (Nat.ne_of_lt (Nat.lt_of_lt_of_le (Heap.lt_size e) I.ok.above))).trans e1⟩
  ·by_cases hj:j=i
   ·subst hj
    rw[hi]at e1;cases e1
    rw[List.getElem?_set_self hiσ]at e2
    cases e2
    exact⟨u,r,.inl ⟨hk,by simp⟩⟩
   ·rw[List.getElem?_set_ne (Ne.symm hj)]at e2
    obtain⟨u',r',q⟩:=hl j y v' e1 e2 e3
    refine⟨u',r',?_⟩
    rcases q with ⟨k,e⟩ | ⟨k,c,e,z⟩
    ·refine .inl ⟨k,?_⟩
     have:y≠x:=fun e=>hj (afb hN e1 (e▸hi))
     simp[this,e]
    ·exact .inr ⟨k,c,e,z.sameBut hs (cne y c e)⟩
  ·obtain⟨w',z⟩:=I.cell y c e
   exact⟨w',z.sameBut hs (cne y c e)⟩
  ·obtain⟨e,n,ne,nf,d⟩:=I.pin p hp
   exact⟨(hs.2 p.1 ne).trans e,n,ne,nf,d⟩
 ·have hfn:X.fn x=true:=by
   rcases hf with z | z
   ·exact z
   ·rw[z]at hk;cases hk
  obtain⟨c,hc⟩:=I.ok.has x (.inl hk)
  obtain⟨w',z⟩:=I.cell x c hc
  refine wpAny_storeName_cell I.ok.kind hk hc z (fun h' hc' hs=>?_)
  obtain⟨oc,hoc,axx⟩:=id z
  refine h {s with heap:=h'} ⟨I.ok,I.os,I.bare,⟨fun b o e n hb hx=>?_,fun b o e n hb hx=>?_,I.base.free,fun b o e hx=>?_,I.base.tups,I.base.IK,I.base.Kr⟩,⟨m,hn.sameBut hs (Ne.symm (cne x c hc)),fun j y v' e1 e2 e3=>?_⟩,fun y c' e=>?_,I.free,I.uC,fun p hp=>?_,tracked ⟨oc,hoc,I.uC x c hc⟩ hs,by simpa using I.len⟩ ⟨c,hs,.inr hc⟩
  ·exact(hs.2 b (Nat.ne_of_lt (Nat.lt_of_lt_of_le (Heap.lt_size e) (I.ok.cab x c hfn hc)))).trans (I.base.keep b o e n hb hx)
  ·obtain⟨sl,e1⟩:=I.base.slot b o e n hb hx
   exact⟨sl,(hs.2 b (Nat.ne_of_lt (Nat.lt_of_lt_of_le (Heap.lt_size e) (I.ok.cab x c hfn hc)))).trans e1⟩
  ·obtain⟨o',e1⟩:=I.base.there b o e hx
   exact⟨o',(hs.2 b (Nat.ne_of_lt (Nat.lt_of_lt_of_le (Heap.lt_size e) (I.ok.cab x c hfn hc)))).trans e1⟩
  ·by_cases hj:j=i
   ·subst hj
    rw[hi]at e1;cases e1
    rw[List.getElem?_set_self hiσ]at e2
    cases e2
    exact⟨u,r,.inr ⟨.inl hk,c,hc,hc'⟩⟩
   ·rw[List.getElem?_set_ne (Ne.symm hj)]at e2
    obtain⟨u',r',q⟩:=hl j y v' e1 e2 e3
    refine⟨u',r',?_⟩
    rcases q with q | ⟨k,c',e,z'⟩
    ·exact .inl q
    ·refine .inr ⟨k,c',e,z'.sameBut hs ?_⟩
     rintro rfl
     exact hj (afb hN e1 (I.ok.inj _ _ _ e hc▸hi))
  ·by_cases hcc:c'=c
   ·subst hcc;exact⟨_,hc'⟩
   ·obtain⟨w2,z2⟩:=I.cell y c' e
    exact⟨w2,z2.sameBut hs hcc⟩
  ·obtain⟨e,n,ne,nf,d⟩:=I.pin p hp
   refine⟨(hs.2 p.1 ?_).trans e,n,ne,nf,d⟩
   intro q
   rw[q,hoc]at e
   have q':oc=p.2:=Option.some.inj e
   exact d w' (by rw[<-q'];exact axx)
theorem afc{M:Model}{A:Around}{E:Value->Shared->Prop}{i:Nat}{x:Str}{v:V}{u:Value}{Q:Unit->Shared->Prop}(I:Inv X pins σ H s)(hN:X.N.Nodup)(hi:X.N[i]? = some x)(hx:Loc X.env.scope x)(r:RelV v u)
 (h:∀s',Inv X pins (σ.set i (some v)) H s'->Q () s') (hf:X.fn x=true\/X.env.scope.names.lookup x=some .local:=by first | exact .inl rfl | exact .inr rfl | assumption):wpAny M A (storeName X.env x u) Q E s :=
 abr I hN hi hx r (fun s' I' _=>h s' I') hf
theorem Inv.call'{s':Shared}{ch:List Addr}(I:Inv X pins σ H s)(ho:s'.os=s.os)(u:Un (frs X.stack) ch H H' s.heap s'.heap)(hok:Hd X.prog X.w H' s'.heap)(hg:AllBare s'.gens)
 (hch:∀b∈ch,(b∈X.ex\/X.s₀.heap.objs.size<=b)/\b≠X.env.locals/\(∀x c,X.env.cells.lookup x=some c->c≠b)/\∀p∈X.pn++pins,p.1≠b):Inv X pins σ H' s':=by
 obtain⟨h',g',d',t',o'⟩:=s'
 have e:o'=s.os:=ho
 subst e
 exact I.call (g':=g') (t':=t') (d':=d') u hok hg hch
end
abbrev XK:=Value->Option Addr->Hp->Prop
abbrev St:=List (Option V)
abbrev VK:=V->Hp->Prop
abbrev TE:=St->Hp->VK->Prop
abbrev TT:=St->Hp->(Bool->Hp->Prop)->Prop
abbrev TA:=St->Hp->(List V->Hp->Prop)->Prop
structure Ends where
 nx:St->Hp->Prop
 rt:VK
 bk:St->Hp->Prop:=fun _ _=>False
 ct:St->Hp->Prop:=fun _ _=>False
abbrev TS:=Ends->St->Hp->Prop
def EP(X:Cx)(pins:List (Addr×Obj))(σ:St)(Q:VK)(u:Value)(s':Shared):Prop:=∃v H',Inv X pins σ H' s'/\RelV v u/\Q v H'
def TP(X:Cx)(pins:List (Addr×Obj))(σ:St)(Q:Bool->Hp->Prop)(b:Bool)(s':Shared):Prop:=∃H',Inv X pins σ H' s'/\Q b H'
def AP(X:Cx)(pins:List (Addr×Obj))(σ:St)(Q:List V->Hp->Prop)(us:List Value)(s':Shared):Prop:=∃vs H',Inv X pins σ H' s'/\Vals vs us/\Q vs H'
def SP(X:Cx)(pins:List (Addr×Obj))(D:Ends)(f:Flow)(s':Shared):Prop :=
 match f with
 | .next=>∃σ' H',Inv X pins σ' H' s'/\D.nx σ' H'
 | .brk=>∃σ' H',Inv X pins σ' H' s'/\D.bk σ' H'
 | .cont=>∃σ' H',Inv X pins σ' H' s'/\D.ct σ' H'
 | .ret u=>∃v σ' H',Inv X pins σ' H' s'/\RelV v u/\D.rt v H'
def PE(X:Cx)(e:Expr)(t:TE):Prop :=
 ∀(pins:List (Addr×Obj)) (s:Shared) (σ:St) (H:Hp) (Q:VK),Inv X pins σ H s->t σ H Q->wpAny (model X.prog X.w) X.A (eval e X.env) (EP X pins σ Q) X.xe s
def PT(X:Cx)(e:Expr)(t:TT):Prop :=
 ∀(pins:List (Addr×Obj)) (s:Shared) (σ:St) (H:Hp) (Q:Bool->Hp->Prop),Inv X pins σ H s->t σ H Q->wpAny (model X.prog X.w) X.A (isTrue e X.env (eval e X.env)) (TP X pins σ Q) X.xe s
def PW(X:Cx)(e:Expr)(t:TT):Prop :=
 ∀(whole:Sem Value) (pins:List (Addr×Obj)) (s:Shared) (σ:St) (H:Hp) (Q:Bool->Hp->Prop),Inv X pins σ H s->t σ H Q->wpAny (model X.prog X.w) X.A (isTrue e X.env whole) (TP X pins σ Q) X.xe s
theorem PW.pt{X:Cx}{e:Expr}{t:TT}(h:PW X e t):PT X e t:=h _
def PA(X:Cx)(es:List Expr)(t:TA):Prop :=
 ∀(pos:Pos) (pins:List (Addr×Obj)) (s:Shared) (σ:St) (H:Hp) (Q:List V->Hp->Prop),Inv X pins σ H s->t σ H Q->wpAny (model X.prog X.w) X.A (spliced (backTo pos (starEach es X.env))) (AP X pins σ Q) X.xe s
def PS(X:Cx)(st:Stmt)(t:TS):Prop :=
 ∀(pins:List (Addr×Obj)) (s:Shared) (σ:St) (H:Hp) (D:Ends),Inv X pins σ H s->t D σ H->wpAny (model X.prog X.w) X.A (exec st X.env) (SP X pins D) X.xe s
def PSs(X:Cx)(st:List Stmt)(t:TS):Prop :=
 ∀(pins:List (Addr×Obj)) (s:Shared) (σ:St) (H:Hp) (D:Ends),Inv X pins σ H s->t D σ H->wpAny (model X.prog X.w) X.A (execs st X.env) (SP X pins D) X.xe s
theorem gf{α:Type}{t:Sem α}{Q Q':α->Shared->Prop}{M:Model}{A:Around}{E:Value->Shared->Prop}{s:Shared}(h:wpAny M A t Q E s)(hQ:∀a s,Q a s->Q' a s):wpAny M A t Q' E s:=wpAny_mono h hQ fun _ _ x=>x
end L2
namespace L2
open PySem PySem.Spec PyProof.Rows
section
variable{X:Cx}
def jf(i:Nat):TE:=fun σ H Q=>∃v,σ[i]? = some (some v)/\Q v H
def tC(v:V):TE:=fun _ H Q=>Q v H
theorem aqG{i:Nat}{x:Str}{pos:Pos}(hN:X.N[i]? = some x)(hv:Vis X.env.scope x)(hd:(x == ("__debug__":Str))=false:=by decide) (hcd:(x == ("__classdict__":Str))=false:=by decide):PE X (.Name x pos) (jf i):=by
 intro pins s σ H Q I h
 obtain⟨v,e,h⟩:=h
 obtain⟨m,hn,hl⟩:=I.loc
 obtain⟨u,r,l⟩:=hl i x v hN e hv
 have fin:EP X pins σ Q u s:=⟨v,H,I,r,h⟩
 rcases l with ⟨hk,hm⟩ | ⟨hk,c,hc,hcell⟩
 ·exact wpAny_Name (wpAny_loadName_local I.ok.kind hk hn hm fin) hd
 ·rcases hk with hk | hk
  ·exact wpAny_Name (wpAny_loadName_cell I.ok.kind hk hc hcell fin) hd
  ·exact wpAny_Name (wpAny_loadName_free I.ok.kind hk hc hcell fin hcd) hd
theorem aA{i j pos}:PE X (.Constant (.int i) j pos) (tC (.int i)):=fun _ _ _ H _ I h=>wpAny_Constant_int ⟨.int i,H,I.tok _,⟨_,rfl⟩,h⟩
theorem V6{b j pos}:PE X (.Constant (.bool b) j pos) (tC (.bl b)):=fun _ _ _ H _ I h=>Constant_bool ⟨.bl b,H,I,rfl,h⟩
theorem rP{j pos}:PE X (.Constant .none j pos) (tC .non):=fun _ _ _ H _ I h=>Constant_none ⟨.non,H,I,rfl,h⟩
theorem aD{x j pos}:PE X (.Constant (.str x) j pos) (tC (.str x)):=fun _ _ _ H _ I h=>Calls.Constant_str ⟨.str x,H,I.tok _,⟨_,rfl⟩,h⟩
def Gl(X:Cx)(x:Str):Prop:=X.env.kindOf x=some .globalImplicit
theorem yG{E:Value->Shared->Prop}{pins:List (Addr×Obj)}{s:Shared}{σ:St}{H:Hp}{x:Str}{u:Value}{pos:Pos}{Q:Value->Shared->Prop}(I:Inv X pins σ H s)(hg:Gl X x)(hm:X.mg x=some u)(h:Q u s)
 (hd:(x == ("__debug__":Str))=false:=by decide):wpAny (model X.prog X.w) X.A (eval (.Name x pos) X.env) Q E s :=
 Calls.Name_function_global I.ok.kind hg (Calls.loadGlobal_global (by rw[I.ok.glob];exact I.mod.glob.keeps I.bk) hm h) hd
theorem V7{E:Value->Shared->Prop}{pins:List (Addr×Obj)}{s:Shared}{σ:St}{H:Hp}{x:Str}{u:Value}{pos:Pos}{Q:Value->Shared->Prop}(I:Inv X pins σ H s)(hg:Gl X x)(hm:X.mg x=none)(hv:bootBuiltins x=some u)(h:Q u s)
 (hn:x≠"__name__":=by decide) (hd:(x == ("__debug__":Str))=false:=by decide):wpAny (model X.prog X.w) X.A (eval (.Name x pos) X.env) Q E s:=by
 obtain⟨mb,h1,h2⟩:=I.mod.blt
 exact Calls.Name_function_global I.ok.kind hg (Calls.loadGlobal_builtin (by rw[I.ok.glob];exact I.mod.glob.keeps I.bk) hm (by rw[I.ok.blt];exact h1.keeps I.bk) ((h2 x hn).trans hv) h) hd
theorem anq{x:Str}{v:V}{u:Value}{pos:Pos}(hg:Gl X x)(hm:X.mg x=some u)(r:RelV v u)(hd:(x == ("__debug__":Str))=false:=by decide):PE X (.Name x pos) (tC v) :=
 fun _ _ _ H _ I h=>yG I hg hm ⟨v,H,I,r,h⟩ hd
theorem anr{x:Str}{v:V}{u:Value}{pos:Pos}(hg:Gl X x)(hm:X.mg x=none)(hv:bootBuiltins x=some u)(r:RelV v u)(hn:x≠"__name__":=by decide) (hd:(x == ("__debug__":Str))=false:=by decide):PE X (.Name x pos) (tC v) :=
 fun _ _ _ H _ I h=>V7 I hg hm hv ⟨v,H,I,r,h⟩ hn hd
variable{a b:Expr}{ta tb:TE}{pos:Pos}
def PC(X:Cx)(op:CmpOp)(a b:Expr)(t:TE):Prop :=
 ∀(pins:List (Addr×Obj)) (s:Shared) (σ:St) (H:Hp) (Q:VK),Inv X pins σ H s->t σ H Q->
  wpAny (model X.prog X.w) X.A (eval a X.env) (fun v s₁=>wpAny (model X.prog X.w) X.A (eval b X.env) (fun u s₂=>wpAny (model X.prog X.w) X.A (compareOp op v u) (EP X pins σ Q) X.xe s₂) X.xe s₁) X.xe s
theorem afd(b:Expr){op:CmpOp}(h:op≠.In)(h2:op≠.NotIn):behindInMarks op b=false:=by
 have e1:(op == CmpOp.In)=false:=by cases op<;>first | rfl | exact absurd rfl h
 have e2:(op == CmpOp.NotIn)=false:=by cases op<;>first | rfl | exact absurd rfl h2
 cases b<;>simp[behindInMarks,e1,e2]
def axy(ta:TE):TE:=fun σ H Q=>ta σ H fun x H1=>Q (.bl (decide (x=.non))) H1
def aul(ta:TE):TE:=fun σ H Q=>ta σ H fun x H1=>Q (.bl (!decide (x=.non))) H1
theorem RelV.afe{x:V}{v:Value}(r:RelV x v):(v == Value.none)=decide (x=.non):=by
 cases x with
 | non=>cases r;rfl
 | bl _=>cases r;rfl
 | int _=>obtain⟨t,rfl⟩:=r;rfl
 | str _=>obtain⟨t,rfl⟩:=r;rfl
 | byt _=>obtain⟨t,rfl⟩:=r;rfl
 | flt _=>obtain⟨t,rfl⟩:=r;rfl
 | ref _=>cases r;rfl
 | ty _=>cases r;rfl
theorem ahq{j pos'}(ha:PE X a ta):PC X .Is a (.Constant .none j pos') (axy ta):=by
 intro pins s σ H Q I h
 refine gf (ha pins s σ H _ I h) fun v s1 hz=>kE hz fun x H1 I1 r1 q1=>?_
 exact Constant_none (is_none_gen ⟨.bl _,H1,I1,by rw[r1.afe];rfl,q1⟩)
theorem qT{j pos'}(ha:PE X a ta):PC X .IsNot a (.Constant .none j pos') (aul ta):=by
 intro pins s σ H Q I h
 refine gf (ha pins s σ H _ I h) fun v s1 hz=>kE hz fun x H1 I1 r1 q1=>?_
 exact Constant_none (isnot_none_gen ⟨.bl _,H1,I1,by rw[r1.afe];rfl,q1⟩)
def tB(t:TE):TT:=fun σ H Q=>t σ H fun x H1=>∃c,x=.bl c/\Q c H1
theorem akX{op:CmpOp}{t:TE}(h:PC X op a b t)(h1:behindInMarks op b=false:=by first | exact afd _ (by decide) (by decide) | rfl):PE X (.Compare a [op] [b] pos) t:=fun pins s σ H Q I hw=>wpAny_Compare1 (h pins s σ H Q I hw) h1
theorem rQ{op:CmpOp}{t:TE}(h:PC X op a b t)(h1:behindInMarks op b=false:=by first | exact afd _ (by decide) (by decide) | rfl):PT X (.Compare a [op] [b] pos) (tB t):=by
 intro pins s σ H Q I hw
 refine wpAny_isTrue_Compare1 (gf (h pins s σ H _ I hw) fun v s1 h1=>gf h1 fun u s2 h2=>gf h2 fun c s3 hz=>kE hz fun x H1 I1 r1 q1=>?_) h1
 obtain⟨d,rfl,q⟩:=q1
 cases r1
 exact wpAny_truthy_bool ⟨H1,I1,q⟩
theorem oG{e:Expr}{t:TE}(h:PE X e t)(he:∀whole,isTrue e X.env whole=(do let v <-whole;standAt e.pos;holding [v] (truthy v)):=by intro _;rfl):PT X e (tB t):=by
 intro pins s σ H Q I hw
 refine isTrue_plain (gf (h pins s σ H _ I hw) fun v s1 hz=>kE hz fun x H1 I1 r1 q1=>?_) (he _)
 obtain⟨d,rfl,q⟩:=q1
 cases r1
 exact wpAny_truthy_bool ⟨H1,I1,q⟩
variable{tA tB':TT}{rest:List Expr}
def aum(t u:TT):TT:=fun σ H Q=>t σ H fun c H1=>if c=true then u σ H1 Q else Q false H1
def tOr(t u:TT):TT:=fun σ H Q=>t σ H fun c H1=>if c=true then Q true H1 else u σ H1 Q
def axz(t:TT):TT:=fun σ H Q=>t σ H fun c H1=>Q (!c) H1
theorem Ks(ha:PT X a tA):PW X (.BoolOp .And [a] pos) tA:=by
 intro wh pins s σ H Q I h
 refine isTrue_and (gf (ha pins s σ H Q I h) fun c s1 e=>?_)
 cases c with
 | true=>exact isTrue_and_nil e
 | false=>exact e
theorem qe(ha:PT X a tA):PW X (.BoolOp .Or [a] pos) tA:=by
 intro wh pins s σ H Q I h
 refine isTrue_or (gf (ha pins s σ H Q I h) fun c s1 e=>?_)
 cases c with
 | false=>exact isTrue_or_nil e
 | true=>exact e
theorem Pn(ha:PT X a tA)(hb:PW X (.BoolOp .And (b::rest) pos) tB'):PW X (.BoolOp .And (a::b::rest) pos) (aum tA tB'):=by
 intro wh pins s σ H Q I h
 refine isTrue_and (gf (ha pins s σ H _ I h) fun c s1 hz=>ex3 hz fun H1 I1 q1=>?_)
 cases c with
 | true=>exact hb wh pins s1 σ H1 Q I1 q1
 | false=>exact⟨H1,I1,q1⟩
theorem wU(ha:PT X a tA)(hb:PW X (.BoolOp .Or (b::rest) pos) tB'):PW X (.BoolOp .Or (a::b::rest) pos) (tOr tA tB'):=by
 intro wh pins s σ H Q I h
 refine isTrue_or (gf (ha pins s σ H _ I h) fun c s1 hz=>ex3 hz fun H1 I1 q1=>?_)
 cases c with
 | true=>exact⟨H1,I1,q1⟩
 | false=>exact hb wh pins s1 σ H1 Q I1 q1
theorem IW(ha:PT X a tA):PT X (.UnaryOp .Not a pos) (axz tA):=by
 intro pins s σ H Q I h
 exact isTrue_not (ha pins s σ H (fun c H1=>Q (!c) H1) I h)
def aun(ta tb:TE):TE:=fun σ H Q=>ta σ H fun x H1=>∃c,x=.bl c/\if c=true then tb σ H1 Q else Q (.bl false) H1
def axA(ta tb:TE):TE:=fun σ H Q=>ta σ H fun x H1=>∃c,x=.bl c/\if c=true then Q (.bl true) H1 else tb σ H1 Q
def auo(ta:TE):TE:=fun σ H Q=>ta σ H fun x H1=>∃c,x=.bl c/\Q (.bl (!c)) H1
theorem aca{op}{t:TE}(h:PE X a t):PE X (.BoolOp op [a] pos) t:=fun pins s σ H Q I hw=>BoolOp_one (h pins s σ H Q I hw)
theorem ahr(ha:PE X a ta)(hb:PE X (.BoolOp .And (b::rest) pos) tb):PE X (.BoolOp .And (a::b::rest) pos) (aun ta tb):=by
 intro pins s σ H Q I h
 refine BoolOp_and (gf (ha pins s σ H _ I h) fun v s1 hz=>kE hz fun x H1 I1 r1 q1=>?_)
 obtain⟨c,rfl,q1⟩:=q1
 cases r1
 refine wpAny_truthy_bool ?_
 cases c with
 | true=>exact hb pins s1 σ H1 Q I1 q1
 | false=>exact⟨.bl false,H1,I1,rfl,q1⟩
theorem aup(ha:PE X a ta)(hb:PE X (.BoolOp .Or (b::rest) pos) tb):PE X (.BoolOp .Or (a::b::rest) pos) (axA ta tb):=by
 intro pins s σ H Q I h
 refine BoolOp_or (gf (ha pins s σ H _ I h) fun v s1 hz=>kE hz fun x H1 I1 r1 q1=>?_)
 obtain⟨c,rfl,q1⟩:=q1
 cases r1
 refine wpAny_truthy_bool ?_
 cases c with
 | false=>exact hb pins s1 σ H1 Q I1 q1
 | true=>exact⟨.bl true,H1,I1,rfl,q1⟩
theorem aqH(ha:PE X a ta):PE X (.UnaryOp .Not a pos) (auo ta):=by
 intro pins s σ H Q I h
 refine UnaryOp_ (gf (ha pins s σ H _ I h) fun v s1 hz=>kE hz fun x H1 I1 r1 q1=>?_)
 obtain⟨c,rfl,q1⟩:=q1
 cases r1
 exact not_of (wpAny_truthy_bool ⟨.bl (!c),H1,I1,rfl,q1⟩)
def tIf(t:TT)(ta tb:TE):TE:=fun σ H Q=>t σ H fun c H1=>if c=true then ta σ H1 Q else tb σ H1 Q
theorem pF{c:Expr}(hc:PT X c tA)(ha:PE X a ta)(hb:PE X b tb):PE X (.IfExp c a b pos) (tIf tA ta tb):=by
 intro pins s σ H Q I h
 refine wpAny_IfExp (gf (hc pins s σ H _ I h) fun d s1 hz=>ex3 hz fun H1 I1 q1=>?_)
 cases d with
 | true=>exact ha pins s1 σ H1 Q I1 q1
 | false=>exact hb pins s1 σ H1 Q I1 q1
end
end L2
namespace L2
open PySem PySem.Spec PyProof.Rows
def cu(K:PySem.W.Frag)(H:Hp)(a:Addr)(xs:List V):Prop :=
 Rd H a (.lst xs)\/
  ∃(o:Obj) (its:Array Value) (n:Nat),K.lookup a=some o/\o.cls=.type "list"/\o.dict=none/\o.data=.seq its n/\its.size<=sizeLine/\Vals xs its.toList
def di(K:PySem.W.Frag)(H:Hp)(a:Addr)(xs:List V):Prop :=
 Rd H a (.tup xs)\/
  ∃(o:Obj) (its:Array Value) (n:Nat),K.lookup a=some o/\o.cls=.type "tuple"/\o.data=.seq its n/\its.size<=sizeLine/\Vals xs its.toList
def axB:Value->Option V
 | .none=>some .non
 | .bool b=>some (.bl b)
 | .int i _=>some (.int i)
 | .str x _=>some (.str x)
 | .bytes b _=>some (.byt b)
 | .float b _=>some (.flt b)
 | .ref a=>some (.ref a)
 | .type n=>some (.ty n)
 | _=>none
theorem RelV.abs{x:V}{u:Value}(r:RelV x u):axB u=some x:=by
 cases x with
 | non=>cases r;rfl
 | bl _=>cases r;rfl
 | int _=>obtain⟨t,rfl⟩:=r;rfl
 | str _=>obtain⟨t,rfl⟩:=r;rfl
 | byt _=>obtain⟨t,rfl⟩:=r;rfl
 | flt _=>obtain⟨t,rfl⟩:=r;rfl
 | ref _=>cases r;rfl
 | ty _=>cases r;rfl
theorem RelV.inj{x y:V}{u:Value}(r:RelV x u)(q:RelV y u):x=y:=Option.some.inj (r.abs.symm.trans q.abs)
theorem Vals.inj:∀{xs ys:List V} {us:List Value},Vals xs us->Vals ys us->xs=ys
 | _,_,_,.nil,.nil=>rfl
 | _,_,_,.cons r t,.cons r' t'=>by rw[r.inj r',Vals.inj t t']
section
variable{X:Cx}{pins:List (Addr×Obj)}{σ:St}{H:Hp}{s:Shared}{a:Addr}{xs ys:List V}
theorem cu.of{K:PySem.W.Frag}(h:H a=some (.lst xs)):cu K H a xs:=.inl (.inl h)
theorem di.of{K:PySem.W.Frag}(h:H a=some (.tup xs)):di K H a xs:=.inl (.inl h)
theorem Inv.list(I:Inv X pins σ H s)(h:cu X.K H a xs):∃its:List Value,Vals xs its/\PlainL s.heap a its.toArray/\xs.length<=sizeLine:=by
 rcases h with h | ⟨o,its,n,hk,hc,hd,hs,hz,r⟩
 ·obtain⟨z,its,n,r,e⟩:=h.ok I.hok
  exact⟨its,r,⟨_,n,e,rfl,rfl,rfl⟩,z⟩
 ·refine⟨its.toList,r,⟨o,n,I.wR a o hk,hc,hd,by simpa using hs⟩,?_⟩
  have e:=r.length
  simp only[Array.length_toList]at e
  lia
theorem Inv.tuple(I:Inv X pins σ H s)(h:di X.K H a xs):∃its:List Value,Vals xs its/\IsTup s.heap a its.toArray/\xs.length<=sizeLine:=by
 rcases h with h | ⟨o,its,n,hk,hc,hs,hz,r⟩
 ·obtain⟨z,its,r,p⟩:=h.ok I.hok
  exact⟨its,r,p,z⟩
 ·refine⟨its.toList,r,⟨o,I.wR a o hk,hc,n,by simpa using hs⟩,?_⟩
  have e:=r.length
  simp only[Array.length_toList]at e
  lia
theorem Inv.afg(I:Inv X pins σ H s)(h:cu X.K H a xs)(h':cu X.K H a ys):xs=ys:=by
 obtain⟨its,r,⟨o,n,e,_,_,d⟩,_⟩:=I.list h
 obtain⟨its',r',⟨o',n',e',_,_,d'⟩,_⟩:=I.list h'
 rw[e]at e';cases e'
 rw[d]at d'
 injection d' with d1 _
 have:its=its':=by simpa using congrArg Array.toList d1
 subst this
 exact r.inj r'
end
abbrev Cx.wish(X:Cx)(E:Value->Shared->Prop):Cx:={X with xe:=E}
abbrev Cx.kI(X:Cx):Cx:=X.wish fun _ _=>False
theorem Cx.Ok.wish{X:Cx}(ok:X.Ok)(E:Value->Shared->Prop):(X.wish E).Ok :=
 ⟨ok.mod,ok.kind,ok.glob,ok.blt,ok.above,ok.inj,ok.has,ok.cab,ok.hd,ok.frames,ok.stk,ok.exf,ok.bs,ok.bsz,ok.afa,ok.ahp,ok.IV,ok.frf⟩
theorem Cx.Ok.vM{X:Cx}{E:Value->Shared->Prop}(ok:(X.wish E).Ok):X.Ok :=
 ⟨ok.mod,ok.kind,ok.glob,ok.blt,ok.above,ok.inj,ok.has,ok.cab,ok.hd,ok.frames,ok.stk,ok.exf,ok.bs,ok.bsz,ok.afa,ok.ahp,ok.IV,ok.frf⟩
section
variable{X:Cx}{pins:List (Addr×Obj)}{σ:St}{H:Hp}{s:Shared}{E:Value->Shared->Prop}
theorem Inv.wish(I:Inv X pins σ H s)(E:Value->Shared->Prop):Inv (X.wish E) pins σ H s:=⟨I.ok.wish E,I.os,I.bare,I.base,I.loc,I.cell,I.free,I.uC,I.pin,I.hok,I.len⟩
theorem Inv.vM(I:Inv (X.wish E) pins σ H s):Inv X pins σ H s:=⟨I.ok.vM,I.os,I.bare,I.base,I.loc,I.cell,I.free,I.uC,I.pin,I.hok,I.len⟩
theorem SP.vM{D:Ends}{f:Flow}{s':Shared}(h:SP (X.wish E) pins D f s'):SP X pins D f s':=by
 cases f with
 | next=>obtain⟨σ',H',I,q⟩:=h;exact⟨σ',H',I.vM,q⟩
 | brk=>obtain⟨σ',H',I,q⟩:=h;exact⟨σ',H',I.vM,q⟩
 | cont=>obtain⟨σ',H',I,q⟩:=h;exact⟨σ',H',I.vM,q⟩
 | ret u=>obtain⟨v,σ',H',I,r,q⟩:=h;exact⟨v,σ',H',I.vM,r,q⟩
theorem PSs.kI{st:List Stmt}{t:TS}(h:PSs X.kI st t):PSs X st t:=fun pins s σ H D I hw =>
 wpAny_mono (h pins s σ H D (I.wish _) hw) (fun _ _ q=>q.vM) fun _ _ z=>False.elim z
end
section
variable{X:Cx}{st:Stmt}{rest:List Stmt}{t u:TS}{e:Expr}{te:TE}{pos:Pos}
def bK:TS:=fun D σ H=>D.nx σ H
def aR(t u:TS):TS:=fun D σ H=>t {D with nx:=u D} σ H
theorem bC:PSs X [] bK:=fun _ _ σ H _ I h=>wpAny_execs_nil ⟨σ,H,I,h⟩
theorem ao(h1:PS X st t)(h2:PSs X rest u):PSs X (st::rest) (aR t u):=by
 intro pins s σ H D I h
 refine wpAny_execs_cons (gf (h1 pins s σ H {D with nx:=u D} I h) fun f s1 q=>?_)
 cases f with
 | next =>
   obtain⟨σ',H',I',q⟩:=q
   exact h2 pins s1 σ' H' D I' q
 | ret v=>exact q
 | brk=>exact q
 | cont=>exact q
theorem aC(h1:PS X st t):PSs X [st] t:=by
 intro pins s σ H D I h
 refine wpAny_execs_cons (gf (h1 pins s σ H D I h) fun f s1 q=>?_)
 cases f with
 | next=>exact wpAny_execs_nil q
 | ret v=>exact q
 | brk=>exact q
 | cont=>exact q
theorem Inv.quiet{pins:List (Addr×Obj)}{σ:St}{H:Hp}{s:Shared}(I:Inv X pins σ H s):interactive X.env=false:=by simp[interactive,I.ok.kind]
def aiM(te:TE):TS:=fun D σ H=>te σ H fun _ H1=>D.nx σ H1
theorem bO(he:PE X e te)(hs:swapsWith e none pos.line X.env=pure false:=by rfl):PS X (.Expr e pos) (aiM te):=by
 intro pins s σ H D I h
 exact wpAny_Expr_any (gf (he pins s σ H _ I h) fun v s1 hz=>kE hz fun x H1 I1 r1 q1=>⟨σ,H1,I1,q1⟩) I.quiet hs
def aqI(te:TE):TS:=fun D σ H=>te σ H D.rt
theorem bw(he:PE X e te):PS X (.Return (some e) pos) (aqI te):=by
 intro pins s σ H D I h
 exact wpAny_Return_some (gf (he pins s σ H _ I h) fun v s1 hz=>kE hz fun x H1 I1 r1 q1=>⟨x,σ,H1,I1,r1,q1⟩)
def dg(c:TT)(t u:TS):TS:=fun D σ H=>c σ H fun b H1=>if b=true then t D σ H1 else u D σ H1
theorem cg{c:Expr}{a b:List Stmt}{tc:TT}(hc:PT X c tc)(ha:PSs X a t)(hb:PSs X b u):PS X (.If c a b pos) (dg tc t u):=by
 intro pins s σ H D I h
 refine wpAny_If (gf (hc pins s σ H _ I h) fun d s1 hz=>ex3 hz fun H1 I1 q1=>?_)
 cases d with
 | true=>exact ha pins s1 σ H1 D I1 q1
 | false=>exact hb pins s1 σ H1 D I1 q1
def aqJ:TS:=fun _ _ _=>False
end
abbrev TG:=V->St->Hp->(St->Hp->Prop)->Prop
abbrev TGs:=List V->St->Hp->(St->Hp->Prop)->Prop
def PG(X:Cx)(target:Expr)(t:TG):Prop :=
 ∀(pins:List (Addr×Obj)) (s:Shared) (σ:St) (H:Hp) (v:V) (u:Value) (Q:St->Hp->Prop),Inv X pins σ H s->RelV v u->t v σ H Q->
  wpAny (model X.prog X.w) X.A (assign target X.env u) (fun _ s'=>∃σ' H',Inv X pins σ' H' s'/\Q σ' H') X.xe s
def PGs(X:Cx)(ts:List Expr)(t:TGs):Prop :=
 ∀(pins:List (Addr×Obj)) (s:Shared) (σ:St) (H:Hp) (vs:List V) (us:List Value) (Q:St->Hp->Prop),Inv X pins σ H s->Vals vs us->t vs σ H Q->
  wpAny (model X.prog X.w) X.A (assignInOrder ((assignEach ts X.env).map (·.2)) us) (fun _ s'=>∃σ' H',Inv X pins σ' H' s'/\Q σ' H') X.xe s
abbrev aqK:=V->V->V->Hp->(Hp->Prop)->Prop
def aur(X:Cx)(t:aqK):Prop :=
 ∀(pins:List (Addr×Obj)) (s:Shared) (σ:St) (H:Hp) (o i v:V) (ov iv u:Value) (Q:Hp->Prop),Inv X pins σ H s->RelV o ov->RelV i iv->RelV v u->t o i v H Q->
  wpAny (model X.prog X.w) X.A (setItem ov iv u) (fun _ s'=>∃H',Inv X pins σ H' s'/\Q H') X.xe s
section
variable{X:Cx}{pos:Pos}
def abt(i:Nat):TG:=fun v σ H Q=>Q (σ.set i (some v)) H
theorem cU{i:Nat}{x:Str}(hN:X.N.Nodup)(hi:X.N[i]? = some x)(hx:Loc X.env.scope x)(hf:X.fn x=true\/X.env.scope.names.lookup x=some .local:=by first | exact .inl rfl | exact .inr rfl | assumption):PG X (.Name x pos) (abt i):=by
 intro pins s σ H v u Q I r h
 exact wpAny_assign_Name (afc I hN hi hx r (fun s' I'=>⟨_,H,I',h⟩) hf)
def axC:TGs:=fun vs σ H Q=>vs=[]/\Q σ H
def aus(t:TG)(u:TGs):TGs:=fun vs σ H Q=>∃v r,vs=v::r/\t v σ H fun σ' H'=>u r σ' H' Q
theorem yH:PGs X [] axC:=by
 intro pins s σ H vs us Q I r h
 obtain⟨e,h⟩:=h
 subst e
 cases r
 exact assignInOrder_nil ⟨σ,H,I,h⟩
theorem gG{e:Expr}{es:List Expr}{t:TG}{u:TGs}(h1:PG X e t)(h2:PGs X es u)
 (hs:(assignEach (e::es) X.env).map (·.2)=assign e X.env::(assignEach es X.env).map (·.2):=by rfl):PGs X (e::es) (aus t u):=by
 intro pins s σ H vs us Q I r h
 obtain⟨v,vr,e1,h⟩:=h
 subst e1
 cases r with
 | cons r rr =>
   rw[hs]
   refine assignInOrder_cons (gf (h1 pins s σ H _ _ _ I r h) fun _ s1 hz=>ex4 hz fun σ1 H1 I1 q1=>?_)
   exact h2 pins s1 σ1 H1 _ _ Q I1 rr q1
def aut(K:PySem.W.Frag)(n:Nat)(t:TGs):TG:=fun v σ H Q=>∃a xs,v=.ref a/\di K H a xs/\xs.length=n/\t xs σ H Q
theorem Pq{es:List Expr}{k:Nat}{t:TGs}{n:Nat}(hc:X.calm=true)(h:PGs X es t)
 (hn:(assignEach es X.env).length=n:=by rfl) (hst:(assignEach es X.env).findIdx? (·.1)=none:=by rfl):PG X (.Tuple es k pos) (aut X.K n t):=by
 intro pins s σ H v u Q I r hw
 obtain⟨a,xs,e1,hq,hl,hw⟩:=hw
 subst e1
 cases r
 obtain⟨its,rv,ht,hz⟩:=I.tuple hq
 refine assign_Tuple_tuple (I.ok.hd hc) ht (by simp[hn,<-hl,rv.length]) hst fun h' hx=>?_
 have I1:Inv X pins σ H {s with heap:=h'}:=I.kept (t':=s.toks) fun b o e=>hx b o (Nat.ne_of_lt (Heap.lt_size e)) e
 exact h pins _ σ H xs _ Q I1 (by simpa using rv) hw
def auu(to ti:TE)(t:aqK):TG:=fun v σ H Q=>to σ H fun o H1=>ti σ H1 fun i H2=>t o i v H2 fun H3=>Q σ H3
theorem Ja{o i:Expr}{to ti:TE}{t:aqK}(ho:PE X o to)(hi:PE X i ti)(hs:aur X t)
 (ha:∀v,assign (.Subscript o i pos) X.env v=(do
   let ov <-holding [v] (eval o X.env)
   let iv <-holding [v,ov] (eval i X.env)
   standAt pos
   holding [v,ov,iv] (setItem ov iv v)
   release [v,ov,iv] []):=by intro _;rfl):PG X (.Subscript o i pos) (auu to ti t):=by
 intro pins s σ H v u Q I r h
 rw[ha]
 refine wpAny_bind (wpAny_holding (gf (ho pins s σ H _ I h) fun ov s1 hz=>kE hz fun x H1 I1 r1 q1=>?_))
 refine wpAny_bind (wpAny_holding (gf (hi pins s1 σ H1 _ I1 q1) fun iv s2 hz=>kE hz fun y H2 I2 r2 q2=>?_))
 refine wpAny_bind (wpAny_standAt (wpAny_bind (wpAny_holding (gf (hs pins s2 σ H2 x y v ov iv u _ I2 r1 r2 r q2) fun _ s3 hz=>ex3 hz fun H3 I3 q3=>?_))))
 exact wpAny_release ⟨σ,H3,I3,q3⟩
def aqL(te:TE)(g:TG):TS:=fun D σ H=>te σ H fun x H1=>g x σ H1 D.nx
theorem yI{tg e:Expr}{te:TE}{g:TG}(he:PE X e te)(hg:PG X tg g)(hs:swapsWithSole [tg] e pos.line X.env=pure false:=by rfl)(hw:swappedStores [tg] e X.env=pure none:=by rfl)
 (h1:(assignEach [tg] X.env).map (·.2)=[assign tg X.env]:=by rfl):PS X (.Assign [tg] e pos) (aqL te g):=by
 intro pins s σ H D I h
 refine wpAny_Assign_stores (gf (he pins s σ H _ I h) fun v s1 hz=>kE hz fun x H1 I1 r1 q1=>?_) hs hw
 rw[h1]
 exact gf (hg pins s1 σ H1 x v _ I1 r1 q1) fun _ s2 q=>q
theorem bh{i:Nat}{x:Str}{e:Expr}{te:TE}{pos':Pos}(hN:X.N.Nodup)(hi:X.N[i]? = some x)(hx:Loc X.env.scope x)(he:PE X e te)(hs:swapsWith e (some (.Name x pos')) pos.line X.env=pure false:=by rfl)(hf:X.fn x=true\/X.env.scope.names.lookup x=some .local:=by first | exact .inl rfl | exact .inr rfl | assumption) :
 PS X (.Assign [.Name x pos'] e pos) (aqL te (abt i)):=by
 intro pins s σ H D I h
 refine wpAny_Assign_Name (gf (he pins s σ H _ I h) fun v s1 hz=>kE hz fun y H1 I1 r1 q1=>?_) hs
 exact afc I1 hN hi hx r1 (fun s2 I2=>⟨_,H1,I2,q1⟩) hf
end
section
variable{X:Cx}{pos:Pos}
def acb(c:TT)(tb:TS):TS:=fun D σ H=>∃W:Nat->St->Hp->Prop,(∃m,W m σ H)/\∀m σ H,W m σ H->
 c σ H fun b H1=>if b=true then ∃N:St->Hp->Prop,(∀σ' H',N σ' H'->∃m',m'<m/\W m' σ' H')/\tb {D with nx:=N,ct:=N,bk:=D.nx} σ H1 else D.nx σ H1
theorem V8{c:Expr}{body:List Stmt}{tc:TT}{tb:TS}(hp:PassesOwn (model X.prog X.w) X.A X.env X.xe)(hc:PT X c tc)(hb:PSs X body tb):PS X (.While c body [] pos) (acb tc tb):=by
 intro pins s σ H D I h
 obtain⟨W,⟨m0,w0⟩,turn⟩:=h
 refine wpAny_While (codeAny_whileLoop (fun n s'=>∃σ' H',Inv X pins σ' H' s'/\W n σ' H') ?_ m0 ⟨σ,H,I,w0⟩)
 rintro n s1 ⟨σ1,H1,I1,w1⟩
 refine wpAny_passesOwn hp (gf (hc pins s1 σ1 H1 _ I1 (turn n σ1 H1 w1)) fun b s2 hz=>ex3 hz fun H2 I2 q2=>?_)
 cases b with
 | true =>
   obtain⟨N,hN,q2⟩:=q2
   rw[if_pos rfl]
   refine wpAny_passesOwn hp (gf (hb pins s2 σ1 H2 _ I2 q2) fun f s3 q3=>?_)
   cases f with
   | next =>
     obtain⟨σ3,H3,I3,n3⟩:=q3
     obtain⟨m',hm,w3⟩:=hN σ3 H3 n3
     exact⟨m',hm,σ3,H3,I3,w3⟩
   | cont =>
     obtain⟨σ3,H3,I3,n3⟩:=q3
     obtain⟨m',hm,w3⟩:=hN σ3 H3 n3
     exact⟨m',hm,σ3,H3,I3,w3⟩
   | brk=>exact q3
   | ret v=>exact q3
 | false =>
   rw[if_neg Bool.false_ne_true]
   exact wpAny_execs_nil ⟨σ1,H2,I2,q2⟩
end
structure It where
 go:Nat->Hp->Prop
 yld:Nat->Hp->V->Hp->Prop
 stop:Nat->Hp->Prop
def Ku(X:Cx)(pins:List (Addr×Obj))(H:Hp)(b:Addr):Prop :=
 H b=none/\b≠X.env.locals/\b∉X.fs/\(b∈X.ex\/X.s₀.heap.objs.size<=b)/\(∀x c,X.env.cells.lookup x=some c->c≠b)/\∀p∈X.pn++pins,p.1≠b
theorem Inv.ant{X:Cx}{pins:List (Addr×Obj)}{σ:St}{H H':Hp}{s:Shared}{b:Addr}(I:Inv X pins σ H s)(hb:s.heap.objs.size<=b)(hn:H' b=none):Ku X pins H' b:=by
 refine⟨hn,Nat.ne_of_gt (Nat.lt_of_lt_of_le I.lt hb),I.axw hb,.inr (Nat.le_trans I.sz hb),fun x c e z=>?_,fun p hp z=>?_⟩
 ·obtain⟨v,q⟩:=I.cell x c e
  exact absurd (Nat.lt_of_lt_of_le q.lt (by rw[z];exact hb)) (Nat.lt_irrefl _)
 ·exact absurd (Nat.lt_of_lt_of_le (Heap.lt_size (I.pin p hp).1) (by rw[z];exact hb)) (Nat.lt_irrefl _)
structure Turn(P:Program)(w:World)(K:PySem.W.Frag)(tg:Expr)(J:It)(fp:List Addr)(it:Addr)(tn:Nat->Heap->Prop):Prop where
 mem:it∈fp
 obj:∀i h,tn i h->∀b∈fp,∃o,h.get? b=some o/\∀v,o.data≠.cell v
 keep:∀i h h',tn i h->(∀b∈fp,∀o,h.get? b=some o->h'.get? b=some o)->tn i h'
 item:∀(X:Cx),X.prog=P->X.w=w->X.K=K->X.calm=true->∀(i:Nat) (pins:List (Addr×Obj)) (s:Shared) (σ:St) (H:Hp) (E:Value->Shared->Prop),Inv X pins σ H s->(∀b∈fp,Ku X pins H b)->tn i s.heap->J.go i H->
  wpAny (model P w) X.A (pyNext (.ref it)) (fun r s1=>∃u,r=some u/\
   wpAny (model P w) X.A (letOwnedTupleGo tg (.ref it) u) (fun _ s2=>∃x H',Inv X pins σ H' s2/\RelV x u/\J.yld i H x H'/\tn (i+1) s2.heap/\∀b∈fp,H' b=none) E s1) E s
 done:∀(X:Cx),X.prog=P->X.w=w->X.K=K->X.calm=true->∀(i:Nat) (pins:List (Addr×Obj)) (s:Shared) (σ:St) (H:Hp) (E:Value->Shared->Prop),Inv X pins σ H s->(∀b∈fp,Ku X pins H b)->tn i s.heap->J.stop i H->
  wpAny (model P w) X.A (pyNext (.ref it)) (fun r s1=>r=none/\Inv X pins σ H s1) E s
 self:∀(A:Around) (i:Nat) (s:Shared) (Q:Value->Shared->Prop) (E:Value->Shared->Prop),tn i s.heap->Q (.ref it) s->wpAny (model P w) A (pyIter (.ref it)) Q E s
abbrev TI:=St->Hp->(It->Hp->Prop)->Prop
def PIE(X:Cx)(pins:List (Addr×Obj))(σ:St)(tg:Expr)(R:It->Hp->Prop)(itv:Value)(s2:Shared):Prop :=
 ∃(it:Addr) (fp:List Addr) (tn:Nat->Heap->Prop) (J:It) (H':Hp),itv=.ref it/\Inv X pins σ H' s2/\Turn X.prog X.w X.K tg J fp it tn/\tn 0 s2.heap/\(∀b∈fp,Ku X pins H' b)/\R J H'
def PI(X:Cx)(tg iter:Expr)(wi:TI):Prop :=
 ∀(pins:List (Addr×Obj)) (s:Shared) (σ:St) (H:Hp) (R:It->Hp->Prop),Inv X pins σ H s->wi σ H R->
  wpAny (model X.prog X.w) X.A (eval iter X.env) (fun v s1=>wpAny (model X.prog X.w) X.A (pyIter v) (PIE X pins σ tg R) X.xe s1) X.xe s
theorem apY{M:Model}{A:Around}{E:Value->Shared->Prop}{s:Shared}{tg:Expr}{it:Addr}{u:Value}{o:Obj}{n:String}{vs:Array Value}{Q:Unit->Shared->Prop}(ho:s.heap.get? it=some o)(hc:o.cls=.type n)(hd:o.data=.fields vs)
 (hn:["enumerate","zip","dict_itemiterator","dict_reverseitemiterator","odict_iterator","itertools.zip_longest","itertools.pairwise"].contains n=false) (hQ:Q () s):wpAny M A (letOwnedTupleGo tg (.ref it) u) Q E s:=by
 unfold letOwnedTupleGo
 cases tg<;>first
  | exact wpAny_pure hQ
  | (cases u<;>first
      | exact wpAny_pure hQ
      | (refine wpAny_bind (wpAny_load ho ?_)
         rw[hc,hd]
         show wpAny M A (if(["enumerate","zip","dict_itemiterator","dict_reverseitemiterator","odict_iterator","itertools.zip_longest","itertools.pairwise"].contains n && vs[0]? == some (rawInt _))=true then _ else _) Q E s
         rw[if_neg (by intro h;rw[hn,Bool.false_and]at h;cases h)]
         exact wpAny_pure hQ))
def Itl(K:PySem.W.Frag)(a:Addr):It :=
 ⟨fun i H=>∃xs x,cu K H a xs/\xs[i]? = some x,fun i H x H'=>H'=H/\∀xs,cu K H a xs->xs[i]? = some x,fun i H=>∃xs,cu K H a xs/\xs.length<=i⟩
def Itr(lo:Int)(n:Nat):It:=⟨fun i _=>i<n,fun i H x H'=>H'=H/\x=.int (lo+i),fun i _=>n<=i⟩
theorem ajM{P:Program}{w:World}{K:PySem.W.Frag}{tg:Expr}(a it:Addr):Turn P w K tg (Itl K a) [it] it (fun i h=>h.IsListIter it a i) where
 mem:=by simp
 obj:=fun i h st b hb=>by
  have e:b=it:=by simpa using hb
  subst e
  obtain⟨o,e,c,d⟩:=st
  exact⟨o,e,fun v z=>by rw[d]at z;cases z⟩
 keep:=fun i h h' st k=>st.at fun o e=>k it (by simp) o e
 item:=by
  intro X hP hw hK hc i pins s σ H E I hf st hg
  subst hP hw hK
  obtain⟨xs,x,hq,hx⟩:=hg
  obtain⟨its,rv,p,hz⟩:=I.list hq
  obtain⟨u,hu,ru⟩:=rv.get hx
  obtain⟨f0,f1,f2,f3,f4,f5⟩:=hf it (by simp)
  refine wpAny_pyNext_list_item st p.isList (x:=u) (by simpa using hu) fun h' st' sb=>?_
  have I1:Inv X pins σ H {s with heap:=h'}:=I.turned (t':=s.toks) (fun b o hb e=>(sb.2 b hb).trans e) f0 f1 f3 f4 f5
  obtain⟨o,e,c,d⟩:=id st'
  exact⟨u,rfl,apY (s:={s with heap:=h'}) e c d (by decide) ⟨x,H,I1,ru,⟨rfl,fun ys hy=>by rw[I.afg hy hq];exact hx⟩,st',fun b hb=>(hf b hb).1⟩⟩
 done:=by
  intro X hP hw hK hc i pins s σ H E I hf st hg
  subst hP hw hK
  obtain⟨xs,hq,hx⟩:=hg
  obtain⟨its,rv,p,hz⟩:=I.list hq
  obtain⟨f0,f1,f2,f3,f4,f5⟩:=hf it (by simp)
  have hl:=rv.length
  exact wpAny_pyNext_list_end (I.ok.hd hc) st p.isList (by simp;lia) fun h' eb=>⟨rfl,I.turned (t':=s.toks) (fun b o hb e=>eb b o hb e) f0 f1 f3 f4 f5⟩
 self:=fun _ _ _ _ _ st h=>wpAny_pyIter_listiter st h
theorem ahs{P:Program}{w:World}{K:PySem.W.Frag}{tg:Expr}(it:Addr)(lo:Int)(n:Nat):Turn P w K tg (Itr lo n) [it] it (fun i h=>IsRangeIter h it (lo+(i:Nat)*1) ((n:Int) - (i:Nat)) 1) where
 mem:=by simp
 obj:=fun i h st b hb=>by
  have e:b=it:=by simpa using hb
  subst e
  exact⟨_,st,fun v z=>by
   have z':Data.fields _=Data.cell v:=z
   cases z'⟩
 keep:=fun i h h' st k=>k it (by simp) _ st
 item:=by
  intro X hP hw hK hc i pins s σ H E I hf st hg
  subst hP hw hK
  obtain⟨f0,f1,f2,f3,f4,f5⟩:=hf it (by simp)
  have W:=Walks.range (prog:=X.prog) (w:=X.w) (I.ok.hd hc) it lo 1 n
  refine W.item i s _ _ hg st fun v h' tk hv st' kk=>?_
  obtain⟨t,rfl⟩:=hv
  have I1:Inv X pins σ H {s with heap:=h',toks:=tk}:=I.turned (fun b o hb e=>kk b o (by simpa using hb) e) f0 f1 f3 f4 f5
  refine⟨_,rfl,apY (s:={s with heap:=h',toks:=tk}) (n:="range_iterator") st' rfl rfl (by decide) ⟨.int (lo+i),H,I1,⟨t,?_⟩,⟨rfl,rfl⟩,st',fun b hb=>(hf b hb).1⟩⟩
  rw[Int.mul_one]
 done:=by
  intro X hP hw hK hc i pins s σ H E I hf st hg
  subst hP hw hK
  obtain⟨f0,f1,f2,f3,f4,f5⟩:=hf it (by simp)
  exact wpAny_pyNext_range_end (I.ok.hd hc) st (by have:n<=i:=hg;lia) fun h' eb=>⟨rfl,I.turned (t':=s.toks) (fun b o hb e=>eb b o hb e) f0 f1 f3 f4 f5⟩
 self:=fun _ _ _ _ _ st h=>wpAny_pyIter_rangeiter st h
end L2
namespace L2
open PySem PySem.Spec PyProof.Rows
section
variable{X:Cx}{tg:Expr}
def auw(K:PySem.W.Frag)(tl:TE):TI:=fun σ H R=>tl σ H fun x H1=>∃a,x=.ref a/\(∃xs,cu K H1 a xs)/\R (Itl K a) H1
theorem uD{l:Expr}{tl:TE}(hl:PE X l tl):PI X tg l (auw X.K tl):=by
 intro pins s σ H R I h
 refine gf (hl pins s σ H _ I h) fun v s1 hz=>kE hz fun x H1 I1 r1 q1=>?_
 obtain⟨a,e,⟨xs,hq⟩,q⟩:=q1
 subst e
 cases r1
 obtain⟨its,rv,p,hz⟩:=I1.list hq
 refine wpAny_pyIter_list p.isList ?_
 refine⟨s1.heap.objs.size,[s1.heap.objs.size],_,_,H1,rfl,I1.kept (t':=s1.toks) fun b o e=>Heap.get?_push_of_some _ e,ajM a _,⟨_,Heap.get?_push_size _ rfl,rfl,rfl⟩,fun b hb=>?_,q⟩
 have e:b=s1.heap.objs.size:=by simpa using hb
 subst e
 exact I1.ant (Nat.le_refl _) (I1.hok.fresh (Nat.le_refl _))
theorem akY{pins:List (Addr×Obj)}{σ:St}{H:Hp}{s:Shared}{R:It->Hp->Prop}{E:Value->Shared->Prop}{lo hi:Int}{t u v:Tok}{tk:Nat}(I:Inv X pins σ H s)(h1 : -(2 ^ 62)<=lo)(h2:lo<2 ^ 62)(h3 : -(2 ^ 62)<=hi)(h4:hi<2 ^ 62)
 (q:R (Itr lo (hi - lo).toNat) H):wpAny (model X.prog X.w) X.A (pyIter (.ref s.heap.objs.size)) (PIE X pins σ tg R) E {s with heap:=s.heap.push {cls:=.type "range",data:=.fields #[.int lo t,.int hi u,.int 1 v]},toks:=tk}:=by
 refine wpAny_pyIter_range (IsRange.new ..) (small_one h1 h2 h3 h4) ?_
 have I1:Inv X pins σ H {s with heap:=s.heap.push {cls:=.type "range",data:=.fields #[.int lo t,.int hi u,.int 1 v]},toks:=tk}:=I.kept fun b o e=>Heap.get?_push_of_some _ e
 refine⟨(s.heap.push {cls:=.type "range",data:=.fields #[.int lo t,.int hi u,.int 1 v]}).objs.size,[(s.heap.push {cls:=.type "range",data:=.fields #[.int lo t,.int hi u,.int 1 v]}).objs.size],_,_,H,rfl,
  I1.kept (t':=tk) fun b o e=>Heap.get?_push_of_some _ e,ahs _ lo (hi - lo).toNat,?_,fun b hb=>?_,q⟩
 ·have e1:lo+((0:Nat):Int)*1=lo:=by simp
  have e2:(((hi - lo).toNat:Nat):Int) - ((0:Nat):Int)=Builtin.Range.rangeSize lo hi 1:=by rw[rangeSize_one];split<;>lia
  show IsRangeIter _ _ (lo+((0:Nat):Int)*1) ((((hi - lo).toNat:Nat):Int) - ((0:Nat):Int)) 1
  rw[e1,e2]
  exact Heap.get?_push_size _ rfl
 ·have e:b=(s.heap.push {cls:=.type "range",data:=.fields #[.int lo t,.int hi u,.int 1 v]}).objs.size:=by simpa using hb
  subst e
  exact I1.ant (Nat.le_refl _) (I1.hok.fresh (Nat.le_refl _))
def auy(ta:TA):TI:=fun σ H R=>ta σ H fun vs H1=>∃j:Int,vs=[.int j]/\-(2 ^ 62)<=j/\j<2 ^ 62/\R (Itr 0 j.toNat) H1
theorem gU{a:Expr}{ta:TA}{p pos:Pos}(hg:Gl X "range") (hm:X.mg "range"=none) (ha:PA X [a] ta) (hs:starEach [a] X.env=[(false,eval a X.env)]:=by rfl):PI X tg (.Call (.Name "range" p) [a] [] pos) (auy ta):=by
 intro pins s σ H R I h
 refine Call_ (V7 I hg hm boot_range (PyProof.Rows.callWith_type1 (gf (ha pos pins s σ H _ I h) fun us s1 hz=>kE hz fun vs H1 I1 r1 q1=>?_) hs rfl))
 obtain⟨j,e,q1,q2,q⟩:=q1
 subst e
 cases r1 with
 | cons r rr =>
   cases rr
   obtain⟨t,rfl⟩:=r
   exact call_range_1 (akY I1 (by lia) (by lia) q1 q2 (by simpa using q))
def ZF(wi:TI)(g:TG)(tb:TS):TS:=fun D σ H=>wi σ H fun J H1=>∃W:Nat->Nat->St->Hp->Prop,(∃m,W 0 m σ H1)/\∀i m σ H,W i m σ H->
 (J.stop i H/\D.nx σ H)\/(J.go i H/\∃N:St->Hp->Prop,(∀σ' H',N σ' H'->∃m',m'<m/\W (i+1) m' σ' H')/\∀x H',J.yld i H x H'->g x σ H' fun σ2 H2=>tb {D with nx:=N,ct:=N,bk:=D.nx} σ2 H2)
def V9(fp:List Addr)(h:Heap):List (Addr×Obj):=fp.filterMap fun b=>(h.get? b).map fun o=>(b,o)
theorem yJ{fp:List Addr}{h:Heap}{b:Addr}{o:Obj}(hb:b∈fp)(e:h.get? b=some o):(b,o)∈V9 fp h:=List.mem_filterMap.mpr ⟨b,hb,by rw[e];rfl⟩
theorem ajN{fp:List Addr}{h:Heap}{p:Addr×Obj}(hp:p∈V9 fp h):p.1∈fp/\h.get? p.1=some p.2:=by
 obtain⟨b,hb,e⟩:=List.mem_filterMap.mp hp
 cases q:h.get? b with
 | none=>rw[q]at e;cases e
 | some o =>
   rw[q]at e
   have e':(b,o)=p:=Option.some.inj e
   subst e'
   exact⟨hb,q⟩
theorem Inv.pinned{pins:List (Addr×Obj)}{σ:St}{H:Hp}{s:Shared}{fp:List Addr}(I:Inv X pins σ H s)(hf:∀b∈fp,Ku X pins H b)(ho:∀b∈fp,∃o,s.heap.get? b=some o/\∀v,o.data≠.cell v):Inv X (pins++V9 fp s.heap) σ H s :=
 I.aiL fun p hp=>(List.mem_append.mp hp).elim (fun z=>I.pin p (List.mem_append_right _ z)) fun z=>by
  obtain⟨hb,e⟩:=ajN z
  obtain⟨f0,f1,f2,_⟩:=hf p.1 hb
  obtain⟨o,e',d⟩:=ho p.1 hb
  rw[e]at e';cases e'
  exact⟨e,f0,f1,f2,d⟩
theorem Inv.Kv{pins pl:List (Addr×Obj)}{σ:St}{H:Hp}{s:Shared}(I:Inv X (pins++pl) σ H s):Inv X pins σ H s:=I.aiL fun p hp=>I.pin p (List.mem_append_right _ (List.mem_append_left _ hp))
theorem yK{iter:Expr}{body:List Stmt}{wi:TI}{g:TG}{tb:TS}{pos:Pos}(hp:PassesOwn (model X.prog X.w) X.A X.env X.xe)(hc:X.calm=true)(hi:PI X tg iter wi)(hg:PG X tg g)(hb:PSs X body tb)
 (hs:∀x,foldedSetIterable iter X.env x=pure x:=by intro _;rfl):PS X (.For tg iter body [] pos) (ZF wi g tb):=by
 intro pins s σ H D I h
 refine wpAny_For (gf (hi pins s σ H _ I h) fun v s1 h1=>gf h1 fun itv s2 h2=>?_) hs
 obtain⟨it,fp,tn,J,H2,e,I2,T,st2,f2,W,⟨m0,w0⟩,turn⟩:=h2
 subst e
 have stat:∀{H':Hp},(∀b∈fp,H' b=none)->∀b∈fp,Ku X pins H' b:=fun hn b hb=>⟨hn b hb,(f2 b hb).2⟩
 refine codeAny_forLoop_any (fun n s'=>∃i σ' H',Inv X pins σ' H' s'/\tn i s'.heap/\(∀b∈fp,H' b=none)/\W i n σ' H') ?_ m0 ⟨0,σ,H2,I2,st2,fun b hb=>(f2 b hb).1,w0⟩
 rintro n s3 ⟨i,σ3,H3,I3,st3,fr3,w3⟩
 rcases turn i n σ3 H3 w3 with ⟨stop,qn⟩ | ⟨go,N,hN,step⟩
 ·refine wpAny_passesOwn hp (gf (T.done X rfl rfl rfl hc i pins s3 σ3 H3 X.xe I3 (stat fr3) st3 stop) fun r s4 ⟨hr,I4⟩=>?_)
  subst hr
  exact wpAny_execs_nil ⟨σ3,H3,I4,qn⟩
 ·refine wpAny_passesOwn hp (gf (T.item X rfl rfl rfl hc i pins s3 σ3 H3 X.xe I3 (stat fr3) st3 go) fun r s4 ⟨u,hr,h4⟩=>?_)
  subst hr
  refine wpAny_passesOwn hp (gf h4 fun _ s5 hz=>kE hz fun x H5 I5 r5 ⟨y5,st5,fr5⟩=>?_)
  have I5':=I5.pinned (stat fr5) (T.obj _ _ st5)
  refine wpAny_passesOwn hp (gf (hg _ s5 σ3 H5 x u _ I5' r5 (step x H5 y5)) fun _ s6 hz=>ex4 hz fun σ6 H6 I6 q6=>?_)
  refine wpAny_passesOwn hp (gf (hb _ s6 σ6 H6 _ I6 q6) fun f s7 q7=>?_)
  have again:∀{σ7:St} {H7:Hp},Inv X (pins++V9 fp s5.heap) σ7 H7 s7->N σ7 H7->∃m,m<n/\∃i σ' H',Inv X pins σ' H' s7/\tn i s7.heap/\(∀b∈fp,H' b=none)/\W i m σ' H':=fun {σ7 H7} I7 n7=>by
   obtain⟨m',hm,w7⟩:=hN σ7 H7 n7
   refine⟨m',hm,i+1,σ7,H7,I7.Kv,T.keep _ _ _ st5 fun b hb o e=>(I7.pin (b,o) (List.mem_append_right _ (List.mem_append_right _ (yJ hb e)))).1,fun b hb=>?_,w7⟩
   obtain⟨o,e,d⟩:=T.obj _ _ st5 b hb
   exact(I7.pin (b,o) (List.mem_append_right _ (List.mem_append_right _ (yJ hb e)))).2.1
  cases f with
  | next=>obtain⟨σ7,H7,I7,n7⟩:=q7;exact again I7 n7
  | cont=>obtain⟨σ7,H7,I7,n7⟩:=q7;exact again I7 n7
  | brk=>obtain⟨σ7,H7,I7,q7⟩:=q7;exact⟨σ7,H7,I7.Kv,q7⟩
  | ret v=>obtain⟨x7,σ7,H7,I7,r7,q7⟩:=q7;exact⟨x7,σ7,H7,I7.Kv,r7,q7⟩
end
theorem wV{K:PySem.W.Frag}{a:Addr}{xs:List V}{g:TG}{tb:TS}{D:Ends}{σ:St}{H:Hp}(Pv:Nat->St->Hp->Prop)(h0:Pv 0 σ H)(hl:∀i σ H,i<=xs.length->Pv i σ H->cu K H a xs)
 (hs:∀i x σ H,xs[i]? = some x->Pv i σ H->g x σ H fun σ2 H2=>tb {D with nx:=Pv (i+1),ct:=Pv (i+1),bk:=D.nx} σ2 H2) (hd:∀σ H,Pv xs.length σ H->D.nx σ H) :
 ∃W:Nat->Nat->St->Hp->Prop,(∃m,W 0 m σ H)/\∀i m σ H,W i m σ H->
  ((Itl K a).stop i H/\D.nx σ H)\/((Itl K a).go i H/\∃N:St->Hp->Prop,(∀σ' H',N σ' H'->∃m',m'<m/\W (i+1) m' σ' H')/\∀x H',(Itl K a).yld i H x H'->g x σ H' fun σ2 H2=>tb {D with nx:=N,ct:=N,bk:=D.nx} σ2 H2):=by
 refine⟨fun i m σ H=>m=xs.length - i/\i<=xs.length/\Pv i σ H,⟨xs.length,by simp,Nat.zero_le _,h0⟩,?_⟩
 rintro i m σ H ⟨rfl,hi,p⟩
 have q:=hl i σ H hi p
 by_cases hlt:i<xs.length
 ·refine .inr ⟨⟨xs,xs[i],q,by simp[hlt]⟩,Pv (i+1),fun σ' H' p'=>⟨xs.length - (i+1),by lia,rfl,hlt,p'⟩,fun x H' y=>?_⟩
  obtain⟨e,y⟩:=y
  subst e
  exact hs i x σ _ (y xs q) p
 ·have e:i=xs.length:=by lia
  subst e
  exact .inl ⟨⟨xs,q,Nat.le_refl _⟩,hd σ H p⟩
theorem Pr{lo:Int}{n:Nat}{g:TG}{tb:TS}{D:Ends}{σ:St}{H:Hp}(Pv:Nat->St->Hp->Prop)(h0:Pv 0 σ H)
 (hs:∀i σ H,i<n->Pv i σ H->g (.int (lo+i)) σ H fun σ2 H2=>tb {D with nx:=Pv (i+1),ct:=Pv (i+1),bk:=D.nx} σ2 H2) (hd:∀σ H,Pv n σ H->D.nx σ H) :
 ∃W:Nat->Nat->St->Hp->Prop,(∃m,W 0 m σ H)/\∀i m σ H,W i m σ H->
  ((Itr lo n).stop i H/\D.nx σ H)\/((Itr lo n).go i H/\∃N:St->Hp->Prop,(∀σ' H',N σ' H'->∃m',m'<m/\W (i+1) m' σ' H')/\∀x H',(Itr lo n).yld i H x H'->g x σ H' fun σ2 H2=>tb {D with nx:=N,ct:=N,bk:=D.nx} σ2 H2):=by
 refine⟨fun i m σ H=>m=n - i/\i<=n/\Pv i σ H,⟨n,by simp,Nat.zero_le _,h0⟩,?_⟩
 rintro i m σ H ⟨rfl,hi,p⟩
 by_cases hlt:i<n
 ·refine .inr ⟨hlt,Pv (i+1),fun σ' H' p'=>⟨n - (i+1),by lia,rfl,hlt,p'⟩,fun x H' y=>?_⟩
  obtain⟨e,y⟩:=y
  subst e y
  exact hs i σ _ hlt p
 ·have e:i=n:=by lia
  subst e
  exact .inl ⟨Nat.le_refl _,hd σ H p⟩
end L2
namespace L2
open PySem PySem.Spec PyProof.Rows
abbrev R2:=V->V->Hp->VK->Prop
def VP(X:Cx)(f:Value->Value->Sem Value)(r:R2):Prop :=
 ∀(pins:List (Addr×Obj)) (s:Shared) (σ:St) (H:Hp) (x y:V) (v u:Value) (Q:VK),Inv X pins σ H s->RelV x v->RelV y u->r x y H Q->
  wpAny (model X.prog X.w) X.A (f v u) (EP X pins σ Q) X.xe s
def UnR(X:Cx)(f:Value->Sem Value)(r:V->Hp->VK->Prop):Prop :=
 ∀(pins:List (Addr×Obj)) (s:Shared) (σ:St) (H:Hp) (x:V) (v:Value) (Q:VK),Inv X pins σ H s->RelV x v->r x H Q->
  wpAny (model X.prog X.w) X.A (f v) (EP X pins σ Q) X.xe s
def Rq(X:Cx)(f:Value)(r:List V->Hp->VK->Prop):Prop :=
 ∀(pins:List (Addr×Obj)) (s:Shared) (σ:St) (H:Hp) (xs:List V) (us:List Value) (Q:VK),Inv X pins σ H s->Vals xs us->r xs H Q->
  wpAny (model X.prog X.w) X.A (call f us) (EP X pins σ Q) X.xe s
def axE(X:Cx)(r:V->Hp->(Bool->Hp->Prop)->Prop):Prop :=
 ∀(pins:List (Addr×Obj)) (s:Shared) (σ:St) (H:Hp) (x:V) (v:Value) (Q:Bool->Hp->Prop),Inv X pins σ H s->RelV x v->r x H Q->
  wpAny (model X.prog X.w) X.A (truthy v) (TP X pins σ Q) X.xe s
def Wa(r:R2)(ta tb:TE):TE:=fun σ H Q=>ta σ H fun x H1=>tb σ H1 fun y H2=>r x y H2 Q
def tUn(r:V->Hp->VK->Prop)(ta:TE):TE:=fun σ H Q=>ta σ H fun x H1=>r x H1 Q
def rI(C:Int->Int->Prop)(g:Int->Int->V):R2:=fun x y H Q=>∃i j,x=.int i/\y=.int j/\C i j/\Q (g i j) H
def rI0(g:Int->Int->V):R2:=fun x y H Q=>∃i j,x=.int i/\y=.int j/\Q (g i j) H
def rU(g:Int->V):V->Hp->VK->Prop:=fun x H Q=>∃i,x=.int i/\Q (g i) H
section
variable{X:Cx}{a b c:Expr}{ta tb tc:TE}{pos:Pos}
theorem aqM(ha:PE X a ta)(hb:PE X b tb){pins:List (Addr×Obj)}{s:Shared}{σ:St}{H:Hp}{R:V->V->Hp->Prop}(I:Inv X pins σ H s)
 (h:ta σ H fun x H1=>tb σ H1 fun y H2=>R x y H2) {Q:Value->Shared->Prop} {f:Value->Value->Sem Value}
 (hf:∀v u s2 x y H2,Inv X pins σ H2 s2->RelV x v->RelV y u->R x y H2->wpAny (model X.prog X.w) X.A (f v u) Q X.xe s2) :
 wpAny (model X.prog X.w) X.A (eval a X.env) (fun v s₁=>wpAny (model X.prog X.w) X.A (eval b X.env) (fun u s₂=>wpAny (model X.prog X.w) X.A (f v u) Q X.xe s₂) X.xe s₁) X.xe s:=by
 refine gf (ha pins s σ H _ I h) fun v s1 hz=>kE hz fun x H1 I1 r1 q1=>?_
 refine gf (hb pins s1 σ H1 _ I1 q1) fun u s2 hz=>kE hz fun y H2 I2 r2 q2=>?_
 exact hf v u s2 x y H2 I2 r1 r2 q2
theorem bF{op:Operator}{r:R2}(ho:VP X (binaryOp op) r)(ha:PE X a ta)(hb:PE X b tb):PE X (.BinOp a op b pos) (Wa r ta tb):=by
 intro pins s σ H Q I h
 exact wpAny_BinOp (aqM ha hb I h fun v u s2 x y H2 I2 rx ry q=>ho pins s2 σ H2 x y v u Q I2 rx ry q)
theorem Rr{op:UnaryOp}{r:V->Hp->VK->Prop}(ho:UnR X (unaryOp op) r)(ha:PE X a ta):PE X (.UnaryOp op a pos) (tUn r ta):=by
 intro pins s σ H Q I h
 exact UnaryOp_ (gf (ha pins s σ H _ I h) fun v s1 hz=>kE hz fun x H1 I1 r1 q1=>ho pins s1 σ H1 x v Q I1 r1 q1)
theorem opI{f:Value->Value->Sem Value}{C:Int->Int->Prop}{g:Int->Int->Int}
 (rule:∀(i j:Int) (t u:Tok) (s:Shared) (Q:Value->Shared->Prop) (E:Value->Shared->Prop),C i j->Q (.int (g i j) s.toks) {s with toks:=s.toks+1}->wpAny (model X.prog X.w) X.A (f (.int i t) (.int j u)) Q E s) :
 VP X f (rI C fun i j=>.int (g i j)):=by
 intro pins s σ H x y v u Q I rx ry h
 obtain⟨i,j,rfl,rfl,hc,q⟩:=h
 obtain⟨t,rfl⟩:=rx
 obtain⟨t',rfl⟩:=ry
 exact rule i j t t' s _ _ hc ⟨.int (g i j),H,I.tok _,⟨_,rfl⟩,q⟩
theorem auz{f:Value->Value->Sem Value}{g:Int->Int->Int}
 (rule:∀(i j:Int) (t u:Tok) (s:Shared) (Q:Value->Shared->Prop) (E:Value->Shared->Prop),Q (.int (g i j) s.toks) {s with toks:=s.toks+1}->wpAny (model X.prog X.w) X.A (f (.int i t) (.int j u)) Q E s) :
 VP X f (rI0 fun i j=>.int (g i j)):=by
 intro pins s σ H x y v u Q I rx ry h
 obtain⟨i,j,rfl,rfl,q⟩:=h
 obtain⟨t,rfl⟩:=rx
 obtain⟨t',rfl⟩:=ry
 exact rule i j t t' s _ _ ⟨.int (g i j),H,I.tok _,⟨_,rfl⟩,q⟩
theorem aqN{f:Value->Value->Sem Value}{g:Int->Int->Bool}
 (rule:∀(i j:Int) (t u:Tok) (s:Shared) (Q:Value->Shared->Prop) (E:Value->Shared->Prop),Q (.bool (g i j)) s->wpAny (model X.prog X.w) X.A (f (.int i t) (.int j u)) Q E s) :
 VP X f (rI0 fun i j=>.bl (g i j)):=by
 intro pins s σ H x y v u Q I rx ry h
 obtain⟨i,j,rfl,rfl,q⟩:=h
 obtain⟨t,rfl⟩:=rx
 obtain⟨t',rfl⟩:=ry
 exact rule i j t t' s _ _ ⟨.bl (g i j),H,I,rfl,q⟩
def auA(i j:Int):Prop:=0<j/\j<1073741824
def axF(i j:Int):Prop:=0<=j/\j<=1000000/\i.natAbs<2 ^ 64
def ajO(i j:Int):Prop:=(-(2 ^ 64)<i/\i<2 ^ 64)\/(-(2 ^ 64)<j/\j<2 ^ 64)
theorem ajO.ok{i j:Int}(h:ajO i j):IntMulOk i j:=by
 rcases h with ⟨h1,h2⟩ | ⟨h1,h2⟩
 ·exact .of_left (intBits_le_64 h1 h2)
 ·exact .of_right (intBits_le_64 h1 h2)
theorem jg:VP X (binaryOp .Add) (rI0 fun i j=>.int (i+j)):=auz fun _ _ _ _ _ _ _ q=>add_int q
theorem Jb:VP X (binaryOp .Sub) (rI0 fun i j=>.int (i - j)):=auz fun _ _ _ _ _ _ _ q=>sub_int q
theorem vN:VP X (binaryOp .Mult) (rI ajO fun i j=>.int (i*j)):=opI fun _ _ _ _ _ _ _ hc q=>mul_int q hc.ok
theorem iK:VP X (binaryOp .FloorDiv) (rI auA fun i j=>.int (i / j)):=opI fun i j _ _ _ _ _ hc q=>by
 have h1:(0:Int)<j:=hc.1
 have h2:j<1073741824:=hc.2
 exact floordiv_int (by lia) (by rw[Int.fdiv_eq_ediv_of_nonneg i (by lia)];exact q) (.inl (PyProof.noPylong_small (by lia)))
theorem eN:VP X (binaryOp .Mod) (rI (fun _ j=>0<j) fun i j=>.int (i % j)):=opI fun i j _ _ _ _ _ hc q=>by
 have h1:(0:Int)<j:=hc
 exact mod_int' (by lia) (by rw[Int.fmod_eq_emod_of_nonneg i (by lia)];exact q)
theorem acd:VP X (binaryOp .Pow) (rI axF fun i j=>.int (i ^ j.toNat)):=opI fun _ _ _ _ _ _ _ hc q=>pow_int_small hc.1 hc.2.1 hc.2.2 q
theorem unI{f:Value->Sem Value}{g:Int->Int}
 (rule:∀(i:Int) (t:Tok) (s:Shared) (Q:Value->Shared->Prop) (E:Value->Shared->Prop),Q (.int (g i) s.toks) {s with toks:=s.toks+1}->wpAny (model X.prog X.w) X.A (f (.int i t)) Q E s) :
 UnR X f (rU fun i=>.int (g i)):=by
 intro pins s σ H x v Q I rx h
 obtain⟨i,rfl,q⟩:=h
 obtain⟨t,rfl⟩:=rx
 exact rule i t s _ _ ⟨.int (g i),H,I.tok _,⟨_,rfl⟩,q⟩
theorem Dy:UnR X (unaryOp .USub) (rU fun i=>.int (-i)):=unI fun _ _ _ _ _ q=>neg_int q
end
def aqO:V->V->Bool
 | .non,.non=>true | .non,.int _=>true | .int _,.non=>true | .non,.bl _=>true | .bl _,.non=>true | .non,.str _=>true | .str _,.non=>true
 | .int _,.int _=>true | .bl _,.bl _=>true | .str _,.str _=>true | .byt _,.byt _=>true
 | .int _,.str _=>true | .str _,.int _=>true | .bl _,.str _=>true | .str _,.bl _=>true
 | _,_=>false
def rEq:R2:=fun x y H Q=>aqO x y=true/\Q (.bl (decide (x=y))) H
def rNe:R2:=fun x y H Q=>aqO x y=true/\Q (.bl (!decide (x=y))) H
theorem aiN{i j:Int}:decide (V.int i=V.int j)=(i == j):=by
 rw[Bool.eq_iff_iff]
 simp
theorem akZ{i j:Bool}:decide (V.bl i=V.bl j)=(i == j):=by
 rw[Bool.eq_iff_iff]
 simp
theorem aiO{i j:Str}:decide (V.str i=V.str j)=(i == j):=by
 rw[Bool.eq_iff_iff]
 simp
theorem aiP{i j:Array UInt8}:decide (V.byt i=V.byt j)=(i.toList == j.toList):=by
 rw[Bool.eq_iff_iff]
 cases i
 cases j
 simp
section
variable{X:Cx}{a b c:Expr}{ta tb tc:TE}{pos:Pos}
theorem eF{pins:List (Addr×Obj)}{σ:St}{H:Hp}{s:Shared}{Q:VK}{k k':Bool}(I:Inv X pins σ H s)(q:Q (.bl k) H)(e:k=k'):EP X pins σ Q (.bool k') s:=by
 subst e
 exact⟨.bl k,H,I,rfl,q⟩
theorem cQ:VP X (compareOp .Eq) rEq:=by
 intro pins s σ H x y v u Q I rx ry h
 obtain⟨hs,q⟩:=h
 cases x with
 | non =>
   cases rx
   cases y with
   | non=>cases ry;exact PySem.EqNone.eq_none_none (eF I q (by simp))
   | bl j=>cases ry;exact PySem.EqNone.eq_none_bool (eF I q (by simp))
   | int j=>obtain⟨t',rfl⟩:=ry;exact PySem.EqNone.eq_none_int (eF I q (by simp))
   | str j=>obtain⟨t',rfl⟩:=ry;exact PySem.EqNone.eq_none_str (eF I q (by simp))
   | _=>exact absurd (show false=true from hs) Bool.false_ne_true
 | bl i =>
   cases rx
   cases y with
   | non=>cases ry;exact PySem.EqNone.eq_bool_none (eF I q (by simp))
   | bl j=>cases ry;exact eq_bool (eF I q akZ)
   | str j=>obtain⟨t',rfl⟩:=ry;exact PySem.EqMixed.eq_bool_str (eF I q (by simp))
   | _=>exact absurd (show false=true from hs) Bool.false_ne_true
 | int i =>
   obtain⟨t,rfl⟩:=rx
   cases y with
   | non=>cases ry;exact PySem.EqNone.eq_int_none (eF I q (by simp))
   | int j=>obtain⟨t',rfl⟩:=ry;exact eq_int (eF I q aiN)
   | str j=>obtain⟨t',rfl⟩:=ry;exact PySem.EqMixed.eq_int_str (eF I q (by simp))
   | _=>exact absurd (show false=true from hs) Bool.false_ne_true
 | str i =>
   obtain⟨t,rfl⟩:=rx
   cases y with
   | non=>cases ry;exact PySem.EqNone.eq_str_none (eF I q (by simp))
   | bl j=>cases ry;exact PySem.EqMixed.eq_str_bool (eF I q (by simp))
   | int j=>obtain⟨t',rfl⟩:=ry;exact PySem.EqMixed.eq_str_int (eF I q (by simp))
   | str j=>obtain⟨t',rfl⟩:=ry;exact eq_str (eF I q aiO)
   | _=>exact absurd (show false=true from hs) Bool.false_ne_true
 | byt i =>
   obtain⟨t,rfl⟩:=rx
   cases y with
   | byt j=>obtain⟨t',rfl⟩:=ry;exact PySem.W.eq_bytes (eF I q aiP)
   | _=>exact absurd (show false=true from hs) Bool.false_ne_true
 | _=>cases y<;>exact absurd (show false=true from hs) Bool.false_ne_true
theorem Ao:VP X (compareOp .NotEq) rNe:=by
 intro pins s σ H x y v u Q I rx ry h
 obtain⟨hs,q⟩:=h
 cases x with
 | non =>
   cases rx
   cases y with
   | non=>cases ry;exact PySem.EqNone.ne_none_none (eF I q (by simp))
   | bl j=>cases ry;exact PySem.EqNone.ne_none_bool (eF I q (by simp))
   | int j=>obtain⟨t',rfl⟩:=ry;exact PySem.EqNone.ne_none_int (eF I q (by simp))
   | str j=>obtain⟨t',rfl⟩:=ry;exact PySem.EqNone.ne_none_str (eF I q (by simp))
   | _=>exact absurd (show false=true from hs) Bool.false_ne_true
 | bl i =>
   cases rx
   cases y with
   | non=>cases ry;exact PySem.EqNone.ne_bool_none (eF I q (by simp))
   | bl j=>cases ry;exact ne_bool (eF I q (congrArg not akZ))
   | str j=>obtain⟨t',rfl⟩:=ry;exact PySem.EqMixed.ne_bool_str (eF I q (by simp))
   | _=>exact absurd (show false=true from hs) Bool.false_ne_true
 | int i =>
   obtain⟨t,rfl⟩:=rx
   cases y with
   | non=>cases ry;exact PySem.EqNone.ne_int_none (eF I q (by simp))
   | int j=>obtain⟨t',rfl⟩:=ry;exact ne_int (eF I q (congrArg not aiN))
   | str j=>obtain⟨t',rfl⟩:=ry;exact PySem.EqMixed.ne_int_str (eF I q (by simp))
   | _=>exact absurd (show false=true from hs) Bool.false_ne_true
 | str i =>
   obtain⟨t,rfl⟩:=rx
   cases y with
   | non=>cases ry;exact PySem.EqNone.ne_str_none (eF I q (by simp))
   | bl j=>cases ry;exact PySem.EqMixed.ne_str_bool (eF I q (by simp))
   | int j=>obtain⟨t',rfl⟩:=ry;exact PySem.EqMixed.ne_str_int (eF I q (by simp))
   | str j=>obtain⟨t',rfl⟩:=ry;exact ne_str (eF I q (congrArg not aiO))
   | _=>exact absurd (show false=true from hs) Bool.false_ne_true
 | byt i =>
   obtain⟨t,rfl⟩:=rx
   cases y with
   | byt j=>obtain⟨t',rfl⟩:=ry;exact PySem.W.ne_bytes (eF I q (congrArg not aiP))
   | _=>exact absurd (show false=true from hs) Bool.false_ne_true
 | _=>cases y<;>exact absurd (show false=true from hs) Bool.false_ne_true
theorem abu:VP X (compareOp .Lt) (rI0 fun i j=>.bl (decide (i<j))):=aqN fun _ _ _ _ _ _ _ q=>lt_int q
theorem apZ:VP X (compareOp .Gt) (rI0 fun i j=>.bl (decide (j<i))):=aqN fun _ _ _ _ _ _ _ q=>gt_int q
theorem Wb:VP X (compareOp .GtE) (rI0 fun i j=>.bl (decide (j<=i))):=aqN fun _ _ _ _ _ _ _ q=>ge_int q
theorem bj(b:Expr){op:CmpOp}(h:op≠.In:=by decide)(h2:op≠.NotIn:=by decide):behindInMarks op b=false:=by
 have e1:(op == CmpOp.In)=false:=by cases op<;>first | rfl | exact absurd rfl h
 have e2:(op == CmpOp.NotIn)=false:=by cases op<;>first | rfl | exact absurd rfl h2
 cases b<;>simp[behindInMarks,e1,e2]
theorem mC{op:CmpOp}{r:R2}(ho:VP X (compareOp op) r)(ha:PE X a ta)(hb:PE X b tb)(hm:behindInMarks op b=false):PE X (.Compare a [op] [b] pos) (Wa r ta tb):=by
 intro pins s σ H Q I h
 exact wpAny_Compare1 (aqM ha hb I h fun v u s2 x y H2 I2 rx ry q=>ho pins s2 σ H2 x y v u Q I2 rx ry q) hm
def afh(t:TE):TT:=fun σ H Q=>t σ H fun x H'=>∃k,x=.bl k/\Q k H'
theorem aU{op:CmpOp}{r:R2}(ho:VP X (compareOp op) r)(ha:PE X a ta)(hb:PE X b tb)(hm:behindInMarks op b=false):PT X (.Compare a [op] [b] pos) (afh (Wa r ta tb)):=by
 intro pins s σ H Q I h
 refine wpAny_isTrue_Compare1 (gf (ha pins s σ H _ I h) fun v s1 hz=>kE hz fun x H1 I1 r1 q1=>gf (hb pins s1 σ H1 _ I1 q1) fun u s2 hz=>kE hz fun y H2 I2 r2 q2 =>
  gf (ho pins s2 σ H2 x y v u _ I2 r1 r2 q2) fun c s3 hz=>kE hz fun z H3 I3 r3 ⟨k,e,q3⟩=>?_) hm
 subst e
 cases r3
 exact wpAny_truthy_bool ⟨H3,I3,q3⟩
def auB(K:PySem.W.Frag)(x:V)(H:Hp)(k:Bool):Prop :=
 match x with
 | .non=>k=false
 | .bl b=>k=b
 | .int i=>k=(i != 0)
 | .str y=>y.length<=sizeLine/\k=((y.length:Int) != 0)
 | .byt y=>y.size<=sizeLine/\k=((y.size:Int) != 0)
 | .ref p=>(∃xs,cu K H p xs/\k = !xs.isEmpty)\/(∃xs,di K H p xs/\k = !xs.isEmpty)\/∃kvs,H p=some (.dK kvs)/\k = !kvs.isEmpty
 | _=>False
theorem aht{κ:Type}{kvs:List (κ×V)}{vs:List (κ×Value)}(r:KV kvs vs):(!vs.isEmpty) = !kvs.isEmpty:=by
 cases r<;>rfl
theorem Wc{xs:List V}{its:List Value}(r:Vals xs its):(!its.toArray.isEmpty) = !xs.isEmpty:=by
 cases r<;>simp
theorem Wd:(sizeLine:Nat)<2 ^ 63:=by rw[sizeLine_eq];decide
theorem aqP:axE X (fun x H Q=>∃k,auB X.K x H k/\Q k H):=by
 intro pins s σ H x v Q I rx h
 obtain⟨k,e,q⟩:=h
 have hl:=Wd
 have hs:sizeLine=16777216:=sizeLine_eq
 cases x with
 | non =>
   cases rx
   have e':k=false:=e
   subst e'
   exact truthy_none ⟨H,I,q⟩
 | bl b =>
   cases rx
   have e':k=b:=e
   subst e'
   exact wpAny_truthy_bool ⟨H,I,q⟩
 | int i =>
   obtain⟨t,rfl⟩:=rx
   have e':k=(i != 0):=e
   subst e'
   exact PySem.P.truthy_int ⟨H,I,q⟩
 | str y =>
   obtain⟨t,rfl⟩:=rx
   obtain⟨hy,e'⟩:y.length<=sizeLine/\k=((y.length:Int) != 0):=e
   subst e'
   exact PySem.P.truthy_str (by lia) ⟨H,I.tok _,q⟩
 | byt y =>
   obtain⟨t,rfl⟩:=rx
   obtain⟨hy,e'⟩:y.size<=sizeLine/\k=((y.size:Int) != 0):=e
   subst e'
   exact PySem.W.truthy_bytes (by lia) ⟨H,I.tok _,q⟩
 | ref p =>
   cases rx
   have e':(∃xs,cu X.K H p xs/\k = !xs.isEmpty)\/(∃xs,di X.K H p xs/\k = !xs.isEmpty)\/∃kvs,H p=some (.dK kvs)/\k = !kvs.isEmpty:=e
   rcases e' with ⟨xs,hx,e'⟩ | ⟨xs,hx,e'⟩ | ⟨kvs,hx,e'⟩
   ·subst e'
    obtain⟨its,r,pl,hz⟩:=I.list hx
    have hlen:=r.length
    exact wpAny_truthy_list pl.isList (by simp only[List.size_toArray];lia) ⟨H,I.tok _,by rw[Wc r];exact q⟩
   ·subst e'
    obtain⟨its,r,pl,hz⟩:=I.tuple hx
    have hlen:=r.length
    exact truthy_tuple pl (by simp only[List.size_toArray];lia) ⟨H,I.tok _,by rw[Wc r];exact q⟩
   ·subst e'
    obtain⟨hz,hS,vs,r,m⟩:kvs.length<=sizeLine/\(p == sysModules)=false/\∃vs,KV kvs vs/\s.heap.DictOf (gO X.prog X.w) p vs:=I.hok p _ hx
    have hlen:kvs.length=vs.length:=Paired.length r
    exact wpAny_truthy_dict hS m (by lia) ⟨H,I.tok _,by rw[aht r];exact q⟩
 | _=>exact(show False from e).elim
theorem Dz(ha:PE X a ta)(he:∀whole,isTrue a X.env whole=(do let v <-whole;standAt a.pos;holding [v] (truthy v))) :
 PT X a (fun σ H Q=>ta σ H fun x H'=>∃k,auB X.K x H' k/\Q k H'):=by
 intro pins s σ H Q I h
 exact isTrue_plain (gf (ha pins s σ H _ I h) fun v s1 hz=>kE hz fun x H1 I1 r1 q1=>aqP pins s1 σ H1 x v Q I1 r1 q1) (he _)
theorem ahu:VP X (binaryOp .Add) (fun x y H Q=>∃i j,x=.str i/\y=.str j/\i.length+j.length<=sizeLine/\Q (.str (i++j)) H):=by
 intro pins s σ H x y v u Q I rx ry h
 obtain⟨i,j,rfl,rfl,hz,q⟩:=h
 obtain⟨t,rfl⟩:=rx
 obtain⟨t',rfl⟩:=ry
 exact add_str (fun t' tk=>⟨.str (i++j),H,I.tok _,⟨_,rfl⟩,q⟩) hz
theorem vals1{x:V}{us:List Value}(r:Vals [x] us):∃u,us=[u]/\RelV x u:=by
 cases r with
 | cons r1 r2=>cases r2;exact⟨_,rfl,r1⟩
theorem lW:Rq X (.type "int") (fun xs H Q=>(∃i,xs=[.int i]/\Q (.int i) H)\/∃k,xs=[.bl k]/\Q (.int (if k then 1 else 0)) H):=by
 intro pins s σ H xs us Q I r h
 rcases h with ⟨i,rfl,q⟩ | ⟨k,rfl,q⟩
 ·obtain⟨u,rfl,t,rfl⟩:=vals1 r
  exact call_int_int ⟨.int i,H,I,⟨_,rfl⟩,q⟩
 ·obtain⟨u,rfl,r1⟩:=vals1 r
  cases r1
  exact call_int_bool ⟨.int (if k then 1 else 0),H,I.tok _,⟨_,rfl⟩,q⟩
end
end L2
namespace L2
open PySem PySem.Spec PyProof.Rows
structure ahv(h:Heap)(x dx C:Addr)(mA:Str->Option Value):Prop where
 obj:h.get? x=some (PySem.W.instObj C dx)
 ns:h.Ns1 dx mA
 ne:dx≠x
theorem ajP{h:Heap}{dx:Addr}{mA:Str->Option Value}(n:h.Ns1 dx mA):∃od,h.get? dx=some od/\∀name,PySem.W.lookIn name od=some (mA name):=by
 obtain⟨o,es,ep,ho,hd,hk,_,hm⟩:=n
 refine⟨o,ho,fun name=>?_⟩
 have e:=hm name
 unfold nsFind findBy at e
 rw[<-Array.find?_toList]at e
 unfold PySem.W.lookIn
 rw[hd]
 dsimp only
 split
 ·rename_i y q
  rw[q]at e
  exact congrArg some e
 ·rename_i q
  rw[q]at e
  have a:es.toList.any (·.refKey)=false:=by
   rw[List.any_eq_false]
   intro y hy
   obtain⟨z,t,hkey⟩:=hk y (Array.mem_toList_iff.mp hy)
   simp[DictEntry.refKey,hkey]
  have a':¬es.toList.any (·.refKey)=true:=by rw[a];exact Bool.false_ne_true
  rw[if_neg a']
  exact congrArg some e
theorem ahv.look{h:Heap}{x dx C:Addr}{mA:Str->Option Value}(I:ahv h x dx C mA):∃od,PySem.W.InstAt h x (PySem.W.instObj C dx) C (some od)/\∀name,PySem.W.lookIn name od=some (mA name) :=
 let ⟨od,ho,hl⟩:=ajP I.ns
 ⟨od,⟨I.obj,rfl,rfl,ho⟩,hl⟩
section
variable{prog:Program}{w:World}{A:Around}{E:Value->Shared->Prop}{s:Shared}{K:PySem.W.Frag}{x dx C f:Addr}{mA:Str->Option Value}{name:Str}{v:Value}
theorem get_map{expr:Bool}{Q:Value->Shared->Prop}(X:K.In s.heap)(I:ahv s.heap x dx C mA)(hg:PySem.W.plainGet K C name=true)(hh:PySem.W.hasDictIn K C=true)
 (ha:PySem.W.findIn K (.ref C) name=some none) (hv:mA name=some v) (hv':PySem.W.handedIn v=true) (h:Q v {s with toks:=s.toks+1}) :
 wpAny (model prog w) A (getAttr (.ref x) name expr) Q E s:=by
 obtain⟨od,J,hl⟩:=I.look
 exact PySem.W.get_value X J (PySem.W.plainGet_of hg).1 (PySem.W.findObj_own hh ha rfl (by rw[hl,hv])) hv' h
theorem ak0{pl:Sem Bool}{Q:Value×List Value->Shared->Prop}(X:K.In s.heap)(I:ahv s.heap x dx C mA)(hg:PySem.W.plainGet K C name=true)
 (hf:PySem.W.findIn K (.ref C) name=some (some (.ref f))) (ht:PySem.W.isFn K (.ref f)=true) (hv:mA name=none) (h:Q (.ref f,[.ref x]) s) :
 wpAny (model prog w) A (getMethod (.ref x) name pl) Q E s:=by
 obtain⟨od,J,hl⟩:=I.look
 exact PySem.W.method_fn X J (PySem.W.plainGet_of hg).1 (PySem.W.plainGet_of hg).2 hf (beq_iff_eq.mp ht) (by show(PySem.W.lookIn name od).map (·.isSome)=some false;rw[hl,hv];rfl) h
theorem anv{ns:List Str}{Q:Unit->Shared->Prop}(X:K.In s.heap)(I:ahv s.heap x dx C mA)
 (hs:PySem.W.findIn K (.ref C) "__setattr__"=some (some (.builtin "object.__setattr__"))) (hp:PySem.W.plainOver K C=true) (ht:PySem.W.takerIn K C name=some none) (hh:PySem.W.hasDictIn K C=true)
 (hw:PySem.Within mA ns) (hsz:ns.length<=sizeLine)
 (h:∀h',ahv h' x dx C (fun y=>if y=name then some v else mA y)->Heap.SameBut dx s.heap h'->Q () {s with heap:=h',toks:=s.toks+2}) :
 wpAny (model prog w) A (setAttr (.ref x) name v) Q E s:=by
 obtain⟨od,J,hl⟩:=I.look
 refine PySem.W.set_plain X J hs (PySem.W.osa_open (s:={s with toks:=s.toks+1}) (r:=none) X J hp ht fun b=>?_)
 obtain⟨cd,hc,hd'⟩:=PySem.W.any_some hh
 have hx:s.heap.get? x=some ⟨.ref C,some dx,.plain,#[]⟩:=I.obj
 refine wpAny_bind (wpAny_pure (wpAny_bind (wpAny_bind (wpAny_loadPart hx (wpAny_bind (PySem.W.Looks.here (s:={s with toks:=s.toks+1}) (PySem.W.looks_clsIn X hc) ?_))))))
 rw[hd']
 refine wpAny_pure (a:=some dx) (wpAny_bind (wpAny_pure (wpAny_bind ?_)))
 refine wpAny_nsSet1 (s:={s with toks:=s.toks+1}) I.ns fun h' hn2 hs2=>?_
 obtain⟨oD,esD,epD,hoD,hdD,hcD⟩:=hn2.count (PySem.Within.cons name v hw)
 refine wpAny_bind (wpAny_lookBehind hoD (by rw[hdD];exact pastItsLine_dict (Nat.le_trans hcD (by rw[List.length_cons];lia))) ?_)
 exact wpAny_pure (h _ ⟨(hs2.2 _ (Ne.symm I.ne)).trans I.obj,hn2,I.ne⟩ hs2)
theorem ak1{R:Result->Shared->Prop}{vs:List Value}{kw:List (Str×Value)}(X:K.In s.heap)(hm:PySem.W.makesIn K C=true)
 (hi:PySem.W.findIn K (.ref C) "__init__"=some (some (.ref f))) (hf:PySem.W.typeIn K (.ref f)=some (.type "function"))
 (h:codeAny (model prog w) (A.under (.builtin "type.__call__" ⟨.ref C::vs,kw⟩)) (.call (.ref f) ⟨.ref (s.heap.objs.size+1)::vs,kw⟩) (PySem.W.InitBack (s.heap.objs.size+1) R)
   {s with heap:=(s.heap.push PySem.W.emptyDict).push (PySem.W.instObj C s.heap.objs.size)}) :
 codeAny (model prog w) A (.call (.ref C) ⟨vs,kw⟩) R s:=by
 obtain⟨hh,g,d,t,os⟩:=s
 exact PySem.W.make_core (PySem.W.makes_of X hm) (PySem.W.looks_findIn X hi) (fun self=>PySem.W.bind_fn X self hf) (.inl rfl) h
end
def f9(f:Str)(v:V):List (Str×V)->List (Str×V)
 | []=>[(f,v)]
 | (g,x)::r=>if g=f then(g,v)::r else(g,x)::f9 f v r
theorem jO(f g:Str)(v:V):∀fs:List (Str×V),(f9 f v fs).lookup g=if g=f then some v else fs.lookup g
 | []=>by
   show List.lookup g [(f,v)]=_
   by_cases h:g=f
   ·have hb:(g == f)=true:=beq_iff_eq.mpr h
    simp only[List.lookup,hb,if_pos h]
   ·have hb:(g == f)=false:=beq_eq_false_iff_ne.mpr h
    simp only[List.lookup,hb,if_neg h]
 | (k,x)::r=>by
   have ih:=jO f g v r
   rw[show f9 f v ((k,x)::r)=(if k=f then(k,v)::r else(k,x)::f9 f v r)from rfl]
   by_cases hk:k=f
   ·rw[if_pos hk]
    by_cases h:g=k
    ·have hb:(g == k)=true:=beq_iff_eq.mpr h
     simp only[List.lookup,hb,if_pos (h.trans hk)]
    ·have hb:(g == k)=false:=beq_eq_false_iff_ne.mpr h
     simp only[List.lookup,hb,if_neg (fun e:g=f=>h (e.trans hk.symm))]
   ·rw[if_neg hk]
    by_cases h:g=k
    ·have hb:(g == k)=true:=beq_iff_eq.mpr h
     simp only[List.lookup,hb,if_neg (fun e:g=f=>hk (h.symm.trans e))]
    ·have hb:(g == k)=false:=beq_eq_false_iff_ne.mpr h
     simp only[List.lookup,hb]
     exact ih
theorem Pu(f:Str)(v:V):∀fs:List (Str×V),f∈(f9 f v fs).map (·.1)/\∀g,g∈fs.map (·.1)->g∈(f9 f v fs).map (·.1)
 | []=>⟨by simp[f9],fun g h=>by simp at h⟩
 | (k,x)::r=>by
   obtain⟨i1,i2⟩:=Pu f v r
   rw[show f9 f v ((k,x)::r)=(if k=f then(k,v)::r else(k,x)::f9 f v r)from rfl]
   by_cases hk:k=f
   ·rw[if_pos hk]
    subst hk
    exact⟨by simp,fun g h=>by simpa using h⟩
   ·rw[if_neg hk]
    refine⟨?_,fun g h=>?_⟩
    ·rw[List.map_cons]
     exact List.mem_cons_of_mem _ i1
    ·rw[List.map_cons]at h ⊢
     rcases List.mem_cons.mp h with e | e
     ·exact List.mem_cons.mpr (.inl e)
     ·exact List.mem_cons_of_mem _ (i2 g e)
theorem Ru(f:Str)(v:V):∀fs:List (Str×V),(f9 f v fs).length<=fs.length+1
 | []=>by simp[f9]
 | (k,x)::r=>by
   have ih:=Ru f v r
   rw[show f9 f v ((k,x)::r)=(if k=f then(k,v)::r else(k,x)::f9 f v r)from rfl]
   by_cases hk:k=f
   ·rw[if_pos hk,List.length_cons,List.length_cons];lia
   ·rw[if_neg hk,List.length_cons,List.length_cons];lia
theorem BW.some_of{v:V}{o:Option Value}(r:BW (some v) o):∃u,o=some u/\RelV v u:=by
 cases o with
 | none=>exact(show False from r).elim
 | some u=>exact⟨u,rfl,r⟩
theorem BW.none_of{o:Option Value}(r:BW none o):o=none:=by
 cases o with
 | none=>rfl
 | some u=>exact(show False from r).elim
theorem ajQ{v:V}{u:Value}(r:RelV v u):PySem.W.handedIn u=true:=by
 cases v with
 | non=>cases (show u=Value.none from r);rfl
 | bl b=>cases (show u=Value.bool b from r);rfl
 | int i=>obtain⟨t,e⟩:=(show ∃t,u=Value.int i t from r);cases e;rfl
 | str x=>obtain⟨t,e⟩:=(show ∃t,u=Value.str x t from r);cases e;rfl
 | byt b=>obtain⟨t,e⟩:=(show ∃t,u=Value.bytes b t from r);cases e;rfl
 | flt b=>obtain⟨t,e⟩:=(show ∃t,u=Value.float b t from r);cases e;rfl
 | ref a=>cases (show u=Value.ref a from r);rfl
 | ty n=>cases (show u=Value.type n from r);rfl
section
variable{P:Program}{w:World}{H H':Hp}{h h':Heap}{a C dx:Addr}{fs fs':List (Str×V)}
theorem Kw(hok:Hd P w H h)(e:H a=some (.ins C dx fs)):∃mA,ahv h a dx C mA/\(∀f,BW (fs.lookup f) (mA f))/\PySem.Within mA (fs.map (·.1))/\fs.length<=1000/\H dx=some (.own a):=by
 obtain⟨d,z,ne,ob,mA,n,r,q⟩:=(show fO P w H h a (.ins C dx fs)from hok a _ e)
 exact⟨mA,⟨ob,n,ne⟩,r,q,z,d⟩
end
structure Cls(K:PySem.W.Frag)(C:Addr):Prop where
 pg:PySem.W.plainGet K C Str.empty=true
 hd:PySem.W.hasDictIn K C=true
 po:PySem.W.plainOver K C=true
 sa:PySem.W.findIn K (.ref C) "__setattr__"=some (some (.builtin "object.__setattr__"))
theorem Cls.get{K:PySem.W.Frag}{C:Addr}(c:Cls K C)(f:Str):PySem.W.plainGet K C f=true:=c.pg
def gP(K:PySem.W.Frag)(C:Addr)(f:Str):Prop:=PySem.W.findIn K (.ref C) f=some none
theorem gP.taker{K:PySem.W.Frag}{C:Addr}{f:Str}(n:gP K C f):PySem.W.takerIn K C f=some none:=by
 unfold PySem.W.takerIn
 rw[show PySem.W.findIn K (.ref C) f=some none from n]
 rfl
structure Meth(K:PySem.W.Frag)(C:Addr)(m:Str)(f:Addr):Prop where
 at_:PySem.W.findIn K (.ref C) m=some (some (.ref f))
 fn:PySem.W.isFn K (.ref f)=true
 kp:PySem.W.keepIn K (.ref f)=true
section
variable{X:Cx}{pins:List (Addr×Obj)}{σ:St}{H:Hp}{s:Shared}{a C dx:Addr}{fs:List (Str×V)}{f:Str}{v:V}{A:Around}{E:Value->Shared->Prop}
theorem We{b:Bool}{Q:Value->Shared->Prop}(I:Inv X pins σ H s)(e:H a=some (.ins C dx fs))(c:Cls X.K C)(n:gP X.K C f)(l:fs.lookup f=some v)
 (h:∀u s',Inv X pins σ H s'->RelV v u->Q u s'):wpAny (model X.prog X.w) A (getAttr (.ref a) f b) Q E s:=by
 obtain⟨mA,O,r,_,_,_⟩:=Kw I.hok e
 obtain⟨u,hu,ru⟩:=BW.some_of (v:=v) (o:=mA f) (by rw[<-l];exact r f)
 exact get_map I.wR O (c.get f) c.hd n hu (ajQ ru) (h u _ (I.tok _) ru)
theorem Jc{m:Str}{g:Addr}{pl:Sem Bool}{Q:Value×List Value->Shared->Prop}(I:Inv X pins σ H s)(e:H a=some (.ins C dx fs))(c:Cls X.K C)(k:Meth X.K C m g)(l:fs.lookup m=none)
 (h:Q (.ref g,[.ref a]) s):wpAny (model X.prog X.w) A (getMethod (.ref a) m pl) Q E s:=by
 obtain⟨mA,O,r,_,_,_⟩:=Kw I.hok e
 have hn:mA m=none:=BW.none_of (by rw[<-l];exact r m)
 exact ak0 I.wR O (c.get m) k.at_ k.fn hn h
theorem Wf{y:V}{u:Value}{Q:Unit->Shared->Prop}(I:Inv X pins σ H s)(e:H a=some (.ins C dx fs))(c:Cls X.K C)(n:gP X.K C f)(hl:fs.length<1000)(ry:RelV y u)
 (h:∀s',Inv X pins σ (upd H a (.ins C dx (f9 f y fs))) s'->Q () s'):wpAny (model X.prog X.w) A (setAttr (.ref a) f u) Q E s:=by
 obtain⟨mA,O,r,wi,_,ho⟩:=Kw I.hok e
 have hz:(fs.map (·.1)).length<=sizeLine:=by rw[List.length_map,sizeLine_eq];lia
 refine anv I.wR O c.sa c.po n.taker c.hd wi hz fun h' O' sb=>h _ ?_
 have hd:∃o,h'.get? dx=some o:=let ⟨o,_,_,e',_⟩:=O'.ns;⟨o,e'⟩
 refine I.write (x:=a) (e:=dx) (by rw[e];exact True.intro) (.inr ho) (fun b q hb z=>(sb.2 b hb).trans z) hd ?_
 refine⟨by rw[az O.ne];exact ho,?_,O.ne,O'.obj,_,O'.ns,fun g=>?_,fun g hg=>?_⟩
 ·have:=Ru f y fs;lia
 ·show BW ((f9 f y fs).lookup g) (if g=f then some u else mA g)
  rw[jO]
  by_cases q:g=f
  ·rw[if_pos q,if_pos q];exact ry
  ·rw[if_neg q,if_neg q];exact r g
 ·by_cases q:g=f
  ·rw[q];exact(Pu f y fs).1
  ·refine(Pu f y fs).2 g (wi g fun z=>hg ?_)
   show(if g=f then some u else mA g)=none
   rw[if_neg q];exact z
theorem Inv.made(I:Inv X pins σ H s):Inv X pins σ (upd (upd H s.heap.objs.size (.own (s.heap.objs.size+1))) (s.heap.objs.size+1) (.ins C s.heap.objs.size []))
 {s with heap:=(s.heap.push PySem.W.emptyDict).push (PySem.W.instObj C s.heap.objs.size)}:=by
 have e1:(s.heap.push PySem.W.emptyDict).get? s.heap.objs.size=some PySem.W.emptyDict:=Heap.get?_push_size s.heap rfl
 have e2:((s.heap.push PySem.W.emptyDict).push (PySem.W.instObj C s.heap.objs.size)).get? (s.heap.objs.size+1)=some (PySem.W.instObj C s.heap.objs.size):=by
  have:=Heap.get?_push_size (s.heap.push PySem.W.emptyDict) (o:=PySem.W.instObj C s.heap.objs.size) rfl
  rwa[Heap.size_push]at this
 have e3:(s.heap.push PySem.W.emptyDict).Ns s.heap.objs.size (fun _=>none):=⟨PySem.W.emptyDict,#[],_,e1,rfl,(fun e he=>absurd he (by simp)),fun _=>rfl⟩
 have I1:=I.laid (a:=s.heap.objs.size) (o:=.own (s.heap.objs.size+1)) (h':=s.heap.push PySem.W.emptyDict) (t':=s.toks) (fun b u q=>Heap.get?_push_of_some _ q) (Nat.le_refl _) ⟨_,e1⟩
 refine I1.laid (a:=s.heap.objs.size+1) (o:=.ins C s.heap.objs.size []) (t':=s.toks) (fun b u q=>Heap.get?_push_of_some _ q) (Nat.le_of_eq (Heap.size_push _ _)) ?_
 have ne:s.heap.objs.size≠s.heap.objs.size+1:=Nat.ne_of_lt (Nat.lt_succ_self _)
 refine⟨by rw[az ne,aj],Nat.zero_le _,ne,e2,fun _=>none,(Heap.Ns1.of_empty e3).at fun o q=>Heap.get?_push_of_some _ q,fun _=>True.intro,fun y hy=>absurd rfl hy⟩
theorem anw{prog:Program}{w:World}{env:Env}{e:Expr}{f:Str}{pos:Pos}{s:Shared}{Q:Value->Shared->Prop}(hb:attributeBase e f env (eval e env)=eval e env)
 (h:wpAny (model prog w) A (eval e env) (fun o s₁=>wpAny (model prog w) A (getAttr o f true) Q E s₁) E s):wpAny (model prog w) A (eval (.Attribute e f pos) env) Q E s :=
 Attribute_any_ h (by rw[arm_eval_Attribute,hb])
end
def ace(K:PySem.W.Frag)(ta:TE)(f:Str):TE:=fun σ H Q=>ta σ H fun x H1=>∃a C dx fs v,x=.ref a/\H1 a=some (.ins C dx fs)/\Cls K C/\gP K C f/\fs.lookup f=some v/\Q v H1
def axH(K:PySem.W.Frag)(ta tv:TE)(f:Str):TS:=fun D σ H=>tv σ H fun y H1=>ta σ H1 fun x H2=>∃a C dx fs,x=.ref a/\H2 a=some (.ins C dx fs)/\Cls K C/\gP K C f/\fs.length<1000/\
 D.nx σ (upd H2 a (.ins C dx (f9 f y fs)))
def auC(X:Cx)(op:Operator)(rd:V->V->Hp->VK->Prop):Prop :=
 ∀(pins:List (Addr×Obj)) (s:Shared) (σ:St) (H:Hp) (x y:V) (u v:Value) (Q:VK),Inv X pins σ H s->RelV x u->RelV y v->rd x y H Q->wpAny (model X.prog X.w) X.A (inplaceOp op u v) (EP X pins σ Q) X.xe s
def anx(K:PySem.W.Frag)(ta tv:TE)(rd:V->V->Hp->VK->Prop)(f:Str):TS:=fun D σ H=>ta σ H fun x H1=>∃a C dx fs v,x=.ref a/\H1 a=some (.ins C dx fs)/\Cls K C/\gP K C f/\fs.lookup f=some v/\
 tv σ H1 fun y H2=>rd v y H2 fun z H3=>∃dx' fs',H3 a=some (.ins C dx' fs')/\fs'.length<1000/\D.nx σ (upd H3 a (.ins C dx' (f9 f z fs')))
section
variable{X:Cx}{o e value:Expr}{f:Str}{pos pos' tpos:Pos}{ta tv:TE}
theorem cI(he:PE X e ta)(hb:attributeBase e f X.env (eval e X.env)=eval e X.env):PE X (.Attribute e f pos) (ace X.K ta f):=by
 intro pins s σ H Q I h
 refine anw hb (gf (he pins s σ H _ I h) fun u s1 hz=>kE hz fun x H1 I1 rx ⟨a,C,dx,fs,v,ex,ea,c,n,l,q⟩=>?_)
 subst ex
 obtain rfl:u=Value.ref a:=rx
 exact We I1 ea c n l fun u' s2 I2 ru=>⟨v,H1,I2,ru,q⟩
theorem gh(ha:PE X o ta)(hv:PE X value tv)(hs:swapsWith value (some (.Attribute o f pos')) pos.line X.env=pure false):PS X (.Assign [.Attribute o f pos'] value pos) (axH X.K ta tv f):=by
 intro pins s σ H D I h
 refine plainObj_wpAny_Assign_Attribute (gf (hv pins s σ H _ I h) fun u s1 hz=>kE hz fun y H1 I1 ry q=>gf (ha pins s1 σ H1 _ I1 q) fun ov s2 hz=>kE hz fun x H2 I2 rx ⟨a,C,dx,fs,ex,ea,c,n,l,q2⟩=>?_) hs
 subst ex
 obtain rfl:ov=Value.ref a:=rx
 exact Wf I2 ea c n l ry fun s3 I3=>⟨σ,_,I3,q2⟩
theorem ajR{op:Operator}{rd:V->V->Hp->VK->Prop}(ha:PE X o ta)(hv:PE X value tv)(hop:auC X op rd):PS X (.AugAssign (.Attribute o f tpos) op value pos) (anx X.K ta tv rd f):=by
 intro pins s σ H D I h
 refine wpAny_AugAssign_AttributeAny (gf (ha pins s σ H _ I h) fun ov s1 hz=>kE hz fun x H1 I1 rx ⟨a,C,dx,fs,v,ex,ea,c,n,l,q⟩=>?_)
 subst ex
 obtain rfl:ov=Value.ref a:=rx
 refine We I1 ea c n l fun u s2 I2 ru=>gf (hv pins s2 σ H1 _ I2 q) fun w3 s3 hz=>kE hz fun y H2 I3 ry q3=>gf (hop pins s3 σ H2 v y u w3 _ I3 ru ry q3) fun w4 s4 hz=>kE hz fun z H3 I4 rz ⟨dx',fs',ea',l',q4⟩=>?_
 exact Wf I4 ea' c n l' rz fun s5 I5=>⟨σ,_,I5,q4⟩
def axI:V->V->Hp->VK->Prop:=fun x y H Q=>∃i j,x=.int i/\y=.int j/\Q (.int (i - j)) H
theorem aqQ:auC X .Sub axI:=by
 rintro pins s σ H x y u v Q I rx ry ⟨i,j,rfl,rfl,q⟩
 obtain⟨t,rfl⟩:=(show ∃t,u=Value.int i t from rx)
 obtain⟨t',rfl⟩:=(show ∃t',v=Value.int j t' from ry)
 exact PyProof.Rows.isub_int ⟨.int (i - j),H,I.tok _,⟨_,rfl⟩,q⟩
end
section
variable{X:Cx}{pins:List (Addr×Obj)}{σ:St}{H:Hp}{s:Shared}{A:Around}{E:Value->Shared->Prop}{Q:Value->Shared->Prop}{c:Value}{b:Bool}
inductive Ky (K:PySem.W.Frag) (H:Hp):V->Value->Prop where
 | non:Ky K H .non (.type "NoneType")
 | bl (x:Bool):Ky K H (.bl x) (.type "bool")
 | int (i:Int):Ky K H (.int i) (.type "int")
 | str (x:Str):Ky K H (.str x) (.type "str")
 | flt (x:UInt64):Ky K H (.flt x) (.type "float")
 | lst {a:Addr} {xs:List V} (e:H a=some (.lst xs)):Ky K H (.ref a) (.type "list")
 | frz {a:Addr} {o:Obj} {xs:List V} (e:H a=some (.frz o (.lst xs))):Ky K H (.ref a) (.type "list")
 | tup {a:Addr} {xs:List V} (e:H a=some (.tup xs)):Ky K H (.ref a) (.type "tuple")
 | dK {a:Addr} {kvs:List (Key×V)} (e:H a=some (.dK kvs)):Ky K H (.ref a) (.type "dict")
 | dT {a:Addr} {kvs:List (List Key×V)} (e:H a=some (.dT kvs)):Ky K H (.ref a) (.type "dict")
 | ins {a C dx:Addr} {fs:List (Str×V)} (e:H a=some (.ins C dx fs)) (cl:Cls K C) (ha:PySem.W.findIn K (.ref C) "__class__"=some (some (.builtin "object.__class__")))
    (hn:PySem.W.specialIn K (.builtin "object.__class__") "__get__"=some (some (.builtin "getset_descriptor.__get__"))) (htk:PySem.W.takesIn K (.builtin "object.__class__")=some true)
    (hm:PySem.W.mroIn K C (.type "object")=some true):Ky K H (.ref a) (.ref C)
theorem ajS{x:V}{u t:Value}(I:Inv X pins σ H s)(rx:RelV x u)(ty:Ky X.K H x t)(e:PySem.W.kitOne X.K t c=some b)(h:∀tk,Q (.bool b) {s with toks:=tk}) :
 wpAny (model X.prog X.w) A (call (.builtin "isinstance") [u,c]) Q E s:=by
 cases ty with
 | non=>cases (show u=Value.none from rx);exact PySem.W.kia_one PySem.W.kitx_none I.wR True.intro e (fun z=>nomatch z) h
 | bl y=>cases (show u=Value.bool y from rx);exact PySem.W.kia_one PySem.W.kitx_bool I.wR True.intro e (fun z=>nomatch z) h
 | int i=>obtain⟨t,q⟩:=(show ∃t,u=Value.int i t from rx);cases q;exact PySem.W.kia_one PySem.W.kitx_int I.wR True.intro e (fun z=>nomatch z) h
 | str y=>obtain⟨t,q⟩:=(show ∃t,u=Value.str y t from rx);cases q;exact PySem.W.kia_one PySem.W.kitx_str I.wR True.intro e (fun z=>nomatch z) h
 | flt y=>obtain⟨t,q⟩:=(show ∃t,u=Value.float y t from rx);cases q;exact PySem.W.kia_one PySem.W.kitx_float I.wR True.intro e (fun z=>nomatch z) h
 | @lst a xs ea =>
   cases (show u=Value.ref a from rx)
   obtain⟨_,_,n,_,h1⟩:=(show fO X.prog X.w H s.heap a (.lst xs)from I.hok a _ ea)
   exact PySem.W.kia_one PySem.W.kitx_list I.wR ⟨_,h1,rfl⟩ e (fun z=>nomatch z) h
 | @frz a ob xs ea =>
   cases (show u=Value.ref a from rx)
   obtain⟨_,_,_,n,_,h1⟩:=(show fO X.prog X.w H s.heap a (.frz ob (.lst xs))from I.hok a _ ea)
   exact PySem.W.kia_one PySem.W.kitx_list I.wR ⟨_,h1,rfl⟩ e (fun z=>nomatch z) h
 | @tup a xs ea =>
   cases (show u=Value.ref a from rx)
   obtain⟨_,_,_,p⟩:=(show fO X.prog X.w H s.heap a (.tup xs)from I.hok a _ ea)
   obtain⟨o,h1,h2,_⟩:=p
   exact PySem.W.kia_one PySem.W.kitx_tuple I.wR ⟨o,h1,h2⟩ e (fun z=>nomatch z) h
 | @dK a kvs ea =>
   cases (show u=Value.ref a from rx)
   obtain⟨_,_,vs,_,p⟩:=(show fO X.prog X.w H s.heap a (.dK kvs)from I.hok a _ ea)
   obtain⟨o,es,ep,h1,h2,_⟩:=p
   exact PySem.W.kia_one PySem.W.kitx_dict I.wR ⟨o,h1,h2.1⟩ e (fun z=>nomatch z) h
 | @dT a kvs ea =>
   cases (show u=Value.ref a from rx)
   obtain⟨_,_,xs,_,o,es,ep,h1,h2,_⟩:=(show fO X.prog X.w H s.heap a (.dT kvs)from I.hok a _ ea)
   exact PySem.W.kia_one PySem.W.kitx_dict I.wR ⟨o,h1,h2.1⟩ e (fun z=>nomatch z) h
 | @ins a C dx fs ea cl ha hn htk hm =>
   cases (show u=Value.ref a from rx)
   obtain⟨mA,O,_⟩:=Kw I.hok ea
   obtain⟨od,J,_⟩:=O.look
   exact PySem.W.kia_one (PySem.W.kitx_own (cl.get _) cl.hd ha hn htk hm) I.wR J e (fun z=>nomatch z) h
end
end L2
namespace L2
open PySem PySem.Spec PyProof.Rows
structure bQ(k:Nat)(A:Around):Prop where
 hd:A.handled=none
 dp:A.depth+3*k+5<recursionLimit
 un:A.units+16*k+200<cLine
theorem bQ.mono{j k:Nat}{A:Around}(r:bQ k A)(h:j<=k):bQ j A:=⟨r.hd,by have:=r.dp;lia,by have:=r.un;lia⟩
theorem bQ.deeper{k:Nat}{A:Around}(r:bQ (k+1) A)(env:Env):bQ k (A.deeper env) :=
 ⟨r.hd,by have:=r.dp;show A.depth+1+3*k+5<_;lia,by have:=r.un;show A.units+3+16*k+200<_;lia⟩
theorem ahw{A:Around}{C:Addr}{us:List Value}{kw:List (Str×Value)}:(A.under (.builtin "type.__call__" ⟨.ref C::us,kw⟩)).depth=A.depth+1:=by
 first | rfl | simp[Around.under,Code.weight,Code.isCreation,Code.isGuard,Code.isCaller,Code.frames,Code.isFrame,guardIds]
theorem ahx{A:Around}{C:Addr}{us:List Value}{kw:List (Str×Value)}:(A.under (.builtin "type.__call__" ⟨.ref C::us,kw⟩)).units=A.units+1:=by
 first | rfl | simp[Around.under,Code.cUnits,Code.frames,Code.isFrame]
theorem bQ.make{k:Nat}{A:Around}(r:bQ (k+1) A)(C:Addr)(us:List Value)(kw:List (Str×Value)):bQ k (A.under (.builtin "type.__call__" ⟨.ref C::us,kw⟩)) :=
 ⟨r.hd,by have:=r.dp;rw[ahw];lia,by have:=r.un;rw[ahx];lia⟩
theorem bQ.depth{k:Nat}{A:Around}(r:bQ k A):A.depth<recursionLimit:=by have:=r.dp;lia
theorem bQ.units{k:Nat}{A:Around}(r:bQ k A):A.units+64<cLine:=by have:=r.un;lia
theorem bQ.ahy{k:Nat}{A:Around}(r:bQ k A):A.units<cLine:=by have:=r.un;lia
def Hf:TA:=fun _ H Q=>Q [] H
def lX(ta:TE)(tr:TA):TA:=fun σ H Q=>ta σ H fun x H1=>tr σ H1 fun xs H2=>Q (x::xs) H2
section
variable{X:Cx}{e:Expr}{es:List Expr}{te:TE}{t:TA}{pos:Pos}
theorem aq:PA X [] Hf:=fun _ _ _ _ H Q I h=>Calls.spliced_nil ⟨[],H,I,.nil,h⟩
theorem aa(ha:PE X e te)(hr:PA X es t)(hs:starEach (e::es) X.env=(false,eval e X.env)::starEach es X.env:=by rfl):PA X (e::es) (lX te t):=by
 intro pos pins s σ H Q I h
 rw[hs]
 show wpAny _ _ (spliced ((false,eval e X.env)::backTo pos (starEach es X.env))) _ _ s
 refine Calls.spliced_cons (gf (ha pins s σ H _ I h) fun u s1 hz=>kE hz fun x H1 I1 r1 q1=>?_)
 exact gf (hr pos pins s1 σ H1 _ I1 q1) fun us s2 hz=>kE hz fun xs H2 I2 r2 q2=>⟨x::xs,H2,I2,.cons r1 r2,q2⟩
def ak2(t:TA):TE:=fun σ H Q=>t σ H fun xs H1=>xs.length<=sizeLine/\∀p,H1 p=none->Q (.ref p) (upd H1 p (.tup xs))
def axJ(t:TA):TE:=fun σ H Q=>t σ H fun xs H1=>xs.length<=sizeLine/\∀p,H1 p=none->Q (.ref p) (upd H1 p (.lst xs))
theorem bZ{x1}(h:PA X es t):PE X (.Tuple es x1 pos) (ak2 t):=by
 intro pins s σ H Q I hq
 refine wpAny_Tuple_spliced (gf (h pos pins s σ H _ I hq) fun us s1 hz=>kE hz fun xs H1 I1 r ⟨z,q⟩=>⟨by rw[<-r.length];exact z,?_⟩)
 have hf:H1 s1.heap.objs.size=none:=I1.hok.fresh (Nat.le_refl _)
 refine⟨.ref s1.heap.objs.size,upd H1 s1.heap.objs.size (.tup xs),I1.laid (t':=s1.toks) (fun b u e=>Heap.get?_push_of_some _ e) (Nat.le_refl _) ?_,rfl,q _ hf⟩
 exact⟨z,us,r,⟨_,Heap.get?_push_size _ rfl,rfl,_,rfl⟩⟩
theorem bN(h:PA X es t):PE X (.List es pos) (axJ t):=by
 intro pins s σ H Q I hq
 refine wpAny_List_spliced (gf (h pos pins s σ H _ I hq) fun us s1 hz=>kE hz fun xs H1 I1 r ⟨z,q⟩=>⟨by rw[<-r.length];exact z,?_⟩)
 have hf:H1 s1.heap.objs.size=none:=I1.hok.fresh (Nat.le_refl _)
 refine⟨.ref s1.heap.objs.size,upd H1 s1.heap.objs.size (.lst xs),I1.laid (t':=s1.toks) (fun b u e=>Heap.get?_push_of_some _ e) (Nat.le_refl _) ?_,rfl,q _ hf⟩
 exact⟨z,us,0,r,Heap.get?_push_size _ rfl⟩
end
abbrev Sp:=List V->Hp->VK->XK->Prop
abbrev CXT:=List Env->Hp->Shared->XK->Value->Shared->Prop
structure ahz(P:Program)(w:World)(K:PySem.W.Frag)(mg:Str->Option Value)(base:Heap)(A:Around)(outer:List Env)(s:Shared)(H:Hp):Prop where
 frames:A.frames=some outer
 mod:Mod K mg base
 bs:∀b o,base.get? b=some o->s.heap.get? b=some o/\H b=none
 bsz:base.objs.size<=s.heap.objs.size
 IV:s.heap.FunFrames base outer
 frf:∀b∈frs outer,H b=none
 hok:Hd P w H s.heap
 bare:AllBare s.gens
def CE(outer:List Env)(P:Program)(w:World)(H:Hp)(s:Shared)(Q:VK)(u:Value)(s':Shared):Prop :=
 ∃v H',s'.os=s.os/\AllBare s'.gens/\Un (frs outer) [] H H' s.heap s'.heap/\Hd P w H' s'.heap/\RelV v u/\Q v H'
def CR(CX:CXT)(outer:List Env)(P:Program)(w:World)(H:Hp)(s:Shared)(Q:VK)(E:XK)(r:Result)(s':Shared):Prop :=
 match r with
 | .ok (.ret u)=>CE outer P w H s Q u s'
 | .ok _=>False
 | .error e=>CX outer H s E e s'
structure c7(P:Program)(w:World)(K:PySem.W.Frag)(mg:Str->Option Value)(base:Heap)(CX:CXT)(k:Nat)(f:Addr)(fd:FuncData)(ps:List Str)(sp:Sp):Prop where
 len:∀vs H Q E,sp vs H Q E->vs.length=ps.length
 run:∀(A:Around) (outer:List Env) (s:Shared) (H:Hp) (args:Args) (us:List Value) (vs:List V) (Q:VK) (E:XK),bQ k A->ahz P w K mg base A outer s H->BindsTo s fd args (ps.zip us)->Vals vs us->sp vs H Q E->
  codeAny (model P w) A (.call (.ref f) args) (CR CX outer P w H s Q E) s
theorem ahz.make{P:Program}{w:World}{K:PySem.W.Frag}{mg:Str->Option Value}{base:Heap}{A:Around}{outer:List Env}{s:Shared}{H:Hp}(e:ahz P w K mg base A outer s H)(C:Addr)(us:List Value)(kw:List (Str×Value)) :
 ahz P w K mg base (A.under (.builtin "type.__call__" ⟨.ref C::us,kw⟩)) outer s H:=⟨by first | exact e.frames | (simpa[Around.under,Code.envs,Code.isFrame,pushEnvs] using e.frames),e.mod,e.bs,e.bsz,e.IV,e.frf,e.hok,e.bare⟩
section
variable{X:Cx}{pins:List (Addr×Obj)}{σ:St}{H:Hp}{s s':Shared}
theorem Inv.env0(I:Inv X pins σ H s):ahz X.prog X.w X.K X.mg X.base X.A X.stack s H :=
 ⟨I.ok.frames,I.ok.mod,I.bs,Nat.le_trans I.ok.bsz I.sz,I.stack,I.ab9,I.hok,I.bare⟩
theorem Inv.after{Q:VK}{u:Value}(I:Inv X pins σ H s)(h:CE X.stack X.prog X.w H s Q u s'):EP X pins σ Q u s':=by
 obtain⟨v,H',os,bare,un,hok,r,q⟩:=h
 obtain⟨hh,g,d,t,os'⟩:=s'
 obtain rfl:os'=s.os:=os
 exact⟨v,H',I.call (h':=hh) (g':=g) (d':=d) (t':=t) (ch:=[]) un hok bare (fun b z=>absurd z (by simp)),r,q⟩
end
def ak3(sp:Sp)(Wg:List V)(E:XK)(t:TA):TE:=fun σ H Q=>t σ H fun vs H1=>sp (vs++Wg) H1 Q E
def ap0(C:Addr)(m:Str)(sp:Sp)(Wg:List V)(E:XK)(ta:TE)(t:TA):TE:=fun σ H Q=>ta σ H fun x H1=>∃a dx fs,x=.ref a/\H1 a=some (.ins C dx fs)/\fs.lookup m=none/\
 t σ H1 fun vs H2=>sp (x::(vs++Wg)) H2 Q E
def ap1(C:Addr)(sp:Sp)(Wg:List V)(E:XK)(t:TA):TE:=fun σ H Q=>t σ H fun vs H1=>∀x dx,H1 x=none->H1 dx=none->dx≠x->
 sp (.ref x::(vs++Wg)) (upd (upd H1 dx (.own x)) x (.ins C dx [])) (fun v H2=>v=.non/\Q (.ref x) H2) E
def Binds(K:PySem.W.Frag)(fd:FuncData)(ps:List Str)(ds:List Value):Prop :=
 ∀(s:Shared) (us:List Value),K.In s.heap->(us++ds).length=ps.length->BindsTo s fd ⟨us,[]⟩ (ps.zip (us++ds))
theorem Binds.all{K:PySem.W.Frag}{fd:FuncData}{ps:List Str}(h:∀us:List Value,us.length=ps.length->bindArgs fd ⟨us,[]⟩=pure (ps.zip us)):Binds K fd ps []:=fun s us _ hl=>by
 rw[List.append_nil]at hl ⊢
 exact .of_eq (h us hl)
def Passes(CX:CXT)(X:Cx)(E:XK):Prop:=∀(pins:List (Addr×Obj)) (σ:St) (H:Hp) (s:Shared) (e:Value) (s':Shared),Inv X pins σ H s->CX X.stack H s E e s'->X.xe e s'
section
variable{X:Cx}{CX:CXT}{k:Nat}{f C:Addr}{fd:FuncData}{ps:List Str}{sp:Sp}{Wg:List V}{ds:List Value}{E:XK}{x m:Str}{p pos apos:Pos}{e o:Expr}{es:List Expr}{ta:TE}{t:TA}
theorem ahA{pins:List (Addr×Obj)}{σ:St}{H:Hp}{s:Shared}{Q:VK}{us:List Value}{vs:List V}(F:c7 X.prog X.w X.K X.mg X.base CX k f fd ps sp)(hr:bQ k X.A)(hb:Binds X.K fd ps ds)(hd:Vals Wg ds)(hx:Passes CX X E)
 (I:Inv X pins σ H s) (r:Vals vs us) (h:sp (vs++Wg) H Q E):wpAny (model X.prog X.w) X.A (call (.ref f) us) (EP X pins σ Q) X.xe s:=by
 have r2:Vals (vs++Wg) (us++ds):=r.append hd
 have hl:(us++ds).length=ps.length:=by rw[<-r2.length];exact F.len _ _ _ _ h
 refine wpAny_call (codeAny_mono (F.run X.A X.stack s H ⟨us,[]⟩ (us++ds) (vs++Wg) Q E hr I.env0 (hb s us I.wR hl) r2 h) fun r s' hq=>?_)
 cases r with
 | error e=>exact hx pins σ H s e s' I hq
 | ok fl =>
   cases fl with
   | ret u=>exact I.after hq
   | next=>exact False.elim hq
   | brk=>exact False.elim hq
   | cont=>exact False.elim hq
theorem cC(F:c7 X.prog X.w X.K X.mg X.base CX k f fd ps sp)(hr:bQ k X.A)(hg:Gl X x)(hm:X.mg x=some (.ref f))(hk:PySem.W.keepIn X.K (.ref f)=true)(hb:Binds X.K fd ps ds)(hd:Vals Wg ds)(hx:Passes CX X E)
 (ha:PA X (e::es) t) (hdb:(x == ("__debug__":Str))=false:=by decide) (he:starEach (e::es) X.env=(false,eval e X.env)::starEach es X.env:=by rfl) (hpl:(backTo pos (starEach es X.env)).any (·.1)=false:=by rfl) :
 PE X (.Call (.Name x p) (e::es) [] pos) (ak3 sp Wg E t):=by
 intro pins s σ H Q I h
 refine wpAny_Call_Name_kw (yG I hg hm ?_ hdb)
 refine PySem.W.callWith_K (h₀:=X.base) I.ok.mod.kin hk (gf (ha pos pins s σ H _ I h) fun us s1 hz=>kE hz fun vs H1 I1 r q=>⟨I1.wR,?_⟩) he hpl
 exact ahA F hr hb hd hx I1 r q
theorem cF{pl:Sem Bool}(he:PE X o ta)(c:Cls X.K C)(hm:Meth X.K C m f)(F:c7 X.prog X.w X.K X.mg X.base CX k f fd ps sp)(hr:bQ k X.A)(hb:Binds X.K fd ps ds)(hd:Vals Wg ds)(hx:Passes CX X E)(ha:PA X (e::es) t)
 (hst:starEach (e::es) X.env=(false,eval e X.env)::starEach es X.env:=by rfl) (hpl:(backTo pos (starEach es X.env)).any (·.1)=false:=by rfl)
 (ht:eval (.Call (.Attribute o m apos) (e::es) [] pos) X.env=(do
   let ov <-eval o X.env
   standAt apos.atName
   let (f,first) <-holding [ov] (getMethod ov m pl)
   callWith pos f first (backTo pos (starEach (e::es) X.env)) (backToKw pos (keywordEach [] X.env))):=by rfl) :
 PE X (.Call (.Attribute o m apos) (e::es) [] pos) (ap0 C m sp Wg E ta t):=by
 intro pins s σ H Q I h
 refine PySem.W.methodCall_KW (pl:=pl) (gf (he pins s σ H _ I h) fun u s1 hz=>kE hz fun x H1 I1 rx ⟨a,dx,fs,ex,ea,l,q⟩=>?_) ht
 subst ex
 obtain rfl:u=Value.ref a:=rx
 refine Jc I1 ea c hm l ?_
 refine PySem.W.callWith_K (first:=[.ref a]) (h₀:=X.base) I.ok.mod.kin hm.kp (gf (ha pos pins s1 σ H1 _ I1 q) fun us s2 hz=>kE hz fun vs H2 I2 r q2=>⟨I2.wR,?_⟩) hst hpl
 exact ahA (us:=.ref a::us) (vs:=.ref a::vs) F hr hb hd hx I2 (.cons rfl r) q2
theorem pG{pl:Sem Bool}(he:PE X o ta)(c:Cls X.K C)(hm:Meth X.K C m f)(F:c7 X.prog X.w X.K X.mg X.base CX k f fd ps sp)(hr:bQ k X.A)(hb:Binds X.K fd ps ds)(hd:Vals Wg ds)(hx:Passes CX X E)
 (ht:eval (.Call (.Attribute o m apos) [] [] pos) X.env=(do
   let ov <-eval o X.env
   standAt apos.atName
   let (f,first) <-holding [ov] (getMethod ov m pl)
   callWith pos f first (backTo pos (starEach [] X.env)) (backToKw pos (keywordEach [] X.env))):=by rfl) :
 PE X (.Call (.Attribute o m apos) [] [] pos) (ap0 C m sp Wg E ta Hf):=by
 intro pins s σ H Q I h
 refine PySem.W.methodCall_KW (pl:=pl) (gf (he pins s σ H _ I h) fun u s1 hz=>kE hz fun x H1 I1 rx ⟨a,dx,fs,ex,ea,l,q⟩=>?_) ht
 subst ex
 obtain rfl:u=Value.ref a:=rx
 refine Jc I1 ea c hm l ?_
 exact PySem.W.callWith_K0 (first:=[.ref a]) I1.wR hm.kp (ahA (us:=[.ref a]) (vs:=[.ref a]) F hr hb hd hx I1 (.cons rfl .nil) q)
structure Mk(K:PySem.W.Frag)(C f:Addr):Prop where
 makes:PySem.W.makesIn K C=true
 init:PySem.W.findIn K (.ref C) "__init__"=some (some (.ref f))
 fn:PySem.W.isFn K (.ref f)=true
 kp:PySem.W.keepIn K (.ref C)=true
theorem afi{pins:List (Addr×Obj)}{σ:St}{H:Hp}{s:Shared}{Q:VK}{us:List Value}{vs:List V}(M:Mk X.K C f)(F:c7 X.prog X.w X.K X.mg X.base CX k f fd ps sp)(hr:bQ (k+1) X.A)(hb:Binds X.K fd ps ds)(hd:Vals Wg ds)
 (hx:Passes CX X E) (I:Inv X pins σ H s) (r:Vals vs us)
 (h:∀x dx,H x=none->H dx=none->dx≠x->sp (.ref x::(vs++Wg)) (upd (upd H dx (.own x)) x (.ins C dx [])) (fun v H2=>v=.non/\Q (.ref x) H2) E) :
 wpAny (model X.prog X.w) X.A (call (.ref C) us) (EP X pins σ Q) X.xe s:=by
 have hq:=h (s.heap.objs.size+1) s.heap.objs.size (I.hok.fresh (Nat.le_succ _)) (I.hok.fresh (Nat.le_refl _)) (Nat.ne_of_lt (Nat.lt_succ_self _))
 have I2:=Inv.made (C:=C) I
 have r2:Vals (V.ref (s.heap.objs.size+1)::(vs++Wg)) (Value.ref (s.heap.objs.size+1)::(us++ds)):=.cons rfl (r.append hd)
 have hl:(Value.ref (s.heap.objs.size+1)::us++ds).length=ps.length:=by
  have e:=r2.length
  rw[F.len _ _ _ _ hq]at e
  exact e.symm
 refine wpAny_call (ak1 (f:=f) I.wR M.makes M.init (beq_iff_eq.mp M.fn) (codeAny_mono (F.run _ X.stack _ _ ⟨Value.ref (s.heap.objs.size+1)::us,[]⟩ (Value.ref (s.heap.objs.size+1)::(us++ds)) _ _ E (hr.make C us [])
  (I2.env0.make C us []) (hb _ (Value.ref (s.heap.objs.size+1)::us) I2.wR hl) r2 hq) fun r s' hq'=>?_))
 cases r with
 | error e=>exact hx pins σ _ _ e s' I2 hq'
 | ok fl =>
   cases fl with
   | ret u =>
     obtain⟨v,H',I3,rv,ev,q3⟩:=I2.after hq'
     subst ev
     exact⟨rv,⟨V.ref (s.heap.objs.size+1),H',I3,rfl,q3⟩⟩
   | next=>exact False.elim hq'
   | brk=>exact False.elim hq'
   | cont=>exact False.elim hq'
theorem acf(M:Mk X.K C f)(F:c7 X.prog X.w X.K X.mg X.base CX k f fd ps sp)(hr:bQ (k+1) X.A)(hg:Gl X x)(hm:X.mg x=some (.ref C))(hb:Binds X.K fd ps ds)(hd:Vals Wg ds)(hx:Passes CX X E)
 (ha:PA X (e::es) t) (hdb:(x == ("__debug__":Str))=false:=by decide) (he:starEach (e::es) X.env=(false,eval e X.env)::starEach es X.env:=by rfl) (hpl:(backTo pos (starEach es X.env)).any (·.1)=false:=by rfl) :
 PE X (.Call (.Name x p) (e::es) [] pos) (ap1 C sp Wg E t):=by
 intro pins s σ H Q I h
 refine wpAny_Call_Name_kw (yG I hg hm ?_ hdb)
 refine PySem.W.callWith_K (h₀:=X.base) I.ok.mod.kin M.kp (gf (ha pos pins s σ H _ I h) fun us s1 hz=>kE hz fun vs H1 I1 r q=>⟨I1.wR,?_⟩) he hpl
 exact afi M F hr hb hd hx I1 r q
theorem ak4(M:Mk X.K C f)(F:c7 X.prog X.w X.K X.mg X.base CX k f fd ps sp)(hr:bQ (k+1) X.A)(hg:Gl X x)(hm:X.mg x=some (.ref C))(hb:Binds X.K fd ps ds)(hd:Vals Wg ds)(hx:Passes CX X E)
 (hdb:(x == ("__debug__":Str))=false:=by decide):PE X (.Call (.Name x p) [] [] pos) (ap1 C sp Wg E Hf):=by
 intro pins s σ H Q I h
 refine wpAny_Call_Name_kw (yG I hg hm ?_ hdb)
 exact PySem.W.callWith_K0 I.wR M.kp (afi (us:=[]) M F hr hb hd hx I .nil h)
end
section
variable{X:Cx}{CX:CXT}{k:Nat}{f C:Addr}{fd:FuncData}{ps ks:List Str}{sp:Sp}{E:XK}{x m:Str}{p pos apos aAM:Pos}{e o:Expr}{es:List Expr}{kws:List Keyword}{te ta:TE}{t tk:TA}{nm:Option Str}
variable{g:List Value->List Value->List Value}{gV:List V->List V->List V}
end
structure bA(N P:List Str)(sc:Scope):Prop where
 kind:sc.kind=.function
 co:sc.isCoroutine=false
 gen:sc.isGenerator=false
 nd:N.Nodup
 pre:N.take P.length=P
 par:∀x∈P,sc.names.lookup x=some .local\/sc.names.lookup x=some .cell
 aqR:∀y∈sc.names,y.2≠.free
theorem abv{kindOf:Str->Option NameKind}{x:Str}:∀{binds:List (Str×Value)} {m:Str->Option Value},(∀v,(x,v)∉binds)->bindL kindOf binds m x=m x
 | [],_,_=>rfl
 | (n,v)::r,m,h=>by
   unfold bindL
   rw[abv fun w hw=>h w (List.mem_cons_of_mem _ hw)]
   split
   ·have:x≠n:=by rintro rfl;exact h v List.mem_cons_self
    simp[this]
   ·rfl
theorem abw{kindOf:Str->Option NameKind}{x:Str}:∀{binds:List (Str×Value)} {m:Str->Option Value},(∀v,(x,v)∉binds)->bindC kindOf binds m x=m x
 | [],_,_=>rfl
 | (n,v)::r,m,h=>by
   unfold bindC
   rw[abw fun w hw=>h w (List.mem_cons_of_mem _ hw)]
   split
   ·rfl
   ·have:x≠n:=by rintro rfl;exact h v List.mem_cons_self
    simp[this]
theorem abx{kindOf:Str->Option NameKind}{x:Str}{v:Value}:∀{P:List Str} {vs:List Value} {i:Nat} {m:Str->Option Value},P.Nodup->P[i]? = some x->vs[i]? = some v->kindOf x=some .local->
 bindL kindOf (P.zip vs) m x=some v
 | [],_,_,_,_,h,_,_=>by simp at h
 | _::_,[],_,_,_,_,h,_=>by simp at h
 | p::P,w::vs,0,m,nd,h1,h2,hk=>by
   simp at h1 h2;subst h1;subst h2
   show bindL kindOf ((p,w)::P.zip vs) m p=_
   unfold bindL
   rw[abv fun v hv=>(List.nodup_cons.mp nd).1 (List.of_mem_zip hv).1,if_pos hk]
   simp
 | p::P,w::vs,i+1,m,nd,h1,h2,hk=>by
   show bindL kindOf ((p,w)::P.zip vs) m x=_
   unfold bindL
   exact abx (i:=i) (List.nodup_cons.mp nd).2 (by simpa using h1) (by simpa using h2) hk
theorem aby{kindOf:Str->Option NameKind}{x:Str}{v:Value}:∀{P:List Str} {vs:List Value} {i:Nat} {m:Str->Option Value},P.Nodup->P[i]? = some x->vs[i]? = some v->kindOf x≠some .local->
 bindC kindOf (P.zip vs) m x=some v
 | [],_,_,_,_,h,_,_=>by simp at h
 | _::_,[],_,_,_,_,h,_=>by simp at h
 | p::P,w::vs,0,m,nd,h1,h2,hk=>by
   simp at h1 h2;subst h1;subst h2
   show bindC kindOf ((p,w)::P.zip vs) m p=_
   unfold bindC
   rw[abw fun v hv=>(List.nodup_cons.mp nd).1 (List.of_mem_zip hv).1,if_neg hk]
   simp
 | p::P,w::vs,i+1,m,nd,h1,h2,hk=>by
   show bindC kindOf ((p,w)::P.zip vs) m x=_
   unfold bindC
   exact aby (i:=i) (List.nodup_cons.mp nd).2 (by simpa using h1) (by simpa using h2) hk
def start(N:List Str)(vs:List V):St:=vs.map some++List.replicate (N.length - vs.length) none
def dw(CX:CXT)(P:Program)(w:World)(K:PySem.W.Frag)(mg:Str->Option Value)(base:Heap)(N:List Str)(qual:Str)(scope:Scope)(f:Addr)(cd:Value)(A:Around)(outer:List Env)(s:Shared)(H:Hp)(E:XK):Cx where
 prog:=P
 w:=w
 K:=K
 mg:=mg
 base:=base
 A:=A.deeper (envOfC qual scope s.heap.objs.size f cd)
 N:=N
 s₀:=s
 H₀:=H
 env:=envOfC qual scope s.heap.objs.size f cd
 outer:=outer
 stack:=envOfC qual scope s.heap.objs.size f cd::outer
 ex:=[]
 calm:=true
 fn:=fun _=>true
 pn:=[]
 xe:=fun e s'=>wpAny (model P w) (A.deeper (envOfC qual scope s.heap.objs.size f cd)) (leaving (envOfC qual scope s.heap.objs.size f cd) e) (fun _ s''=>CX outer H s E e s'') (fun e' s''=>CX outer H s E e' s'') s'
theorem afj{sc:Scope}{n:Nat}{x:Str}(h:sc.names.lookup x=some .cell):∃c,(cellsFrom n sc.names []).lookup x=some c:=by
 have q:=PySem.W.cellsFrom_some sc.names n [] (.inl h)
 exact Option.isSome_iff_exists.mp q
theorem ajU{CX:CXT}{P:Program}{w:World}{K:PySem.W.Frag}{mg:Str->Option Value}{base:Heap}{N ps:List Str}{qual:Str}{scope:Scope}{f:Addr}{cd:Value}{A:Around}{outer:List Env}{s s1:Shared}{H:Hp}{E:XK}{us:List Value}{vs:List V}
 (S:bA N ps scope) (hd:A.handled=none) (e0:ahz P w K mg base A outer s H) (hl:vs.length=ps.length) (r:Vals vs us)
 (x:InCallC s s.heap.objs.size (bindL (envOfC qual scope s.heap.objs.size f cd).kindOf (ps.zip us) fun _=>none) (cellsFrom (s.heap.objs.size+1) scope.names []) (bindC (envOfC qual scope s.heap.objs.size f cd).kindOf (ps.zip us) fun _=>none) s1) :
 Inv (dw CX P w K mg base N qual scope f cd A outer s H E) [] (start N vs) H s1:=by
 have hpl:ps.length<=N.length:=by have:=congrArg List.length S.pre;rw[List.length_take]at this;lia
 obtain⟨h1,tk,rfl,hk⟩:=x.done
 have noA:∀b:Addr,b∉(dw CX P w K mg base N qual scope f cd A outer s H E).ex:=fun b z=>absurd (show b∈([]:List Addr)from z) (by simp)
 refine⟨⟨e0.mod,S.kind,rfl,rfl,Nat.le_refl _,fun y z c h1 h2=>?_,fun y hy=>?_,fun y c _ h=>?_,fun _=>hd,Around.frames_deeper e0.frames,.inr ⟨rfl,rfl⟩,fun b z=>absurd z (noA b),e0.bs,e0.bsz,fun b _ _=>noA b,fun b z=>absurd z (noA b),e0.IV,e0.frf⟩,
  rfl,e0.bare,Un.kept hk,⟨_,x.toInCall.ns,fun i y v h1 h2 h3=>?_⟩,fun y c h=>⟨_,x.cell y c h⟩,e0.hok.fresh (Nat.le_refl _),fun y c h=>?_,fun p hp=>absurd (show p∈([]:List (Addr×Obj))from hp) (by simp),e0.hok.kept hk,?_⟩
 ·exact name_of_addr x.apart (PySem.mem_of_lookup h1) (PySem.mem_of_lookup h2)
 ·have hy:scope.names.lookup y=some .cell\/scope.names.lookup y=some .free:=hy
  rcases hy with hy | hy
  ·exact afj hy
  ·exact absurd rfl (S.aqR _ (PySem.mem_of_lookup hy))
 ·exact Nat.le_of_lt (x.above y c (PySem.mem_of_lookup h))
 ·have hi:i<vs.length:=by
   unfold start at h2
   by_cases hi:i<vs.length
   ·exact hi
   ·rw[List.getElem?_append_right (by simpa using hi)]at h2
    rw[List.getElem?_replicate]at h2
    split at h2<;>cases h2
  have ha:vs[i]? = some v:=by
   unfold start at h2
   rw[List.getElem?_append_left (by simpa using hi),List.getElem?_map]at h2
   cases e:vs[i]? with
   | none=>rw[e]at h2;cases h2
   | some a=>rw[e]at h2;cases h2;rfl
  obtain⟨u,hu,rv⟩:=r.get ha
  have hp:ps[i]? = some y:=by
   rw[<-S.pre,List.getElem?_take_of_lt (by lia)];exact h1
  have ndP:ps.Nodup:=by rw[<-S.pre];exact S.nd.sublist (List.take_sublist _ _)
  refine⟨u,rv,?_⟩
  rcases S.par y (List.mem_of_getElem? hp)with k | k
  ·exact .inl ⟨k,abx ndP hp hu k⟩
  ·obtain⟨c,e⟩:=afj (n:=s.heap.objs.size+1) k
   refine .inr ⟨.inl k,c,e,?_⟩
   have q:=x.cell y c e
   rw[aby ndP hp hu (by show scope.names.lookup y≠_;rw[k];decide)]at q
   exact q
 ·exact e0.hok.fresh (Nat.le_of_lt (x.above y c (PySem.mem_of_lookup h)))
 ·unfold start
  show _=N.length
  rw[List.length_append,List.length_map,List.length_replicate]
  lia
theorem ap2{CX:CXT}{P:Program}{w:World}{K:PySem.W.Frag}{mg:Str->Option Value}{base:Heap}{k:Nat}{f:Addr}{name qual:Str}{params:Arguments}{body:List Stmt}{scope:Scope}{dV kV doc pm cdv ct oc:Value}{an od:Option Addr}
 {osl:Array (Option Value)} {N ps:List Str} {sp:Sp} (lk:K.lookup f=some ⟨oc,od,.func (PySem.W.fnOf name qual params body scope dV kV doc pm an cdv ct),osl⟩) (hcd:PySem.W.codeIn K cdv qual=true) (S:bA N ps scope)
 (len:∀vs H Q E,sp vs H Q E->vs.length=ps.length)
 (hbody:∀(A:Around) (outer:List Env) (s:Shared) (H:Hp) (vs:List V) (Q:VK) (E:XK),bQ k (A.deeper (envOfC qual scope s.heap.objs.size f cdv))->sp vs H Q E->
   ∃t,PSs (dw CX P w K mg base N qual scope f cdv A outer s H E) body t/\t {nx:=fun _ H'=>Q .non H',rt:=Q} (start N vs) H) :
 c7 P w K mg base CX (k+1) f (PySem.W.fnOf name qual params body scope dV kV doc pm an cdv ct) ps sp:=by
 refine⟨len,fun A outer s H args us vs Q E hr e0 hb r hsp=>?_⟩
 have hl:=len _ _ _ _ hsp
 have KX:K.In s.heap:=e0.mod.kin.keeps fun b o e=>(e0.bs b o e).1
 have lim:s.heap.NoLimit:=e0.mod.nolimit.keeps fun b o e=>(e0.bs b o e).1
 have hkind:∀y∈ps.zip us,scope.names.lookup y.1=some .local\/(scope.names.lookup y.1=some .cell/\((cellsFrom (s.heap.objs.size+1) scope.names []).lookup y.1).isSome=true):=fun⟨n,v⟩ hy=>by
  rcases S.par n (List.of_mem_zip hy).1 with q | q
  ·exact .inl q
  ·exact .inr ⟨q,PySem.W.cellsFrom_some _ _ _ (.inl q)⟩
 refine codeAny_call_function hr.depth (KX _ _ lk) rfl S.co S.gen rfl (PySem.W.codeRec_of KX hcd) (hb _ _ _ _ ?_)
 refine wpAny_newFunctionEnv_cells S.kind hkind fun env he s1 x=>?_
 subst he
 refine⟨lim.keeps x.toInCall.keep,codeAny_func ?_⟩
 obtain⟨t,ht,hq⟩:=hbody A outer s H vs Q E (hr.deeper _) hsp
 have I:Inv (dw CX P w K mg base N qual scope f cdv A outer s H E) [] (start N vs) H s1:=ajU S hr.hd e0 hl r x
 refine wpAny_mono (ht [] s1 (start N vs) H _ I hq) (fun fl s' hs=>?_) fun e s' hs=>hs
 have fin:∀{σ':St} {H':Hp} {v:V} {u:Value},Inv (dw CX P w K mg base N qual scope f cdv A outer s H E) [] σ' H' s'->RelV v u->Q v H'->CE outer P w H s Q u s' :=
  fun {σ' H' v u} J rv q=>⟨v,H',J.os,J.bare,J.base,J.hok,rv,q⟩
 cases fl with
 | ret u =>
   obtain⟨v,σ',H',J,rv,q⟩:=hs
   exact fin J rv q
 | next =>
   obtain⟨σ',H',J,q⟩:=hs
   exact fin (v:=V.non) (u:=Value.none) J rfl q
 | brk =>
   obtain⟨_,_,_,q⟩:=hs
   exact False.elim q
 | cont =>
   obtain⟨_,_,_,q⟩:=hs
   exact False.elim q
end L2
namespace L2
open PySem PySem.Spec PyProof.Rows
section
variable{X:Cx}{x:Str}{p pos:Pos}{e:Expr}{es:List Expr}{t:TA}{id T:String}{r:List V->Hp->VK->Prop}
def tCB(r:List V->Hp->VK->Prop)(t:TA):TE:=fun σ H Q=>t σ H fun vs H1=>r vs H1 Q
theorem dM(hc:Rq X (.builtin id) r)(hg:Gl X x)(hm:X.mg x=none)(hv:bootBuiltins x=some (.builtin id))(ha:PA X (e::es) t)(hn:x≠"__name__":=by decide) (hdb:(x == ("__debug__":Str))=false:=by decide)
 (he:starEach (e::es) X.env=(false,eval e X.env)::starEach es X.env:=by rfl) (hpl:(backTo pos (starEach es X.env)).any (·.1)=false:=by rfl):PE X (.Call (.Name x p) (e::es) [] pos) (tCB r t):=by
 intro pins s σ H Q I h
 refine wpAny_Call_Name_kw (V7 I hg hm hv ?_ hn hdb)
 exact PyProof.Rows.callWith_builtin1 (gf (ha pos pins s σ H _ I h) fun us s1 hz=>kE hz fun vs H1 I1 r1 q1=>hc pins s1 σ H1 vs us Q I1 r1 q1) he hpl
theorem iQ(hc:Rq X (.type T) r)(hg:Gl X x)(hm:X.mg x=none)(hv:bootBuiltins x=some (.type T))(ha:PA X (e::es) t)(hn:x≠"__name__":=by decide) (hdb:(x == ("__debug__":Str))=false:=by decide)
 (he:starEach (e::es) X.env=(false,eval e X.env)::starEach es X.env:=by rfl) (hpl:(backTo pos (starEach es X.env)).any (·.1)=false:=by rfl):PE X (.Call (.Name x p) (e::es) [] pos) (tCB r t):=by
 intro pins s σ H Q I h
 refine wpAny_Call_Name_kw (V7 I hg hm hv ?_ hn hdb)
 exact PyProof.Rows.callWith_type1 (gf (ha pos pins s σ H _ I h) fun us s1 hz=>kE hz fun vs H1 I1 r1 q1=>hc pins s1 σ H1 vs us Q I1 r1 q1) he hpl
end
end L2
namespace HT
open PySem PyProof.Rows
section
open PySem.SeqAt
open PySem.AutoSeq1 (wpAny_loadPart')
open PySem.MeetsSeq PySem.MeetsSeq2 PySem.MeetsSeq3
end
section
variable{prog:Program}{w:World}{A:Around}{E:Value->Shared->Prop}{s:Shared}
theorem anz{t b:Addr}{vs ws:List Value}{Q:Value->Shared->Prop}(ht:IsTup s.heap t vs.toArray)(hb:IsTup s.heap b ws.toArray)(hv:vs≠[])
 (h1:ws=[]->Q (.ref t) s) (h2:ws≠[]->Q (.ref s.heap.objs.size) {s with heap:=s.heap.push {cls:=.type "tuple",data:=.seq (vs++ws).toArray}})
 (hsz:vs.length+ws.length<=sizeLine):wpAny (model prog w) A (binaryOp .Add (.ref t) (.ref b)) Q E s:=by
 obtain⟨⟨cls,dd,data,sl⟩,ho,hc,n,hd⟩:=id ht
 obtain⟨⟨cls2,dd2,data2,sl2⟩,ho2,hc2,n2,hd2⟩:=id hb
 simp only at hc hd hc2 hd2
 subst hc hd hc2 hd2
 have e:vs.toArray++ws.toArray=(vs++ws).toArray:=by simp
 by_cases hw:ws=[]
 ·exact concat_meets ⟨_,ho,rfl⟩ ⟨_,ho2,rfl⟩ noFill_tuple_add seq_tuple_add PySem.F.slot_tuple_add PySem.F.entry_tuple_add (PySem.F.args_tuple_add_2 _ _)
   (tuple_addW1 t b vs.toArray ws.toArray n n2 dd dd2 sl sl2 (by simpa using hv) (by simp[hw])) ⟨ho,ho2,h1 hw⟩
 ·refine concat_meets ⟨_,ho,rfl⟩ ⟨_,ho2,rfl⟩ noFill_tuple_add seq_tuple_add PySem.F.slot_tuple_add PySem.F.entry_tuple_add (PySem.F.args_tuple_add_2 _ _)
   (tuple_addW2 t b vs.toArray ws.toArray n n2 dd dd2 sl sl2 (by simpa using hv) (by simpa using hw) (by rw[List.size_toArray,List.size_toArray];exact hsz)) ⟨ho,ho2,?_⟩
  rw[e]
  exact h2 hw
def mz(n d:Nat):Option Int->Nat
 | none=>d
 | some v=>if v<0 then(v+(n:Int)).toNat else min v.toNat n
theorem aqS(n d:Nat)(hd:d<=n)(o:Option Int):mz n d o<=n:=by
 cases o with
 | none=>exact hd
 | some v =>
   show(if v<0 then(v+(n:Int)).toNat else min v.toNat n)<=n
   by_cases hv:v<0
   ·rw[if_pos hv];lia
   ·rw[if_neg hv];exact Nat.min_le_right _ _
theorem aiQ(v:Int)(n d:Nat):(if v<0 then max (v+(n:Int)) 0 else min v (n:Int))=((mz n d (some v):Nat):Int):=by
 show(if v<0 then max (v+(n:Int)) 0 else min v (n:Int))=(((if v<0 then(v+(n:Int)).toNat else min v.toNat n):Nat):Int)
 by_cases hv:v<0
 ·simp only[if_pos hv];lia
 ·simp only[if_neg hv];lia
theorem ahB(lo hi:Option Int)(n:Nat):Builtin.Slice.sliceAdjust lo hi 1 (n:Int)=(((mz n 0 lo:Nat):Int),((mz n n hi:Nat):Int)):=by
 have h1:¬((1:Int)<0):=by lia
 unfold Builtin.Slice.sliceAdjust
 simp only[h1,if_false]
 refine Prod.ext ?_ ?_
 ·cases lo with
  | none=>rfl
  | some v=>exact aiQ v n 0
 ·cases hi with
  | none=>rfl
  | some v=>exact aiQ v n n
theorem ahC(i j:Nat):Builtin.Slice.slicePlaces (i:Int) (j:Int) 1=j - i:=by
 unfold Builtin.Slice.slicePlaces
 have h1:(1:Int) > 0:=by lia
 simp only[h1,if_true,Int.ediv_one]
 split<;>lia
theorem Wh{v:Value}{o:Option Int}{Q:Option Int->Shared->Prop}(p:IsPart v o)(h:Q o s):wpAny (model prog w) A (Builtin.Slice.slicePartIndex v) Q E s:=by
 cases p with
 | none=>exact slicePart_none h
 | int i t=>exact slicePart_int h
theorem Px{sl:Addr}{vl vu:Value}{lo hi:Option Int}{n:Nat}{Q:Int×Int×Nat->Shared->Prop}(hs:s.heap.IsSliceOf sl vl vu .none)(pl:IsPart vl lo)(pu:IsPart vu hi)
 (h:Q (((mz n 0 lo:Nat):Int),1,mz n n hi - mz n 0 lo) s):wpAny (model prog w) A (Builtin.Slice.sliceApplied (.ref sl) (pure (n:Int))) Q E s:=by
 obtain⟨os,hos,hcs,hds⟩:=id hs
 unfold Builtin.Slice.sliceApplied Builtin.Slice.sliceFields
 refine wpAny_bind (wpAny_bind (wpAny_field hos hds (x:=vl) rfl (wpAny_bind (wpAny_field hos hds (x:=vu) rfl (wpAny_bind (wpAny_field hos hds (x:=.none) rfl (wpAny_pure ?_)))))))
 refine wpAny_bind (slicePart_none ?_)
 show wpAny _ _ (if((1:Int) == 0)=true then _ else _) _ _ s
 rw[if_neg (by decide)]
 refine wpAny_bind (Wh pl (wpAny_bind (Wh pu (wpAny_bind (wpAny_pure ?_)))))
 show wpAny _ _ (match Builtin.Slice.sliceAdjust lo hi 1 (n:Int)with | (lo,hi)=>pure (lo,(1:Int),Builtin.Slice.slicePlaces lo hi 1)) _ _ s
 rw[ahB lo hi n]
 show wpAny _ _ (pure (((mz n 0 lo:Nat):Int),(1:Int),Builtin.Slice.slicePlaces ((mz n 0 lo:Nat):Int) ((mz n n hi:Nat):Int) 1)) _ _ s
 rw[ahC]
 exact wpAny_pure h
theorem ak5(xs:Array Value)(i k:Nat):((List.range k).filterMap fun(m:Nat)=>xs[((i:Int)+(m:Int)*1).toNat]?).toArray=((xs.toList.drop i).take k).toArray:=by
 have e:(fun(m:Nat)=>xs[((i:Int)+(m:Int)*1).toNat]?)=fun m=>xs[i+m]? := by
  funext m
  have:((i:Int)+(m:Int)*1).toNat=i+m:=by lia
  rw[this]
 rw[e]
 have:=pick_run xs i k
 rw[List.filterMap_map]at this
 have e2:((fun x=>xs[x]?) ∘ fun x=>i+x)=fun m=>xs[i+m]? := rfl
 rw[e2]at this
 rw[this]
theorem Kz{t sl:Addr}{items:Array Value}{vl vu:Value}{lo hi:Option Int}{Q:Value->Shared->Prop}(ht:IsTup s.heap t items)(hs:s.heap.IsSliceOf sl vl vu .none)(pl:IsPart vl lo)(pu:IsPart vu hi)
 (hw:¬(mz items.size 0 lo=0/\mz items.size items.size hi=items.size))
 (h:Q (.ref s.heap.objs.size) {s with heap:=s.heap.push {cls:=.type "tuple",data:=.seq ((items.toList.drop (mz items.size 0 lo)).take (mz items.size items.size hi - mz items.size 0 lo)).toArray}})
 (hsz:items.size<=sizeLine):wpAny (model prog w) A (getItem (.ref t) (.ref sl)) Q E s:=by
 have aiR:sizeOk (.seq ((items.toList.drop (mz items.size 0 lo)).take (mz items.size items.size hi - mz items.size 0 lo)).toArray):=by
  show((items.toList.drop (mz items.size 0 lo)).take (mz items.size items.size hi - mz items.size 0 lo)).toArray.size<=sizeLine
  rw[List.size_toArray,List.length_take,List.length_drop,Array.length_toList]
  lia
 have hj:mz items.size items.size hi<=items.size:=aqS _ _ (Nat.le_refl _) hi
 obtain⟨os,hos,hcs,hds⟩:=id hs
 have hTs:s.TypeIs (.ref sl) "slice":=⟨os,hos,hcs⟩
 unfold getItem
 try with_reducible refine wpAny_holding ?_
 first | refine wpAny_bind (wpAny_pure ?_) | skip
 refine wpAny_bind (wpAny_sequenceKey ht.typeIs (by decide) ?_)
 refine wpAny_bind (wpAny_callSpecial?_slot (name:=Str.ofString "__getitem__") ht.typeIs PyProof.Rows.slot_tuple_getitem
  (wpAny_call_entry PyProof.Rows.slot_tuple_getitem ht.typeIs entry_tuple_getitem ?_ (args_tuple_getitem _ _)))
 show wpAny _ _ (Builtin.Tuple.tupleItemsOf (.ref t) >>= _) _ _ s
 refine wpAny_bind (tupleItemsOf_ ht ?_)
 refine wpAny_bind (wpAny_typeOf hTs ?_)
 rw[if_pos (by decide)]
 refine wpAny_bind (Px hs pl pu ?_)
 have hno:¬((((mz items.size 0 lo:Nat):Int) == 0 && (1:Int) == 1 && (mz items.size items.size hi - mz items.size 0 lo) == items.size)=true):=by
  intro q
  rw[Bool.and_eq_true,Bool.and_eq_true]at q
  have q1:((mz items.size 0 lo:Nat):Int)=0:=eq_of_beq q.1.1
  have q2:mz items.size items.size hi - mz items.size 0 lo=items.size:=eq_of_beq q.2
  exact hw ⟨by lia,by lia⟩
 show wpAny _ _ (if(((mz items.size 0 lo:Nat):Int) == 0 && (1:Int) == 1 && (mz items.size items.size hi - mz items.size 0 lo) == items.size)=true then _ else _) _ _ s
 rw[if_neg hno,ak5]
 first
  | exact wpAny_bind (m:=Builtin.Tuple.tupleExact _) (wpAny_newObj_type (wpAny_pure ⟨_,rfl,wpAny_pure h⟩) aiR)
  | exact wpAny_bind (m:=Builtin.Tuple.tupleExact _) (wpAny_newObj_type (wpAny_bind (wpAny_pure (wpAny_pure ⟨_,rfl,wpAny_pure h⟩))) aiR)
  | exact wpAny_bind (wpAny_bind (m:=Builtin.Tuple.tupleExact _) (wpAny_newObj_type (wpAny_pure (wpAny_pure ⟨_,rfl,wpAny_pure h⟩)) aiR))
  | exact wpAny_bind (wpAny_bind (m:=Builtin.Tuple.tupleExact _) (wpAny_newObj_type (wpAny_pure ⟨_,rfl,wpAny_pure h⟩) aiR))
end
end HT
namespace L2
open PySem PySem.Spec PyProof.Rows
abbrev TO:=St->Hp->(Option Int->Hp->Prop)->Prop
def PO(X:Cx)(e:Option Expr)(t:TO):Prop :=
 ∀(pins:List (Addr×Obj)) (s:Shared) (σ:St) (H:Hp) (Q:Option Int->Hp->Prop),Inv X pins σ H s->t σ H Q->
  wpAny (model X.prog X.w) X.A (evalPart e X.env) (fun u s'=>∃o H',Inv X pins σ H' s'/\IsPart u o/\Q o H') X.xe s
def anA:TO:=fun _ H Q=>Q none H
def auE(t:TE):TO:=fun σ H Q=>t σ H fun x H1=>∃i,x=.int i/\Q (some i) H1
section
variable{X:Cx}{e:Expr}{te:TE}{lo hi:Option Expr}{tl th:TO}{pos p2:Pos}
theorem acg:PO X none anA:=by
 intro pins s σ H Q I h
 rw[evalPart_none]
 exact wpAny_pure ⟨none,H,I,.none,h⟩
theorem ach(h:PE X e te):PO X (some e) (auE te):=by
 intro pins s σ H Q I hw
 rw[evalPart_some]
 refine gf (h pins s σ H _ I hw) fun u s1 hz=>kE hz fun x H1 I1 r1 q1=>?_
 obtain⟨i,rfl,q⟩:=q1
 obtain⟨t,rfl⟩:=r1
 exact⟨some i,H1,I1,.int i t,q⟩
def SlR(X:Cx)(r:V->Option Int->Option Int->Hp->VK->Prop):Prop :=
 ∀(pins:List (Addr×Obj)) (s:Shared) (σ:St) (H:Hp) (x:V) (v vl vu:Value) (lo hi:Option Int) (sl:Addr) (Q:VK),Inv X pins σ H s->RelV x v->s.heap.IsSliceOf sl vl vu .none->IsPart vl lo->IsPart vu hi->r x lo hi H Q->
  ∃T id,typeLookup (.type T) "__getitem__"=pure (some (.builtin id))/\s.TypeIs v T/\wpAny (model X.prog X.w) X.A (getItem v (.ref sl)) (EP X pins σ Q) X.xe s
def tSl(r:V->Option Int->Option Int->Hp->VK->Prop)(te:TE)(tl th:TO):TE:=fun σ H Q=>te σ H fun x H1=>tl σ H1 fun l H2=>th σ H2 fun u H3=>r x l u H3 Q
theorem Wi{r:V->Option Int->Option Int->Hp->VK->Prop}(hr:SlR X r)(he:PE X e te)(hl:PO X lo tl)(hu:PO X hi th):PE X (.Subscript e (.Slice lo hi none p2) pos) (tSl r te tl th):=by
 intro pins s σ H Q I h
 refine Subscript_ (gf (he pins s σ H _ I h) fun v s1 hz=>kE hz fun x H1 I1 r1 q1=>?_)
 refine wpAny_Slice (gf (hl pins s1 σ H1 _ I1 q1) fun vl s2 hz=>kE hz fun l H2 I2 pl q2=>gf (hu pins s2 σ H2 _ I2 q2) fun vu s3 hz=>kE hz fun u H3 I3 pu q3=>?_)
 rw[evalPart_none]
 refine wpAny_pure ?_
 have I4:Inv X pins σ H3 {s3 with heap:=s3.heap.push {cls:=.type "slice",data:=.fields #[vl,vu,.none]}}:=I3.kept (t':=s3.toks) fun b ob q=>Heap.get?_push_of_some _ q
 obtain⟨T,id,hT,ht,hg⟩:=hr pins {s3 with heap:=s3.heap.push {cls:=.type "slice",data:=.fields #[vl,vu,.none]}} σ H3 x v vl vu l u s3.heap.objs.size Q I4 r1 (Heap.IsSliceOf.new ..) pl pu q3
 show wpAny (model X.prog X.w) X.A (subscriptTail e (.Slice lo hi none p2) v (.ref s3.heap.objs.size)) (EP X pins σ Q) X.xe {s3 with heap:=s3.heap.push {cls:=.type "slice",data:=.fields #[vl,vu,.none]}}
 exact tail_any (ops:=[.ref s3.heap.objs.size,v]) ht hT hg (by with_unfolding_all rfl)
def S7(xs:List V)(lo hi:Option Int):List V:=(xs.drop (HT.mz xs.length 0 lo)).take (HT.mz xs.length xs.length hi - HT.mz xs.length 0 lo)
theorem Rv(xs:List V)(lo hi:Option Int):(S7 xs lo hi).length<=xs.length:=by
 unfold S7
 rw[List.length_take,List.length_drop]
 lia
def axL(K:PySem.W.Frag):V->Option Int->Option Int->Hp->VK->Prop:=fun x lo hi H Q=>∃a xs,x=.ref a/\di K H a xs/\
 ¬(HT.mz xs.length 0 lo=0/\HT.mz xs.length xs.length hi=xs.length)/\∀p,H p=none->Q (.ref p) (upd H p (.tup (S7 xs lo hi)))
theorem aqT:SlR X (axL X.K):=by
 intro pins s σ H x v vl vu lo hi sl Q I rx hs pl pu h
 obtain⟨a,xs,rfl,hx,hw,q⟩:=h
 cases rx
 obtain⟨its,r,ht,hz⟩:=I.tuple hx
 have hlen:its.toArray.size=xs.length:=by rw[List.size_toArray];exact r.length.symm
 refine⟨"tuple",_,PyProof.Rows.slot_tuple_getitem.lookup,ht.typeIs,?_⟩
 refine HT.Kz ht hs pl pu (by rw[hlen];exact hw) ?_ (by rw[hlen];exact hz)
 rw[hlen]
 refine⟨.ref s.heap.objs.size,_,I.laid (t':=s.toks) (o:=.tup (S7 xs lo hi)) (fun b ob q=>Heap.get?_push_of_some _ q) (Nat.le_refl _) ?_,rfl,q _ (I.hok.fresh (Nat.le_refl _))⟩
 exact⟨Nat.le_trans (Rv xs lo hi) hz,_,(r.drop (HT.mz xs.length 0 lo)).take (HT.mz xs.length xs.length hi - HT.mz xs.length 0 lo),IsTup.new _ _⟩
def auF(K:PySem.W.Frag):R2:=fun x y H Q=>∃a b xs ys,x=.ref a/\y=.ref b/\di K H a xs/\di K H b ys/\xs≠[]/\xs.length+ys.length<=sizeLine/\
 (ys=[]->Q (.ref a) H)/\(ys≠[]->∀p,H p=none->Q (.ref p) (upd H p (.tup (xs++ys))))
theorem Vals.aci{xs:List V}{us:List Value}(r:Vals xs us):us=[]↔xs=[]:=by
 cases r with
 | nil=>simp
 | cons _ _=>simp
theorem anB:VP X (binaryOp .Add) (auF X.K):=by
 intro pins s σ H x y v u Q I rx ry h
 obtain⟨a,b,xs,ys,rfl,rfl,ha,hb,hx,hz,q1,q2⟩:=h
 cases rx
 cases ry
 obtain⟨its,r1,p1,_⟩:=I.tuple ha
 obtain⟨its2,r2,p2,_⟩:=I.tuple hb
 refine HT.anz p1 p2 (fun z=>hx (r1.aci.mp z)) (fun z=>⟨.ref a,H,I,rfl,q1 (r2.aci.mp z)⟩) (fun z=>?_) (by rw[<-r1.length,<-r2.length];exact hz)
 refine⟨.ref s.heap.objs.size,_,I.laid (t':=s.toks) (o:=.tup (xs++ys)) (fun b ob q=>Heap.get?_push_of_some _ q) (Nat.le_refl _) ?_,rfl,q2 (fun w=>z (r2.aci.mpr w)) _ (I.hok.fresh (Nat.le_refl _))⟩
 exact⟨by rw[List.length_append];exact hz,_,r1.append r2,IsTup.new _ _⟩
end
end L2
namespace L2
open PySem PySem.Spec PyProof.Rows
def ixN(n:Nat)(i:Int):Option Nat:=if 0<=i then(if i<n then some i.toNat else none)else if -(n:Int)<=i then some (i+n).toNat else none
def Py{α:Type}(xs:List α)(i:Int):Option α:=(ixN xs.length i).bind fun j=>xs[j]?
theorem aiS{n:Nat}{i:Int}{j:Nat}(h:ixN n i=some j):seqIndex? i n=some j/\j<n/\-(n:Int)<=i/\i<n:=by
 unfold ixN at h
 by_cases h0:0<=i
 ·rw[if_pos h0]at h
  by_cases h1:i<n
  ·rw[if_pos h1]at h
   have e:i.toNat=j:=Option.some.inj h
   exact⟨by rw[seqIndex_of h0 h1,e],by lia,by lia,h1⟩
  ·rw[if_neg h1]at h;cases h
 ·rw[if_neg h0]at h
  by_cases h1 : -(n:Int)<=i
  ·rw[if_pos h1]at h
   have e:(i+n).toNat=j:=Option.some.inj h
   exact⟨by rw[seqIndex_neg (by lia) h1,e],by lia,h1,by lia⟩
  ·rw[if_neg h1]at h;cases h
theorem aiT{α:Type}{xs:List α}{i:Int}{v:α}(h:Py xs i=some v):∃j,seqIndex? i xs.length=some j/\xs[j]? = some v/\j<xs.length/\-(xs.length:Int)<=i/\i<xs.length:=by
 unfold Py at h
 cases e:ixN xs.length i with
 | none=>rw[e]at h;cases h
 | some j =>
   rw[e]at h
   obtain⟨h1,h2,h3,h4⟩:=aiS e
   exact⟨j,h1,h,h2,h3,h4⟩
theorem yL{α:Type}{xs:List α}{j:Nat}{v:α}(h:xs[j]? = some v):Py xs (j:Int)=some v:=by
 have hj:j<xs.length:=(List.getElem?_eq_some_iff.mp h).1
 have e:ixN xs.length (j:Int)=some j:=by
  unfold ixN
  rw[if_pos (by lia),if_pos (by lia)];simp
 unfold Py;rw[e];exact h
def anD(b:Expr):Prop:=∀o i,subscripted b false o i=operate [o,i] (getItem o i)
def IxR(X:Cx)(r:R2):Prop :=
 ∀(value slice:Expr) (pins:List (Addr×Obj)) (s:Shared) (σ:St) (H:Hp) (x y:V) (v u:Value) (Q:VK),Inv X pins σ H s->RelV x v->RelV y u->r x y H Q->
  subscripted slice false v u=operate [v,u] (getItem v u)->wpAny (model X.prog X.w) X.A (subscriptTail value slice v u) (EP X pins σ Q) X.xe s
def MtR(X:Cx)(id:String)(r:V->List V->Hp->VK->Prop):Prop :=
 ∀(pins:List (Addr×Obj)) (s:Shared) (σ:St) (H:Hp) (x:V) (xs:List V) (v:Value) (us:List Value) (Q:VK),Inv X pins σ H s->RelV x v->Vals xs us->r x xs H Q->
  wpAny (model X.prog X.w) X.A (call (.builtin id) (v::us)) (EP X pins σ Q) X.xe s
section
variable{X:Cx}{a b:Expr}{ta tb:TE}{pos:Pos}
theorem aN{r:R2}(hr:IxR X r)(ha:PE X a ta)(hb:PE X b tb)(hs:anD b):PE X (.Subscript a b pos) (Wa r ta tb):=by
 intro pins s σ H Q I h
 exact Subscript_ (aqM ha hb I h fun v u s2 x y H2 I2 rx ry q=>hr a b pins s2 σ H2 x y v u Q I2 rx ry q (hs _ _))
def ahD(K:PySem.W.Frag):R2:=fun x y H Q=>∃p xs i v,x=.ref p/\y=.int i/\cu K H p xs/\Py xs i=some v/\Q v H
def ahE(K:PySem.W.Frag):R2:=fun x y H Q=>∃p xs i v,x=.ref p/\y=.int i/\di K H p xs/\Py xs i=some v/\Q v H
theorem bB:IxR X (ahD X.K):=by
 intro value slice pins s σ H x y v u Q I rx ry h hs
 obtain⟨p,xs,i,z,rfl,rfl,hq,he,q⟩:=h
 cases rx
 obtain⟨t,rfl⟩:=ry
 obtain⟨its,r,pl,hz⟩:=I.list hq
 obtain⟨j,h1,h2,h3,h4,h5⟩:=aiT he
 obtain⟨w,ew,rw'⟩:=r.get h2
 have hl:=r.length
 have hn:=Wd
 have fin:EP X pins σ Q w s:=⟨z,H,I,rw',q⟩
 by_cases h0:0<=i
 ·have hj:i.toNat=j:=by
   rw[seqIndex_of h0 h5]at h1
   exact Option.some.inj h1
  exact item_listR pl.isList h0 (by lia) (by rw[hj];simpa using ew) fin hs
 ·have hj:(i+(its.toArray.size:Int)).toNat=j:=by
   rw[seqIndex_neg (by lia) h4]at h1
   rw[List.size_toArray,<-hl]
   exact Option.some.inj h1
  exact subscriptTail_builtinR (x:=w) pl.isList.typeIs slot_list_getitem.lookup
   (wpAny_getItem_list_neg (Q:=fun r s'=>r=w/\EP X pins σ Q r s') pl.isList (by lia) (by rw[List.size_toArray]<;>lia) (by lia) (by rw[hj];simpa using ew) ⟨rfl,fin⟩) hs
theorem bz:IxR X (ahE X.K):=by
 intro value slice pins s σ H x y v u Q I rx ry h hs
 obtain⟨p,xs,i,z,rfl,rfl,hq,he,q⟩:=h
 cases rx
 obtain⟨t,rfl⟩:=ry
 obtain⟨its,r,pl,hz⟩:=I.tuple hq
 obtain⟨j,h1,h2,h3,h4,h5⟩:=aiT he
 obtain⟨w,ew,rw'⟩:=r.get h2
 have hl:=r.length
 have hn:=Wd
 have fin:EP X pins σ Q w s:=⟨z,H,I,rw',q⟩
 exact subscriptTail_builtinR (x:=w) pl.typeIs slot_tuple_getitem.lookup
  (getItem_tuple (j:=j) (Q:=fun r s'=>r=w/\EP X pins σ Q r s') pl (by lia) (by lia) (by rw[List.size_toArray,<-hl];exact h1) (by simpa using ew) ⟨rfl,fin⟩) hs
theorem ahF(its:List Value)(n j:Nat)(u:Value):Obj.mapSeq (·.setIfInBounds j u) {cls:=.type "list",data:=.seq its.toArray n}={cls:=.type "list",data:=.seq (its.set j u).toArray n}:=by
 simp[Obj.mapSeq]
theorem Inv.lst{pins:List (Addr×Obj)}{σ:St}{H:Hp}{s:Shared}{p:Addr}{xs:List V}(I:Inv X pins σ H s)(h:H p=some (.lst xs)) :
 ∃(its:List Value) (n:Nat),Vals xs its/\s.heap.get? p=some {cls:=.type "list",data:=.seq its.toArray n}/\xs.length<=sizeLine:=by
 obtain⟨z,its,n,r,e⟩:=I.hok p _ h
 exact⟨its,n,r,e,z⟩
theorem Inv.aqU{pins:List (Addr×Obj)}{σ:St}{H:Hp}{s:Shared}{p:Addr}{xs ys:List V}{its its':List Value}{n n':Nat}{f:Obj->Obj}(I:Inv X pins σ H s)(h:H p=some (.lst xs))
 (ho:s.heap.get? p=some {cls:=.type "list",data:=.seq its.toArray n}) (hf:f {cls:=.type "list",data:=.seq its.toArray n}={cls:=.type "list",data:=.seq its'.toArray n'}) (r:Vals ys its') (hz:ys.length<=sizeLine) (t:Nat) :
 Inv X pins σ (upd H p (.lst ys)) {s with heap:=s.heap.update p f,toks:=t}:=by
 have e:(s.heap.update p f).get? p=some {cls:=.type "list",data:=.seq its'.toArray n'}:=by
  rw[Heap.get?_update_self f ho (by rw[hf]<;>rfl),hf]
 refine I.write (x:=p) (e:=p) (by rw[h];trivial) (.inl rfl) (fun b u hb q=>(Heap.get?_update_other _ _ (Ne.symm hb)).trans q) ⟨_,e⟩ ?_
 exact⟨hz,its',n',r,e⟩
def ap3:V->V->V->Hp->(Hp->Prop)->Prop:=fun o i v H Q=>∃p xs k j,o=.ref p/\i=.int k/\H p=some (.lst xs)/\ixN xs.length k=some j/\Q (upd H p (.lst (xs.set j v)))
theorem set_list:aur X ap3:=by
 intro pins s σ H o i v ov iv u Q I ro ri rv h
 obtain⟨p,xs,k,j,rfl,rfl,hp,hj,q⟩:=h
 cases ro
 obtain⟨t,rfl⟩:=ri
 obtain⟨its,n,r,ho,hz⟩:=I.lst hp
 obtain⟨h1,h2,h3,h4⟩:=aiS hj
 have hl:=r.length
 have hn:=Wd
 have I':Inv X pins σ (upd H p (.lst (xs.set j v))) {s with heap:=s.heap.update p (Obj.mapSeq (·.setIfInBounds j u))} :=
  I.aqU hp ho (ahF its n j u) (r.set rv j) (by rw[List.length_set];exact hz) s.toks
 by_cases h0:0<=k
 ·have hk:k.toNat=j:=by
   rw[seqIndex_of h0 h4]at h1
   exact Option.some.inj h1
  exact PySem.W.ki_setAt ho h0 (by lia) (by rw[List.size_toArray,<-hl];exact h4) (by rw[hk];exact⟨_,I',q⟩)
 ·have hk:(k+(its.toArray.size:Int)).toNat=j:=by
   rw[seqIndex_neg (by lia) h3]at h1
   rw[List.size_toArray,<-hl]
   exact Option.some.inj h1
  exact PySem.W.ki_setBack ho (by lia) (by rw[List.size_toArray,<-hl];exact h3) (by lia) (by rw[hk];exact⟨_,I',q⟩)
theorem acj(lo hi:Option Int)(n:Nat):(sliceBounds lo hi none n).1=((HT.mz n 0 lo:Nat):Int)/\(sliceBounds lo hi none n).2.1=((HT.mz n n hi:Nat):Int)/\(sliceBounds lo hi none n).2.2=1:=by
 refine⟨?_,?_,rfl⟩
 ·cases lo with
  | none=>simp[sliceBounds,HT.mz]
  | some i =>
    simp only[sliceBounds,HT.mz,Option.getD_none,show(1:Int) > 0 by decide,if_true]
    by_cases h:i<0
    ·simp only[h,if_true]<;>lia
    ·simp only[h,if_false]<;>lia
 ·cases hi with
  | none=>simp[sliceBounds,HT.mz]
  | some i =>
    simp only[sliceBounds,HT.mz,Option.getD_none,show(1:Int) > 0 by decide,if_true]
    by_cases h:i<0
    ·simp only[h,if_true]<;>lia
    ·simp only[h,if_false]<;>lia
theorem ZG(its:List Value)(lo hi:Option Int):slicePick its.toArray lo hi none=((its.drop (HT.mz its.length 0 lo)).take (HT.mz its.length its.length hi - HT.mz its.length 0 lo)).toArray:=by
 obtain⟨h1,h2,h3⟩:=acj lo hi its.toArray.size
 unfold slicePick
 rw[h1,h2,h3]
 simp only[sliceRange_one,pick_run,List.size_toArray]<;>rfl
def axM(K:PySem.W.Frag):V->Option Int->Option Int->Hp->VK->Prop:=fun x lo hi H Q=>∃a xs,x=.ref a/\cu K H a xs/\∀p,H p=none->Q (.ref p) (upd H p (.lst (S7 xs lo hi)))
theorem aiU:SlR X (axM X.K):=by
 intro pins s σ H x v vl vu lo hi sl Q I rx hs pl pu h
 obtain⟨a,xs,rfl,hx,q⟩:=h
 cases rx
 obtain⟨its,r,ht,hz⟩:=I.list hx
 have hlen:=r.length
 refine⟨"list",_,slot_list_getitem.lookup,ht.isList.typeIs,?_⟩
 refine wpAny_getItem_list_slice ht.isList hs pl pu .none (by simp) ?_ (by rw[List.size_toArray]<;>lia)
 rw[ZG,<-hlen]
 refine⟨.ref s.heap.objs.size,_,I.laid (t':=s.toks) (o:=.lst (S7 xs lo hi)) (fun b ob q=>Heap.get?_push_of_some _ q) (Nat.le_refl _) ?_,rfl,q _ (I.hok.fresh (Nat.le_refl _))⟩
 exact⟨Nat.le_trans (Rv xs lo hi) hz,_,0,(r.drop (HT.mz xs.length 0 lo)).take (HT.mz xs.length xs.length hi - HT.mz xs.length 0 lo),Heap.get?_push_size _ rfl⟩
def Hk:V->Bool
 | .non=>true
 | .bl _=>true
 | .int _=>true
 | .str _=>true
 | _=>false
def eqV:V->V->Bool
 | .non,.non=>true
 | .bl a,.bl b=>a == b
 | .bl a,.int b=>(if a then 1 else 0) == b
 | .int a,.bl b=>a == (if b then 1 else 0)
 | .int a,.int b=>a == b
 | .str a,.str b=>a == b
 | _,_=>false
theorem aqV{A:Around}{s:Shared}{y x:V}{u v:Value}(ry:RelV y u)(rx:RelV x v)(fy:Hk y=true)(fx:Hk x=true):SeqAt.EqAt A s u v (eqV y x):=by
 cases y with
 | non =>
   cases ry
   cases x with
   | non=>cases rx;exact SeqAt.EqAt.same _
   | bl b=>cases rx;exact SeqAt.EqAt.none_bool b
   | int b=>obtain⟨t,rfl⟩:=rx;exact SeqAt.EqAt.none_int b t
   | str b=>obtain⟨t,rfl⟩:=rx;exact SeqAt.EqAt.none_str b t
   | _=>exact absurd (show false=true from fx) Bool.false_ne_true
 | bl a =>
   cases ry
   cases x with
   | non=>cases rx;exact SeqAt.EqAt.bool_none a
   | bl b=>cases rx;exact SeqAt.EqAt.bool_bool a b
   | int b=>obtain⟨t,rfl⟩:=rx;exact SeqAt.EqAt.bool_int a b t
   | str b=>obtain⟨t,rfl⟩:=rx;exact SeqAt.EqAt.bool_str a b t
   | _=>exact absurd (show false=true from fx) Bool.false_ne_true
 | int a =>
   obtain⟨t',rfl⟩:=ry
   cases x with
   | non=>cases rx;exact SeqAt.EqAt.int_none a t'
   | bl b=>cases rx;exact SeqAt.EqAt.int_bool a t' b
   | int b=>obtain⟨t,rfl⟩:=rx;exact SeqAt.EqAt.int_int a t' b t
   | str b=>obtain⟨t,rfl⟩:=rx;exact SeqAt.EqAt.int_str a t' b t
   | _=>exact absurd (show false=true from fx) Bool.false_ne_true
 | str a =>
   obtain⟨t',rfl⟩:=ry
   cases x with
   | non=>cases rx;exact SeqAt.EqAt.str_none a t'
   | bl b=>cases rx;exact SeqAt.EqAt.str_bool a t' b
   | int b=>obtain⟨t,rfl⟩:=rx;exact SeqAt.EqAt.str_int a t' b t
   | str b=>obtain⟨t,rfl⟩:=rx;exact SeqAt.EqAt.str_str a t' b t
   | _=>exact absurd (show false=true from fx) Bool.false_ne_true
 | _=>exact absurd (show false=true from fy) Bool.false_ne_true
def eqU(x:V)(u:Value):Bool:=match u with
 | .none=>eqV .non x
 | .bool b=>eqV (.bl b) x
 | .int i _=>eqV (.int i) x
 | .str z _=>eqV (.str z) x
 | _=>false
theorem ak6{x y:V}{u:Value}(r:RelV y u)(f:Hk y=true):eqU x u=eqV y x:=by
 cases y with
 | non=>cases r;rfl
 | bl b=>cases r;rfl
 | int i=>obtain⟨t,rfl⟩:=r;rfl
 | str z=>obtain⟨t,rfl⟩:=r;rfl
 | _=>exact absurd (show false=true from f) Bool.false_ne_true
theorem ack{x:V}:∀{xs:List V} {us:List Value},Vals xs us->xs.all Hk=true->us.any (eqU x)=xs.any fun y=>eqV y x
 | _,_,.nil,_=>rfl
 | y::xs,u::us,.cons r t,f=>by
   rw[List.all_cons,Bool.and_eq_true]at f
   rw[List.any_cons,List.any_cons,ak6 r f.1,ack t f.2]
theorem Wj{A:Around}{s:Shared}{x:V}{v:Value}(rx:RelV x v)(fx:Hk x=true):∀{xs:List V} {us:List Value},Vals xs us->xs.all Hk=true->∀u∈us,SeqAt.EqAt A s u v (eqU x u)
 | _,_,.nil,_=>fun u hu=>by cases hu
 | y::xs,u::us,.cons r t,f=>fun u' hu=>by
   rw[List.all_cons,Bool.and_eq_true]at f
   rcases List.mem_cons.mp hu with rfl | hu
   ·rw[ak6 r f.1];exact aqV r rx f.1 fx
   ·exact Wj rx fx t f.2 u' hu
def inV(x:V)(xs:List V):Bool:=xs.any fun y=>eqV y x
def rIn(K:PySem.W.Frag)(neg:Bool):R2:=fun x y H Q=>∃p xs,y=.ref p/\(cu K H p xs\/di K H p xs)/\Hk x=true/\xs.all Hk=true/\Q (.bl (if neg then !inV x xs else inV x xs)) H
theorem KC:VP X (compareOp .NotIn) (rIn X.K true):=by
 intro pins s σ H x y v u Q I rx ry h
 obtain⟨p,xs,rfl,hq,fx,fs,q⟩:=h
 cases ry
 rcases hq with hq | hq
 ·obtain⟨its,r,pl,hz⟩:=I.list hq
  refine SeqAt.notIn_listAt (eqU x) pl.isList (fun w hw=>Wj rx fx r fs w (by simpa using hw)) ⟨.bl _,H,I,rfl,?_⟩
  rw[show its.toArray.any (eqU x)=its.any (eqU x)by simp,ack r fs]
  exact q
 ·obtain⟨its,r,pl,hz⟩:=I.tuple hq
  refine SeqAt.notIn_tupleAt (eqU x) pl (fun w hw=>Wj rx fx r fs w (by simpa using hw)) ⟨.bl _,H,I,rfl,?_⟩
  rw[show its.toArray.any (eqU x)=its.any (eqU x)by simp,ack r fs]
  exact q
theorem dU:Rq X (.builtin "len") (fun xs H Q=>∃p ys,xs=[.ref p]/\(cu X.K H p ys\/di X.K H p ys)/\Q (.int ys.length) H):=by
 intro pins s σ H xs us Q I r h
 obtain⟨p,ys,rfl,hq,q⟩:=h
 obtain⟨u,rfl,rx⟩:=vals1 r
 cases rx
 have hn:=Wd
 rcases hq with hq | hq
 ·obtain⟨its,r',pl,hz⟩:=I.list hq
  have hlen:=r'.length
  exact Calls.call_len_list pl.isList (by simp only[List.size_toArray]<;>lia) ⟨.int ys.length,H,I.tok _,⟨s.toks+1,by rw[List.size_toArray,hlen]⟩,q⟩
 ·obtain⟨its,r',pl,hz⟩:=I.tuple hq
  have hlen:=r'.length
  exact len_tuple pl (by simp only[List.size_toArray]<;>lia) ⟨.int ys.length,H,I.tok _,⟨s.toks+1,by rw[List.size_toArray,hlen]⟩,q⟩
theorem yM:Rq X (.type "list") (fun xs H Q=>∃p ys,xs=[.ref p]/\(cu X.K H p ys\/di X.K H p ys)/\∀l,H l=none->Q (.ref l) (upd H l (.lst ys))):=by
 intro pins s σ H xs us Q I r h
 obtain⟨p,ys,rfl,hq,q⟩:=h
 obtain⟨u,rfl,rx⟩:=vals1 r
 cases rx
 have fin:∀(its:List Value),Vals ys its->ys.length<=sizeLine->∀(h':Heap) (c':Nat),(∀b o',s.heap.get? b=some o'->h'.get? b=some o')->
  h'.get? s.heap.objs.size=some {cls:=.type "list",dict:=none,data:=.seq its.toArray c',slots := #[]}->EP X pins σ Q (.ref s.heap.objs.size) {s with heap:=h'}:=fun its r' hz h' c' kp e =>
  ⟨.ref s.heap.objs.size,_,I.laid (t':=s.toks) kp (Nat.le_refl _) (show fO X.prog X.w _ h' _ (.lst ys)from⟨hz,its,c',r',e⟩),rfl,q _ (I.hok.fresh (Nat.le_refl _))⟩
 rcases hq with hq | hq
 ·obtain⟨its,r',pl,hz⟩:=I.list hq
  have hlen:=r'.length
  obtain⟨o,ho,hc,n,hd⟩:=pl.isList
  exact call_list_seq p (.inl rfl) ho hc hd (fun h' c' kp e=>fin its r' hz h' c' kp e) (by simp only[List.size_toArray]<;>lia)
 ·obtain⟨its,r',pl,hz⟩:=I.tuple hq
  have hlen:=r'.length
  obtain⟨o,ho,hc,n,hd⟩:=pl
  exact call_list_seq p (.inr rfl) ho hc hd (fun h' c' kp e=>fin its r' hz h' c' kp e) (by simp only[List.size_toArray]<;>lia)
def tyV(K:PySem.W.Frag)(T:String)(x:V)(H:Hp):Prop:=match x with
 | .str _=>T="str"
 | .int _=>T="int"
 | .ref p=>(T="list"/\∃xs,cu K H p xs)\/(T="tuple"/\∃o,K.lookup p=some o/\o.cls=.type "tuple"/\o.dict=none)\/
    (T="dict"/\((∃kvs,H p=some (.dK kvs))\/∃kvs,H p=some (.dT kvs)))\/(T="set"/\∃S n,H p=some (.set S n))
 | _=>False
theorem ak7{pins:List (Addr×Obj)}{σ:St}{H:Hp}{s:Shared}{T:String}{x:V}{v:Value}(I:Inv X pins σ H s)(r:RelV x v)(ty:tyV X.K T x H) :
 s.TypeIs v T/\∀a,v=.ref a->∃ob,s.heap.get? a=some ob/\ob.dict=none:=by
 cases x with
 | str z =>
   obtain⟨t,rfl⟩:=r
   cases (show T="str" from ty)
   exact⟨typeIs_str s z t,fun _ e=>nomatch e⟩
 | int i =>
   obtain⟨t,rfl⟩:=r
   cases (show T="int" from ty)
   exact⟨typeIs_int s i t,fun _ e=>nomatch e⟩
 | ref p =>
   cases r
   rcases ty with ⟨rfl,xs,hq⟩ | ⟨rfl,o,hk,hc,hd⟩ | ⟨rfl,hk⟩ | ⟨rfl,S,n,hk⟩
   ·obtain⟨its,_,pl,_⟩:=I.list hq
    refine⟨pl.isList.typeIs,fun a e=>?_⟩
    cases e
    obtain⟨o,n,e,c,hd,_⟩:=pl
    exact⟨o,e,hd⟩
   ·refine⟨⟨o,I.wR p o hk,hc⟩,fun a e=>?_⟩
    cases e
    exact⟨o,I.wR _ o hk,hd⟩
   ·have z:∃o,s.heap.get? p=some o/\o.ExactDict:=by
     rcases hk with ⟨kvs,hk⟩ | ⟨kvs,hk⟩
     ·obtain⟨_,_,_,_,o,_,_,e,ex,_⟩:=I.hok p _ hk
      exact⟨o,e,ex⟩
     ·obtain⟨_,_,_,_,o,_,_,e,ex,_⟩:=I.hok p _ hk
      exact⟨o,e,ex⟩
    obtain⟨o,e,ex⟩:=z
    refine⟨⟨o,e,ex.1⟩,fun a e2=>?_⟩
    cases e2
    exact⟨o,e,ex.2.1⟩
   ·obtain⟨o,_,_,_,e,ex,_⟩:=I.hok p _ hk
    refine⟨⟨o,e,ex.1⟩,fun a e2=>?_⟩
    cases e2
    exact⟨o,e,ex.2.1⟩
 | _=>exact False.elim ty
def axP(K:PySem.W.Frag)(T:String)(r:V->List V->Hp->VK->Prop)(to:TE):TE:=fun σ H Q=>to σ H fun x H1=>tyV K T x H1/\r x [] H1 Q
def tBM(K:PySem.W.Frag)(T:String)(r:V->List V->Hp->VK->Prop)(to:TE)(t:TA):TE:=fun σ H Q=>to σ H fun x H1=>tyV K T x H1/\t σ H1 fun xs H2=>r x xs H2 Q
variable{o e:Expr}{es:List Expr}{to:TE}{t:TA}{name:Str}{apos cpos:Pos}{T id:String}{r:V->List V->Hp->VK->Prop}
theorem ak8(pa:PlainAttrs T)(slot:Slot T name id)(hty:typeOf (.builtin id)=pure (.type "method_descriptor")) (hm:MtR X id r) (ho:PE X o to)
 (hbase:attributeBase o name X.env (eval o X.env)=eval o X.env:=by rfl) (hline:(apos.endLine == cpos.line)=true:=by rfl):PE X (.Call (.Attribute o name apos) [] [] cpos) (axP X.K T r to):=by
 intro pins s σ H Q I h
 refine wpAny_Call_method0_late hbase hline (gf (ho pins s σ H _ I h) fun v s1 hz=>kE hz fun x H1 I1 r1 ⟨ty,q1⟩=>?_)
 obtain⟨h1,h2⟩:=ak7 I1 r1 ty
 exact⟨T,id,pa,slot,hty,h1,h2,Calls.callWith_builtin rfl (PySem.evalArgs_none (hm pins s1 σ H1 x [] v [] Q I1 r1 .nil q1))⟩
theorem fj(pa:PlainAttrs T)(slot:Slot T name id)(hty:typeOf (.builtin id)=pure (.type "method_descriptor")) (hm:MtR X id r) (ho:PE X o to) (ha:PA X (e::es) t)
 (hbase:attributeBase o name X.env (eval o X.env)=eval o X.env:=by rfl)
 (hfew:((backTo cpos (starEach (e::es) X.env)).all (fun x => !x.1) && (backToKw cpos (keywordEach [] X.env)).all (fun x=>x.1.isSome)
   && decide ((e::es).length+([]:List Keyword).length+(if([]:List Keyword).isEmpty then 0 else 1)<30))=true:=by rfl)
 (hline:(apos.endLine == cpos.line)=true:=by rfl) (hs:starEach (e::es) X.env=(false,eval e X.env)::starEach es X.env:=by rfl) (hplain:(backTo cpos (starEach es X.env)).any (·.1)=false:=by rfl) :
 PE X (.Call (.Attribute o name apos) (e::es) [] cpos) (tBM X.K T r to t):=by
 intro pins s σ H Q I h
 refine wpAny_Call_method_late hbase hfew hline rfl (gf (ho pins s σ H _ I h) fun v s1 hz=>kE hz fun x H1 I1 r1 ⟨ty,q1⟩=>?_)
 obtain⟨h1,h2⟩:=ak7 I1 r1 ty
 refine⟨T,id,pa,slot,hty,h1,h2,?_⟩
 have hA:=ha cpos pins s1 σ H1 _ I1 q1
 rw[hs]at hA ⊢
 refine Calls.callWith_builtin (by show(false || (backTo cpos (starEach es X.env)).any (·.1))=false;rw[hplain]<;>rfl) (Calls.evalArgs_plain ?_)
 exact gf hA fun us s2 hz=>kE hz fun vs H2 I2 r2 q2=>hm pins s2 σ H2 x vs v us Q I2 r1 r2 q2
end
end L2
namespace L2
open PySem PySem.Spec PyProof.Rows
def MtM(X:Cx)(id:String)(r:V->List V->Hp->VK->Prop):Prop :=
 ∀(pins:List (Addr×Obj)) (s:Shared) (σ:St) (H:Hp) (x:V) (xs:List V) (v:Value) (us:List Value) (Q:VK),Inv X pins σ H s->RelV x v->Vals xs us->r x xs H Q->
  wpAny (model X.prog X.w) X.A (call (.builtin id) (v::us)) (EP X pins σ Q) X.xe s
theorem Vals.one:∀{x:V} {us:List Value},Vals [x] us->∃u,us=[u]/\RelV x u:=by
 intro x us h
 cases h with
 | cons r t=>cases t;exact⟨_,rfl,r⟩
theorem Vals.two:∀{x y:V} {us:List Value},Vals [x,y] us->∃u v,us=[u,v]/\RelV x u/\RelV y v:=by
 intro x y us h
 cases h with
 | cons r t =>
   cases t with
   | cons q t=>cases t;exact⟨_,_,rfl,r,q⟩
theorem Vals.zero:∀{us:List Value},Vals [] us->us=[]
 | _,.nil=>rfl
theorem Vals.dropLast{xs:List V}{us:List Value}(h:Vals xs us):Vals xs.dropLast us.dropLast:=by
 induction h with
 | nil=>exact .nil
 | cons r t ih =>
   cases t with
   | nil=>exact .nil
   | cons q t'=>exact .cons r ih
theorem Vals.eraseIdx:∀{xs:List V} {us:List Value} (i:Nat),Vals xs us->Vals (xs.eraseIdx i) (us.eraseIdx i)
 | _,_,_,.nil=>.nil
 | _,_,0,.cons _ t=>t
 | _,_,i+1,.cons r t=>.cons r (Vals.eraseIdx i t)
theorem Vals.rep{xs:List V}{us:List Value}(h:Vals xs us):∀k:Nat,Vals (List.replicate k xs).flatten (List.replicate k us).flatten
 | 0=>.nil
 | k+1=>by
   rw[List.replicate_succ,List.replicate_succ,List.flatten_cons,List.flatten_cons]
   exact Vals.append h (Vals.rep h k)
theorem ahG{α:Type}(l:List α):l.eraseIdx (l.length - 1)=l.dropLast:=by
 induction l with
 | nil=>rfl
 | cons a r ih =>
   cases r with
   | nil=>rfl
   | cons b r =>
     have e:(a::b::r).length - 1=((b::r).length - 1)+1:=by
      have h1:(a::b::r).length=r.length+2:=rfl
      have h2:(b::r).length=r.length+1:=rfl
      lia
     rw[e,List.eraseIdx_cons_succ,ih]
     all_goals rfl
theorem abz{α:Type}:∀(l:List α) (i:Nat),(l.eraseIdx i).length<=l.length
 | [],_=>Nat.le_refl _
 | _::_,0=>Nat.le_succ _
 | _::r,i+1=>Nat.succ_le_succ (abz r i)
theorem foldl_rep(its:List Value):∀(k:Nat) (acc:List Value),
 List.foldl (fun x1 x2=>x1++x2) acc.toArray (List.replicate k its.toArray)=(acc++(List.replicate k its).flatten).toArray
 | 0,acc=>by simp
 | k+1,acc=>by
   have e:acc.toArray++its.toArray=(acc++its).toArray:=by simp
   have e2:(acc++its)++(List.replicate k its).flatten=acc++(List.replicate (k+1) its).flatten:=by
    rw[List.replicate_succ,List.flatten_cons,List.append_assoc]
   rw[<-e2,<-foldl_rep its k (acc++its),<-e,List.replicate_succ,List.foldl_cons]
section
variable{X:Cx}{pins:List (Addr×Obj)}{σ:St}{H:Hp}{s:Shared}{l b:Addr}{xs ys zs:List V}
theorem Inv.ak9{its its':List Value}{n:Nat}{f:Array Value->Array Value}{t':Nat}(I:Inv X pins σ H s)(hH:H l=some (.lst xs))
 (e:s.heap.get? l=some {cls:=.type "list",data:=.seq its.toArray n}) (hf:f its.toArray=its'.toArray) (hv:Vals ys its') (hz:ys.length<=sizeLine) :
 Inv X pins σ (upd H l (.lst ys)) {s with heap:=s.heap.update l (Obj.mapSeq f),toks:=t'}:=by
 have q:=PySem.IsL.update e f
 rw[hf]at q
 refine I.write (x:=l) (e:=l) (by rw[hH];exact trivial) (.inl rfl) (fun b' u hb hu=>(Heap.get?_update_other s.heap (Obj.mapSeq f) (Ne.symm hb)).trans hu) ⟨_,q⟩ ?_
 exact⟨hz,its',_,hv,q⟩
theorem Inv.aqW{its:List Value}{t':Nat}(I:Inv X pins σ H s)(hv:Vals ys its)(hz:ys.length<=sizeLine) :
 Inv X pins σ (upd H s.heap.objs.size (.lst ys)) {s with heap:=s.heap.push {cls:=.type "list",data:=.seq its.toArray},toks:=t'} :=
 I.laid (fun _ _ q=>Heap.get?_push_of_some _ q) (Nat.le_refl _) ⟨hz,its,0,hv,Heap.get?_push_size _ rfl⟩
theorem Inv.fresh(I:Inv X pins σ H s):H s.heap.objs.size=none:=I.hok.fresh (Nat.le_refl _)
theorem Inv.ahH(I:Inv X pins σ H s)(hH:H l=some (.lst xs)):xs.length<=sizeLine/\∃(its:List Value) (n:Nat),Vals xs its/\xs.length=its.length/\s.heap.get? l=some {cls:=.type "list",data:=.seq its.toArray n}:=by
 obtain⟨z,its,n,r,e⟩:=I.hok l _ hH
 exact⟨z,its,n,r,r.length,e⟩
theorem afl{n:Nat}(h:n<=sizeLine):Builtin.List.listTooLong n=false:=by
 unfold Builtin.List.listTooLong
 exact decide_eq_false (by lia)
end
section
variable{X:Cx}
def KD:V->List V->Hp->VK->Prop:=fun x vs H Q=>∃l xs y,x=.ref l/\vs=[y]/\H l=some (.lst xs)/\xs.length<sizeLine/\Q .non (upd H l (.lst (xs++[y])))
theorem cH:MtM X "list.append" KD:=by
 intro pins s σ H x vs v us Q I rx rv h
 obtain⟨l,xs,y,rfl,rfl,hH,hz,q⟩:=h
 cases rx
 obtain⟨u,rfl,ru⟩:=rv.one
 obtain⟨z,its,n,r,hl,e⟩:=I.ahH hH
 refine call_meets F.slot_list_append ⟨_,e,rfl⟩ F.entry_list_append (F.args_list_append_2 _ _) (PySem.list_append l its.toArray n u (by rw[List.size_toArray];lia)) ⟨e,?_⟩
 refine⟨.non,_,I.ak9 (its':=its++[u]) hH e (by simp) (r.append (.cons ru .nil)) ?_,rfl,q⟩
 rw[List.length_append,List.length_singleton]
 lia
def axQ:V->List V->Hp->VK->Prop:=fun x vs H Q=>∃l xs y,x=.ref l/\vs=[]/\H l=some (.lst xs)/\xs[xs.length - 1]? = some y/\Q y (upd H l (.lst xs.dropLast))
theorem ala:MtM X "list.pop" axQ:=by
 intro pins s σ H x vs v us Q I rx rv h
 obtain⟨l,xs,y,rfl,rfl,hH,hy,q⟩:=h
 cases rx
 have hus:=rv.zero
 subst hus
 obtain⟨z,its,n,r,hl,e⟩:=I.ahH hH
 obtain⟨u,hu,ru⟩:=r.get hy
 have hy':its.toArray[its.toArray.size - 1]? = some u:=by
  show its.toArray[its.length - 1]? = some u
  rw[<-Array.getElem?_toList,<-hl]
  exact hu
 refine call_meets F.slot_list_pop ⟨_,e,rfl⟩ F.entry_list_pop (F.args_list_pop_1 _) (MeetsSeq.list_pop_last l its.toArray n u hy' (by rw[List.size_toArray];lia)) ⟨e,?_⟩
 refine⟨y,_,I.ak9 (its':=its.dropLast) hH e ?_ r.dropLast ?_,ru,q⟩
 ·show its.toArray.eraseIdxIfInBounds (its.toArray.size - 1)=its.dropLast.toArray
  rw[List.size_toArray,List.eraseIdxIfInBounds_toArray,ahG]
 ·rw[List.length_dropLast]
  lia
def aqX:V->List V->Hp->VK->Prop:=fun x vs H Q=>∃l xs i k y,x=.ref l/\vs=[.int i]/\H l=some (.lst xs)/\-(2 ^ 63)<=i/\i<2 ^ 63/\seqIndex? i xs.length=some k/\xs[k]? = some y/\Q y (upd H l (.lst (xs.eraseIdx k)))
theorem DG:MtM X "list.pop" aqX:=by
 intro pins s σ H x vs v us Q I rx rv h
 obtain⟨l,xs,i,k,y,rfl,rfl,hH,h1,h2,hk,hy,q⟩:=h
 cases rx
 obtain⟨u,rfl,ru⟩:=rv.one
 obtain⟨t,rfl⟩:=ru
 obtain⟨z,its,n,r,hl,e⟩:=I.ahH hH
 obtain⟨w,hw,rw'⟩:=r.get hy
 refine call_meets F.slot_list_pop ⟨_,e,rfl⟩ F.entry_list_pop (F.args_list_pop_2 _ _)
  (MeetsSeq.list_pop_at l its.toArray n i t k w (fitsIndex_both h1 h2) (by rw[List.size_toArray,<-hl];exact hk) (by rw[<-Array.getElem?_toList];exact hw) (by rw[List.size_toArray];lia)) ⟨e,?_⟩
 refine⟨y,_,I.ak9 (its':=its.eraseIdx k) hH e ?_ (r.eraseIdx k) ?_,rw',q⟩
 ·show its.toArray.eraseIdxIfInBounds k=(its.eraseIdx k).toArray
  rw[List.eraseIdxIfInBounds_toArray]
 ·have:=abz xs k
  lia
def aqY:R2:=fun x y H Q=>∃l b xs zs,x=.ref l/\y=.ref b/\H l=some (.lst xs)/\H b=some (.lst zs)/\xs.length+zs.length<=sizeLine/\∀p,H p=none->Q (.ref p) (upd H p (.lst (xs++zs)))
theorem mD:VP X (binaryOp .Add) aqY:=by
 intro pins s σ H x y v u Q I rx ry h
 obtain⟨l,b,xs,zs,rfl,rfl,hH,hB,hz,q⟩:=h
 cases rx
 cases ry
 obtain⟨z,its,n,r,hl,e⟩:=I.ahH hH
 obtain⟨z2,its2,n2,r2,hl2,e2⟩:=I.ahH hB
 refine PySem.P.add_list e e2 ?_ (by rw[List.size_toArray,List.size_toArray];lia)
 have ea:its.toArray++its2.toArray=(its++its2).toArray:=by simp
 rw[ea]
 exact⟨.ref _,_,I.aqW (t':=s.toks) (r.append r2) (by rw[List.length_append];lia),rfl,q _ I.fresh⟩
def axR:R2:=fun x y H Q=>∃l k xs,x=.ref l/\y=.int k/\H l=some (.lst xs)/\-(2 ^ 63)<=k/\k<2 ^ 63/\xs.length*k.toNat<=sizeLine/\
 ∀p,H p=none->Q (.ref p) (upd H p (.lst (List.replicate k.toNat xs).flatten))
theorem len_rep{α:Type}(xs:List α)(k:Nat):(List.replicate k xs).flatten.length=k*xs.length:=by
 induction k with
 | zero=>simp
 | succ k ih=>rw[List.replicate_succ,List.flatten_cons,List.length_append,ih,Nat.succ_mul,Nat.add_comm]
theorem alb:VP X (binaryOp .Mult) axR:=by
 intro pins s σ H x y v u Q I rx ry h
 obtain⟨l,k,xs,rfl,rfl,hH,h1,h2,hz,q⟩:=h
 cases rx
 obtain⟨t,rfl⟩:=ry
 obtain⟨z,its,n,r,hl,e⟩:=I.ahH hH
 have hlen:its.toArray.size*k.toNat<=sizeLine:=by rw[List.size_toArray,<-hl];exact hz
 have axS:¬its.toArray.size*k.toNat > (2 ^ 63 - 1) / 8:=by
  have:(sizeLine:Nat)<=(2 ^ 63 - 1) / 8:=by decide
  lia
 have hfit:¬(!Builtin.List.listFitsIndex k)=true:=by
  rw[fitsIndex_both h1 h2]
  exact Bool.false_ne_true
 have auI:¬Builtin.List.listTooLong (its.toArray.size*k.toNat)=true:=by
  rw[afl hlen]
  exact Bool.false_ne_true
 have hnew:List.foldl (fun x1 x2=>x1++x2) #[] (List.replicate (if its.toArray.isEmpty=true then 0 else k.toNat) its.toArray)=(List.replicate k.toNat its).flatten.toArray:=by
  have f0:∀m:Nat,List.foldl (fun x1 x2=>x1++x2) #[] (List.replicate m its.toArray)=(List.replicate m its).flatten.toArray:=fun m=>by
   have:=foldl_rep its m []
   rw[List.nil_append]at this
   exact this
  rw[f0]
  cases its with
  | nil=>simp
  | cons a r'=>rw[if_neg (by simp)]
 refine wpAny_binaryOp_repeat_ref (T:="list") (U:="int") (by decide) ⟨_,e,rfl⟩ (fun s'=>typeIs_int s' k t) noFill_list_mul F.fills_int_mul F.slot_int_rmul repeat_list F.slot_int_index.lookup
  (call_meets F.slot_int_rmul (typeIs_int s k t) F.entry_int_rmul (F.args_int_rmul_2 _ _) (int___rmul___int_list k t l its.toArray n)
    ⟨e,rfl,⟨_,e,rfl⟩,call_meets F.slot_list_mul ⟨_,e,rfl⟩ F.entry_list_mul (F.args_list_mul_2 _ _) (AutoListH.list___mul___list_int_3 l its.toArray n k t hfit axS auI) ⟨e,?_⟩⟩)
 rw[hnew]
 exact⟨.ref _,_,I.aqW (t':=s.toks) (r.rep k.toNat) (by rw[len_rep,Nat.mul_comm];exact hz),rfl,q _ I.fresh⟩
end
section
variable{prog:Program}{w:World}{A:Around}{E:Value->Shared->Prop}{s:Shared}
end
section
variable{X:Cx}
end
end L2
namespace L2
open PySem PySem.Spec PyProof.Rows
section
variable{κ:Type}[DecidableEq κ]
def fP(kvs:List (κ×V))(k:κ):Option V:=(kvs.find? fun kv=>decide (kv.1=k)).map (·.2)
def putK(kvs:List (κ×V))(k:κ)(v:V):List (κ×V) :=
 if(kvs.any fun kv=>decide (kv.1=k))=true then kvs.map (fun kv=>if kv.1=k then(kv.1,v)else kv)else kvs++[(k,v)]
def wW(kvs:List (κ×V))(k:κ):List (κ×V):=kvs.filter fun kv=>decide (kv.1≠k)
theorem jP{p:κ×V}{r:List (κ×V)}{k:κ}(e:p.1=k):fP (p::r) k=some p.2:=by simp[fP,List.find?_cons,e]
theorem jQ{p:κ×V}{r:List (κ×V)}{k:κ}(e:¬p.1=k):fP (p::r) k=fP r k:=by simp[fP,List.find?_cons,e]
theorem KH(k:κ):∀kvs:List (κ×V),(kvs.any fun kv=>decide (kv.1=k))=(fP kvs k).isSome
 | []=>rfl
 | p::r=>by
   rw[List.any_cons]
   by_cases e:p.1=k
   ·simp only[jP e,decide_eq_true e,Bool.true_or,Option.isSome_some]
   ·rw[jQ e,decide_eq_false e,Bool.false_or];exact KH k r
theorem afm(k j:κ)(y:V):∀kvs:List (κ×V),fP (kvs.map fun kv=>if kv.1=k then(kv.1,y)else kv) j=(fP kvs j).map fun x=>if j=k then y else x
 | []=>rfl
 | p::r=>by
   have ih:=afm k j y r
   rw[List.map_cons]
   by_cases h:p.1=k
   ·rw[if_pos h]
    by_cases e:p.1=j
    ·rw[jP (p:=(p.1,y)) e,jP e,Option.map_some,if_pos (e.symm.trans h)]
    ·rw[jQ (p:=(p.1,y)) e,jQ e,ih]
   ·rw[if_neg h]
    by_cases e:p.1=j
    ·rw[jP (p:=p) e,jP e,Option.map_some,if_neg (fun z=>h (e.trans z))]
    ·rw[jQ (p:=p) e,jQ e,ih]
theorem abA(k j:κ)(y:V):∀kvs:List (κ×V),fP kvs k=none->fP (kvs++[(k,y)]) j=if j=k then some y else fP kvs j
 | [],_=>by
   by_cases e:k=j
   ·rw[if_pos e.symm];exact jP (p:=(k,y)) e
   ·rw[if_neg (fun z=>e z.symm)];exact jQ (p:=(k,y)) e
 | p::r,hn=>by
   rw[List.cons_append]
   have hk:¬p.1=k:=fun z=>by rw[jP z]at hn;cases hn
   rw[jQ hk]at hn
   have ih:=abA k j y r hn
   by_cases e:p.1=j
   ·rw[jP e,jP e,if_neg (fun z=>hk (e.trans z))]
   ·rw[jQ e,jQ e,ih]
theorem alc(kvs:List (κ×V))(k j:κ)(y:V):fP (putK kvs k y) j=if j=k then some y else fP kvs j:=by
 unfold putK
 by_cases a:(kvs.any fun kv=>decide (kv.1=k))=true
 ·rw[if_pos a,afm]
  rw[KH]at a
  by_cases e:j=k
  ·obtain⟨x,hx⟩:=Option.isSome_iff_exists.mp a
   rw[if_pos e,e,hx,Option.map_some,if_pos rfl]
  ·rw[if_neg e]
   cases fP kvs j with
   | none=>rfl
   | some x=>rw[Option.map_some,if_neg e]
 ·rw[if_neg a]
  refine abA k j y kvs ?_
  rw[KH]at a
  cases q:fP kvs k with
  | none=>rfl
  | some x=>rw[q]at a;exact(a rfl).elim
theorem uE(kvs:List (κ×V))(k:κ)(v:V):(putK kvs k v).length<=kvs.length+1:=by
 unfold putK
 split
 ·rw[List.length_map];lia
 ·rw[List.length_append,List.length_cons,List.length_nil];lia
theorem BW.Pz{o:Option V}{u:Option Value}(r:BW o u):o.isSome=u.isSome:=by
 cases o with
 | none=>cases u with
   | none=>rfl
   | some _=>exact(show False from r).elim
 | some _=>cases u with
   | none=>exact(show False from r).elim
   | some _=>rfl
theorem KV.val{kvs:List (κ×V)}{vs:List (κ×Value)}(r:KV kvs vs)(k:κ):BW (fP kvs k) (valueAt vs k):=by
 unfold KV at r
 induction r with
 | nil=>exact True.intro
 | @cons p q ps qs h t ih =>
   obtain⟨h1,h2⟩:=h
   by_cases e:p.1=k
   ·have e':q.1=k:=h1.symm.trans e
    have b:valueAt (q::qs) k=some q.2:=by simp[valueAt,List.find?_cons,e']
    rw[jP e,b];exact h2
   ·have e':¬q.1=k:=fun z=>e (h1.trans z)
    have b:valueAt (q::qs) k=valueAt qs k:=by simp[valueAt,List.find?_cons,e']
    rw[jQ e,b];exact ih
theorem KV.any{kvs:List (κ×V)}{vs:List (κ×Value)}(r:KV kvs vs)(k:κ):(kvs.any fun kv=>decide (kv.1=k))=vs.any fun kv=>decide (kv.1=k):=by
 unfold KV at r
 induction r with
 | nil=>rfl
 | cons h t ih=>rw[List.any_cons,List.any_cons,ih,h.1]
theorem KV.repl{kvs:List (κ×V)}{vs:List (κ×Value)}(r:KV kvs vs)(k:κ){y:V}{u:Value}(ry:RelV y u) :
 KV (kvs.map fun kv=>if kv.1=k then(kv.1,y)else kv) (vs.map fun kv=>if kv.1=k then(kv.1,u)else kv):=by
 unfold KV at r ⊢
 induction r with
 | nil=>exact .nil
 | @cons p q ps qs h t ih =>
   rw[List.map_cons,List.map_cons]
   refine .cons ?_ ih
   obtain⟨h1,h2⟩:=h
   by_cases e:p.1=k
   ·rw[if_pos e,if_pos (h1.symm.trans e)];exact⟨h1,ry⟩
   ·rw[if_neg e,if_neg (fun z=>e (h1.trans z))];exact⟨h1,h2⟩
theorem KV.put{kvs:List (κ×V)}{vs:List (κ×Value)}(r:KV kvs vs)(k:κ){y:V}{u:Value}(ry:RelV y u):KV (putK kvs k y) (stored vs k u):=by
 unfold putK stored
 rw[r.any k]
 by_cases e:(vs.any fun kv=>decide (kv.1=k))=true
 ·rw[if_pos e,if_pos e];exact r.repl k ry
 ·rw[if_neg e,if_neg e];exact Paired.snoc r ⟨rfl,ry⟩
theorem KV.drop{kvs:List (κ×V)}{vs:List (κ×Value)}(r:KV kvs vs)(k:κ):KV (wW kvs k) (without vs k):=by
 unfold KV at r ⊢
 unfold wW without
 induction r with
 | nil=>exact .nil
 | @cons p q ps qs h t ih =>
   obtain⟨h1,h2⟩:=h
   rw[List.filter_cons,List.filter_cons]
   by_cases e:p.1=k
   ·have a:¬decide (p.1≠k)=true:=by simp[e]
    have b:¬decide (q.1≠k)=true:=by simp[h1.symm.trans e]
    rw[if_neg a,if_neg b];exact ih
   ·have e':¬q.1=k:=fun z=>e (h1.trans z)
    have a:decide (p.1≠k)=true:=by simp[e]
    have b:decide (q.1≠k)=true:=by simp[e']
    rw[if_pos a,if_pos b];exact .cons ⟨h1,h2⟩ ih
theorem KV.length{kvs:List (κ×V)}{vs:List (κ×Value)}(r:KV kvs vs):kvs.length=vs.length:=Paired.length r
theorem afn(kvs:List (κ×V))(k:κ):(wW kvs k).length<=kvs.length:=List.length_filter_le _ _
end
theorem Wk{P:Program}{w:World}{k:Key}{u:Value}(r:RelV (kV k) u):(gO P w).is k u=true:=by
 cases k with
 | inl i=>obtain⟨t,e⟩:=(show ∃t,u=Value.int i t from r);subst e;exact ae8 P w i t
 | inr x=>obtain⟨t,e⟩:=(show ∃t,u=Value.str x t from r);subst e;exact ae9 P w x t
theorem abB{P:Program}{w:World}:∀{ks:List Key} {us:List Value},Vals (ks.map kV) us->ItemsAre (gO P w) ks us
 | [],_,r=>by rw[List.map_nil]at r;cases r;exact .nil
 | k::ks,_,r=>by
   rw[List.map_cons]at r
   cases r with
   | cons h t=>exact .cons (Wk h) (abB t)
abbrev KT(H:Hp):List (List Key×V)->List (List Key×Addr×Value)->Prop:=Paired fun p q=>p.1=q.1/\H q.2.1=some (.tup (p.1.map kV))/\RelV p.2 q.2.2
theorem KT.val{H:Hp}{kvs:List (List Key×V)}{xs:List (List Key×Addr×Value)}(r:KT H kvs xs)(k:List Key):BW (fP kvs k) ((atKey xs k).map (·.2)):=by
 induction r with
 | nil=>exact True.intro
 | @cons p q ps qs h t ih =>
   obtain⟨h1,_,h2⟩:=h
   by_cases e:p.1=k
   ·have e':q.1=k:=h1.symm.trans e
    have b:atKey (q::qs) k=some q.2:=by simp[atKey,List.find?_cons,e']
    rw[jP e,b];exact h2
   ·have e':¬q.1=k:=fun z=>e (h1.trans z)
    have b:atKey (q::qs) k=atKey qs k:=by simp[atKey,List.find?_cons,e']
    rw[jQ e,b];exact ih
theorem KT.repl{H:Hp}{kvs:List (List Key×V)}{xs:List (List Key×Addr×Value)}(r:KT H kvs xs)(k:List Key){y:V}{u:Value}(ry:RelV y u) :
 KT H (kvs.map fun kv=>if kv.1=k then(kv.1,y)else kv) (xs.map (putAt k u)):=by
 induction r with
 | nil=>exact .nil
 | @cons p q ps qs h t ih =>
   rw[List.map_cons,List.map_cons]
   refine .cons ?_ ih
   obtain⟨h1,h2,h3⟩:=h
   unfold putAt
   by_cases e:p.1=k
   ·rw[if_pos e,if_pos (h1.symm.trans e)];exact⟨h1,h2,ry⟩
   ·rw[if_neg e,if_neg (fun z=>e (h1.trans z))];exact⟨h1,h2,h3⟩
theorem KT.put{H:Hp}{kvs:List (List Key×V)}{xs:List (List Key×Addr×Value)}(r:KT H kvs xs)(k:List Key){b:Addr}{y:V}{u:Value}(hb:H b=some (.tup (k.map kV)))(ry:RelV y u) :
 KT H (putK kvs k y) (storedH xs k b u):=by
 have e:(kvs.any fun kv=>decide (kv.1=k))=(atKey xs k).isSome:=by
  rw[KH,(r.val k).Pz,Option.isSome_map]
 unfold putK storedH
 rw[e]
 by_cases q:(atKey xs k).isSome=true
 ·rw[if_pos q,if_pos q];exact r.repl k ry
 ·rw[if_neg q,if_neg q];exact Paired.snoc r ⟨rfl,hb,ry⟩
theorem KT.keeps{H H':Hp}{kvs:List (List Key×V)}{xs:List (List Key×Addr×Value)}(r:KT H kvs xs)(ht:∀b ys,H b=some (.tup ys)->H' b=some (.tup ys)):KT H' kvs xs :=
 Paired.aqD r fun _ _ z=>⟨z.1,ht _ _ z.2.1,z.2.2⟩
section
variable{P:Program}{w:World}{H:Hp}{h:Heap}{a:Addr}
theorem ap5{u:HO}(ok:Hd P w H h)(e:Rd H a u):fO P w H h a u:=e.ok ok
theorem afo{kvs:List (Key×V)}(ok:Hd P w H h)(e:Rd H a (.dK kvs)):kvs.length<=sizeLine/\(a == sysModules)=false/\∃vs,KV kvs vs/\h.DictOf (gO P w) a vs :=
 show fO P w H h a (.dK kvs)from ap5 ok e
theorem aiV{kvs:List (Key×V)}(ok:Hd P w H h)(e:H a=some (.dK kvs)):kvs.length<=sizeLine/\(a == sysModules)=false/\∃vs,KV kvs vs/\h.DictOf (gO P w) a vs:=afo ok (.inl e)
theorem acn{ks:List Key}(ok:Hd P w H h)(e:H a=some (.tup (ks.map kV))):(tupleKind (gO P w)).is h ks a:=by
 obtain⟨_,its,r,o,h1,h2,n,h3⟩:=(show fO P w H h a (.tup (ks.map kV))from ok a _ e)
 exact⟨o,its.toArray,n,h1,h2,h3,by simpa using abB r⟩
theorem afp{kvs:List (List Key×V)}(ok:Hd P w H h)(e:Rd H a (.dT kvs)):kvs.length<=sizeLine/\(a == sysModules)=false/\
 ∃xs,KT H kvs xs/\h.DictOfH (tupleKind (gO P w)) a xs:=by
 obtain⟨z,y,xs,r,o,es,ep,h1,h2,h3,h4,h5⟩:=(show fO P w H h a (.dT kvs)from ap5 ok e)
 refine⟨z,y,xs,r,o,es,ep,h1,h2,h3,h4,fun x hx=>?_,h5⟩
 have all:∀{l:List (List Key×V)} {m:List (List Key×Addr×Value)},KT H l m->∀x∈m,(tupleKind (gO P w)).is h x.1 x.2.1:=by
  intro l m q
  induction q with
  | nil=>intro x hx;exact nomatch hx
  | @cons p q ps qs hq t ih =>
    intro x hx
    rcases List.mem_cons.mp hx with e | hx
    ·subst e
     exact acn ok (by rw[<-hq.1];exact hq.2.1)
    ·exact ih x hx
 exact all r x hx
theorem auJ{kvs:List (List Key×V)}(ok:Hd P w H h)(e:H a=some (.dT kvs)):kvs.length<=sizeLine/\(a == sysModules)=false/\
 ∃xs,KT H kvs xs/\h.DictOfH (tupleKind (gO P w)) a xs:=afp ok (.inl e)
end
def Hg(H:Hp)(a:Addr)(y:V)(r:Option V):Prop :=
 (∃kvs k,Rd H a (.dK kvs)/\y=kV k/\r=fP kvs k)\/∃kvs k b,Rd H a (.dT kvs)/\y=.ref b/\H b=some (.tup (k.map kV))/\r=fP kvs k
def ahI(H:Hp)(a:Addr)(y v:V)(H':Hp):Prop :=
 (∃kvs k,H a=some (.dK kvs)/\y=kV k/\kvs.length<sizeLine/\H'=upd H a (.dK (putK kvs k v)))\/
 ∃kvs k b,H a=some (.dT kvs)/\y=.ref b/\H b=some (.tup (k.map kV))/\kvs.length<sizeLine/\H'=upd H a (.dT (putK kvs k v))
theorem Hg.k{H:Hp}{a:Addr}{kvs:List (Key×V)}{k:Key}(e:H a=some (.dK kvs)):Hg H a (kV k) (fP kvs k):=.inl ⟨kvs,k,.inl e,rfl,rfl⟩
theorem ahI.k{H:Hp}{a:Addr}{kvs:List (Key×V)}{k:Key}{v:V}(e:H a=some (.dK kvs))(hl:kvs.length<sizeLine):ahI H a (kV k) v (upd H a (.dK (putK kvs k v))):=.inl ⟨kvs,k,e,rfl,hl,rfl⟩
section
variable{X:Cx}{pins:List (Addr×Obj)}{σ:St}{H:Hp}{s:Shared}{a:Addr}{y v:V}{u r:Value}{o:Option V}{A:Around}{E:Value->Shared->Prop}
theorem Inv.big(I:Inv X pins σ H s):sysModules<s.heap.objs.size:=by
 have h:mainGlobals<s.heap.objs.size:=(I.mod.glob.keeps I.bk).lt
 exact Nat.lt_trans (by decide) h
theorem ajV{Q:Value->Shared->Prop}(hu:A.units+1<cLine)(I:Inv X pins σ H s)(g:Hg H a y (some v))(ry:RelV y u)(h:∀w' s',Inv X pins σ H s'->RelV v w'->Q w' s') :
 wpAny (model X.prog X.w) A (getItem (.ref a) u) Q E s:=by
 rcases g with ⟨kvs,k,e,ey,l⟩ | ⟨kvs,k,b,e,ey,eb,l⟩
 ·subst ey
  obtain⟨z,hd,vs,rel,dd⟩:=afo I.hok e
  obtain⟨w',hw,rw'⟩:=BW.some_of (v:=v) (o:=valueAt vs k) (by rw[l];exact rel.val k)
  exact wpAny_getItem_of (Wk ry) dd.mapOf hw (h w' _ (I.tok _) rw')
 ·subst ey
  cases (show u=Value.ref b from ry)
  obtain⟨z,hd,xs,rel,dd⟩:=afp I.hok e
  obtain⟨w',hw,rw'⟩:=BW.some_of (v:=v) (o:=(atKey xs k).map (·.2)) (by rw[l];exact rel.val k)
  obtain⟨p,hp,hp2⟩:=Option.map_eq_some_iff.mp hw
  refine wpAny_getItem_heap (tupleKind_room_in1 hu) (acn I.hok eb) dd hp ?_
  rw[hp2]
  exact h w' _ (I.tok _) rw'
theorem axT{Q:Value->Shared->Prop}(hu:A.units+1<cLine)(I:Inv X pins σ H s)(g:Hg H a y o)(ry:RelV y u)(h:∀s',Inv X pins σ H s'->Q (.bool o.isSome) s') :
 wpAny (model X.prog X.w) A (compareOp .In u (.ref a)) Q E s:=by
 rcases g with ⟨kvs,k,e,ey,l⟩ | ⟨kvs,k,b,e,ey,eb,l⟩
 ·subst ey
  obtain⟨z,hd,vs,rel,dd⟩:=afo I.hok e
  refine wpAny_in_of (Wk ry) hd dd.mapOf ?_
  rw[<-(rel.val k).Pz,<-l]
  exact h _ (I.tok _)
 ·subst ey
  cases (show u=Value.ref b from ry)
  obtain⟨z,hd,xs,rel,dd⟩:=afp I.hok e
  refine wpAny_in_heap (tupleKind_room_in1 hu) (acn I.hok eb) hd dd ?_
  have q:=(rel.val k).Pz
  rw[Option.isSome_map]at q
  rw[<-q,<-l]
  exact h _ (I.tok _)
theorem VR{h':Heap}{t':Nat}{ob:HO}(I:Inv X pins σ H s)(mu:Mut (H a))(hs:Heap.SameBut a s.heap h')(he:∃q,h'.get? a=some q)(new:fO X.prog X.w (upd H a ob) h' a ob) :
 Inv X pins σ (upd H a ob) {s with heap:=h',toks:=t'} :=
 I.write (x:=a) (e:=a) mu (.inl rfl) (fun b q hb z=>(hs.2 b hb).trans z) he new
theorem ahJ{P:Program}{w:World}{H':Hp}{h':Heap}{kvs:List (Key×V)}{vs:List (Key×Value)}(z:kvs.length<=sizeLine)(hd:(a == sysModules)=false)(rel:KV kvs vs)(dd:h'.DictOf (gO P w) a vs) :
 fO P w H' h' a (.dK kvs):=⟨z,hd,vs,rel,dd⟩
theorem ajW{H':Hp}{Q:Unit->Shared->Prop}(hu:A.units+1<cLine)(I:Inv X pins σ H s)(g:ahI H a y v H')(ry:RelV y u)(rv:RelV v r)(h:∀s',Inv X pins σ H' s'->Q () s') :
 wpAny (model X.prog X.w) A (setItem (.ref a) u r) Q E s:=by
 rcases g with ⟨kvs,k,e,ey,l,eH⟩ | ⟨kvs,k,b,e,ey,eb,l,eH⟩
 ·subst ey eH
  obtain⟨z,hd,vs,rel,dd⟩:=aiV I.hok e
  have hz:vs.length<=sizeLine:=by rw[<-rel.length];exact z
  have hl:(putK kvs k v).length<=sizeLine:=by have:=uE kvs k v;lia
  refine wpAny_setItem_pairs (hsz:=hz) (Wk ry) dd fun h' dd' hs=>h _ ?_
  have he:∃q,h'.get? a=some q:=let ⟨q,_,_,hq,_⟩:=dd';⟨q,hq⟩
  exact VR I (by rw[e];exact True.intro) hs he (ahJ hl hd (rel.put k rv) dd')
 ·subst ey eH
  cases (show u=Value.ref b from ry)
  obtain⟨z,hd,xs,rel,dd⟩:=auJ I.hok e
  have hz:xs.length<=sizeLine:=by rw[<-Paired.length rel];exact z
  have hl:(putK kvs k v).length<=sizeLine:=by have:=uE kvs k v;lia
  refine wpAny_setItem_heap (hsz:=hz) (tupleKind_room_in1 hu) (acn I.hok eb) dd fun h' dd' hs=>h _ ?_
  obtain⟨q,es,ep,hq,h2,h3,h4,_,h5⟩:=dd'
  refine VR I (by rw[e];exact True.intro) hs ⟨q,hq⟩ ⟨hl,hd,_,(rel.put k eb rv).keeps fun c ys ec=>?_,q,es,ep,hq,h2,h3,h4,h5⟩
  rw[az (jq ec e (fun z=>nomatch z))]
  exact ec
end
section
variable{X:Cx}{pins:List (Addr×Obj)}{σ:St}{H:Hp}{s:Shared}{a:Addr}{kvs:List (Key×V)}{k:Key}{u:Value}{A:Around}{E:Value->Shared->Prop}
theorem auK{v:V}{more:List Value}{Q:Value->Shared->Prop}(I:Inv X pins σ H s)(e:H a=some (.dK kvs))(ry:RelV (kV k) u)(l:fP kvs k=some v)(hm:more=[]\/∃x,more=[x])
 (h:∀w' s',Inv X pins σ (upd H a (.dK (wW kvs k))) s'->RelV v w'->Q w' s'):wpAny (model X.prog X.w) A (call (.builtin "dict.pop") (.ref a::u::more)) Q E s:=by
 obtain⟨z,hd,vs,rel,dd⟩:=aiV I.hok e
 obtain⟨w',hw,rw'⟩:=BW.some_of (v:=v) (o:=valueAt vs k) (by rw[<-l];exact rel.val k)
 have hp:(keyPart u).isSome=true:=by
  cases k with
  | inl i=>obtain⟨t,q⟩:=(show ∃t,u=Value.int i t from ry);subst q;rfl
  | inr x=>obtain⟨t,q⟩:=(show ∃t,u=Value.str x t from ry);subst q;rfl
 have ha:argsOk "dict.pop" ⟨.ref a::u::more,[]⟩:=by
  rcases hm with q | ⟨x,q⟩
  ·subst q;exact PySem.F.args_dict_pop_2 _ _
  ·subst q;exact PySem.F.args_dict_pop_3 _ _ _
 refine call_meetsIn PySem.F.slot_dict_pop dd.typeIs PySem.F.entry_dict_pop ha (meets_dict_pop_there (gO X.prog X.w) a (Wk ry) more hm hp)
  ⟨vs,w',dd,by rw[<-rel.length];exact z,hw,fun h' dd' hs=>h w' _ ?_ rw'⟩
 have he:∃q,h'.get? a=some q:=let ⟨q,_,_,hq,_⟩:=dd';⟨q,hq⟩
 exact VR I (by rw[e];exact True.intro) hs he (ahJ (Nat.le_trans (afn kvs k) z) hd (rel.drop k) dd')
theorem aqZ{r:Value}{Q:Value->Shared->Prop}(I:Inv X pins σ H s)(e:H a=some (.dK kvs))(ry:RelV (kV k) u)(l:fP kvs k=none)(h:∀s',Inv X pins σ H s'->Q r s') :
 wpAny (model X.prog X.w) A (call (.builtin "dict.pop") [.ref a,u,r]) Q E s:=by
 obtain⟨z,hd,vs,rel,dd⟩:=aiV I.hok e
 have hn:valueAt vs k=none:=BW.none_of (by rw[<-l];exact rel.val k)
 have hp:(keyPart u).isSome=true:=by
  cases k with
  | inl i=>obtain⟨t,q⟩:=(show ∃t,u=Value.int i t from ry);subst q;rfl
  | inr x=>obtain⟨t,q⟩:=(show ∃t,u=Value.str x t from ry);subst q;rfl
 exact call_meetsIn PySem.F.slot_dict_pop dd.typeIs PySem.F.entry_dict_pop (PySem.F.args_dict_pop_3 _ _ _) (meets_dict_pop_default (gO X.prog X.w) a (Wk ry) hd hp r) ⟨vs,dd,hn,h _ (I.tok _)⟩
end
def aq0(i:Expr):Prop:=∀ov iv,subscripted i false ov iv=operate [ov,iv] (getItem ov iv)
theorem aiW{prog:Program}{w:World}{A:Around}{E:Value->Shared->Prop}{s:Shared}{env:Env}{value slice:Expr}{pos:Pos}{T id:String}{Q:Value->Shared->Prop}
 (hl:typeLookup (.type T) "__getitem__"=pure (some (.builtin id))) (hs:aq0 slice)
 (h:wpAny (model prog w) A (eval value env) (fun o s₁=>wpAny (model prog w) A (eval slice env) (fun i s₂=>s₂.TypeIs o T/\wpAny (model prog w) A (getItem o i) Q E s₂) E s₁) E s) :
 wpAny (model prog w) A (eval (.Subscript value slice pos) env) Q E s:=by
 refine Subscript_ (wpAny_mono h (fun o s₁ h₁=>wpAny_mono h₁ (fun i s₂ h₂=>?_) fun _ _ x=>x) fun _ _ x=>x)
 obtain⟨hT,h₂⟩:=h₂
 unfold subscriptTail
 refine wpAny_bind ?_
 rw[getitemInPython_of_ne hT.not_modules]
 refine wpAny_bind (wpAny_specialOf hT hl ?_)
 have fin:wpAny (model prog w) A (subscripted slice false o i) (fun r s₃=>wpAny (model prog w) A (letTemporaryGo value o r >>= fun _=>pure r) Q E s₃) E s₂:=by
  rw[hs o i]
  exact wpAny_operating (wpAny_mono h₂ (fun r s₃ h₃=>wpAny_bind (wpAny_letTemporaryGo (wpAny_pure h₃))) fun _ _ x=>x)
 first
  | exact wpAny_pure (wpAny_bind fin)
  | exact wpAny_bind (wpAny_pure (wpAny_bind fin))
  | exact wpAny_bind fin
theorem afq{X:Cx}{pins:List (Addr×Obj)}{σ:St}{H:Hp}{s:Shared}{a:Addr}{y:V}{o:Option V}(I:Inv X pins σ H s)(g:Hg H a y o):s.TypeIs (.ref a) "dict":=by
 rcases g with ⟨kvs,k,e,_,_⟩ | ⟨kvs,k,b,e,_,_,_⟩
 ·obtain⟨_,_,vs,_,dd⟩:=afo I.hok e
  exact dd.typeIs
 ·obtain⟨_,_,xs,_,dd⟩:=afp I.hok e
  exact dd.typeIs
def Wl(td ty:TE):TE:=fun σ H Q=>td σ H fun x H1=>ty σ H1 fun y H2=>∃a v,x=.ref a/\Hg H2 a y (some v)/\Q v H2
def axU(ty td:TE):TE:=fun σ H Q=>ty σ H fun y H1=>td σ H1 fun x H2=>∃a o,x=.ref a/\Hg H2 a y o/\Q (.bl o.isSome) H2
def auL(td ty tv:TE):TS:=fun D σ H=>tv σ H fun v H1=>td σ H1 fun x H2=>ty σ H2 fun y H3=>∃a H4,x=.ref a/\ahI H3 a y v H4/\D.nx σ H4
section
variable{X:Cx}{o i e value:Expr}{pos pos' tpos:Pos}{td ty tv:TE}
theorem bG(hu:X.A.units+1<cLine)(ho:PE X o td)(hi:PE X i ty)(hs:aq0 i):PE X (.Subscript o i pos) (Wl td ty):=by
 intro pins s σ H Q I h
 refine aiW PySem.F.slot_dict_getitem.lookup hs (gf (ho pins s σ H _ I h) fun u s1 hz=>kE hz fun x H1 I1 rx q1=>gf (hi pins s1 σ H1 _ I1 q1) fun iv s2 hz=>kE hz fun y H2 I2 ry ⟨a,v,ex,g,q2⟩=>?_)
 subst ex
 obtain rfl:u=Value.ref a:=rx
 exact⟨afq I2 g,ajV hu I2 g ry fun w' s3 I3 rw'=>⟨v,H2,I3,rw',q2⟩⟩
theorem aq1(hu:X.A.units+1<cLine)(hi:PE X i ty)(ho:PE X o td):PC X .In i o (axU ty td):=by
 intro pins s σ H Q I h
 refine gf (hi pins s σ H _ I h) fun iv s1 hz=>kE hz fun y H1 I1 ry q1=>gf (ho pins s1 σ H1 _ I1 q1) fun u s2 hz=>kE hz fun x H2 I2 rx ⟨a,ov,ex,g,q2⟩=>?_
 subst ex
 obtain rfl:u=Value.ref a:=rx
 exact axT hu I2 g ry fun s3 I3=>⟨.bl ov.isSome,H2,I3,rfl,q2⟩
theorem lz(hu:X.A.units+1<cLine)(ho:PE X o td)(hi:PE X i ty)(hv:PE X value tv)(hs:swapsWith value (some (.Subscript o i pos')) pos.line X.env=pure false) :
 PS X (.Assign [.Subscript o i pos'] value pos) (auL td ty tv):=by
 intro pins s σ H D I h
 refine wpAny_Assign_Subscript (gf (hv pins s σ H _ I h) fun r s1 hz=>kE hz fun v H1 I1 rv q1=>gf (ho pins s1 σ H1 _ I1 q1) fun u s2 hz=>kE hz fun x H2 I2 rx q2=>gf (hi pins s2 σ H2 _ I2 q2) fun iv s3 hz=>kE hz fun y H3 I3 ry ⟨a,H4,ex,g,q3⟩=>?_) hs
 subst ex
 obtain rfl:u=Value.ref a:=rx
 exact ajW hu I3 g ry rv fun s4 I4=>⟨σ,H4,I4,q3⟩
end
theorem afr{P:Program}{w:World}{H:Hp}(h:Heap)(hb:sysModules<h.objs.size):fO P w H (h.push {cls:=.type "dict",data:=.dict #[]}) h.objs.size (.dK []) :=
 ⟨Nat.zero_le _,beq_eq_false_iff_ne.mpr (Ne.symm (Nat.ne_of_lt hb)),[],.nil,Heap.DictOf.new h⟩
def aq2:TE:=fun _ H Q=>∀p,H p=none->Q (.ref p) (upd H p (.dK []))
section
variable{X:Cx}{pos:Pos}
theorem ale:PE X (.Dict [] [] pos) aq2:=fun pins s σ H Q I h =>
 wpAny_Dict_empty ⟨.ref s.heap.objs.size,_,I.laid (a:=s.heap.objs.size) (o:=.dK []) (t':=s.toks) (fun _ _ q=>Heap.get?_push_of_some _ q) (Nat.le_refl _) (afr s.heap I.big),rfl,h _ (I.hok.fresh (Nat.le_refl _))⟩
end
def ahK:List (TE×TE)->St->Hp->(List (V×V)->Hp->Prop)->Prop
 | [],_,H,Q=>Q [] H
 | (tk,tv)::r,σ,H,Q=>tk σ H fun x H1=>tv σ H1 fun y H2=>ahK r σ H2 fun ps H3=>Q ((x,y)::ps) H3
abbrev VV:List (V×V)->List (Value×Value)->Prop:=Paired fun p q=>RelV p.1 q.1/\RelV p.2 q.2
def PPs(X:Cx)(pos:Pos)(keys:List (Option Expr))(values:List Expr)(trs:List (TE×TE)):Prop :=
 ∀(pins:List (Addr×Obj)) (s:Shared) (σ:St) (H:Hp) (Q:List (V×V)->Hp->Prop),Inv X pins σ H s->ahK trs σ H Q->
  wpAny (model X.prog X.w) X.A (evalPairs (pairTrees keys values X.env pos)) (fun vs s'=>∃ps H',Inv X pins σ H' s'/\VV ps vs/\Q ps H') X.xe s
theorem aiX{X:Cx}{pos:Pos}:PPs X pos [] [] []:=fun pins s σ H Q I h=>pairTrees_nil_walk ⟨[],H,I,.nil,h⟩
theorem mF{X:Cx}{pos:Pos}{k v:Expr}{ks:List (Option Expr)}{vs:List Expr}{tk tv:TE}{trs:List (TE×TE)}(hk:PE X k tk)(hv:PE X v tv)(hr:PPs X pos ks vs trs) :
 PPs X pos (some k::ks) (v::vs) ((tk,tv)::trs):=fun pins s σ H Q I h =>
 pairTrees_cons_walk (gf (hk pins s σ H _ I h) fun u s1 hz=>kE hz fun x H1 I1 rx q1=>gf (hv pins s1 σ H1 _ I1 q1) fun w2 s2 hz=>kE hz fun y H2 I2 ry q2 =>
  gf (hr pins s2 σ H2 _ I2 q2) fun ws s3 hz=>kE hz fun ps H3 I3 rel q3=>⟨(x,y)::ps,H3,I3,.cons ⟨rx,ry⟩ rel,q3⟩)
def Jd(kvs more:List (Key×V)):List (Key×V):=more.foldl (fun acc kv=>putK acc kv.1 kv.2) kvs
theorem KV.merge:∀{more:List (Key×V)} {rs:List (Key×Value)} {kvs:List (Key×V)} {vs:List (Key×Value)},KV more rs->KV kvs vs->KV (Jd kvs more) (merged vs rs):=by
 intro more rs kvs vs r
 unfold KV at r
 induction r generalizing kvs vs with
 | nil=>intro q;exact q
 | @cons p q ps qs h t ih =>
   intro r0
   have e:KV (putK kvs p.1 p.2) (stored vs q.1 q.2):=by
    have:=r0.put p.1 h.2
    rw[<-h.1];exact this
   exact ih e
theorem Hl:∀(more kvs:List (Key×V)),(Jd kvs more).length<=kvs.length+more.length
 | [],kvs=>by show kvs.length<=kvs.length+0;lia
 | p::r,kvs=>by
   have h1:=Hl r (putK kvs p.1 p.2)
   have h2:=uE kvs p.1 p.2
   show(Jd (putK kvs p.1 p.2) r).length<=_
   rw[List.length_cons];lia
theorem Wm{P:Program}{w:World}:∀{kvs:List (Key×V)} {ws:List (Value×Value)},VV (kvs.map fun kv=>(kV kv.1,kv.2)) ws->∃rs,Carries (gO P w) ws rs/\KV kvs rs
 | [],_,r=>by rw[List.map_nil]at r;cases r;exact⟨[],True.intro,.nil⟩
 | p::kvs,_,r=>by
   rw[List.map_cons]at r
   cases r with
   | @cons a b as bs h t =>
     obtain⟨rs,c,q⟩:=Wm (P:=P) (w:=w) t
     obtain⟨b1,b2⟩:=b
     exact⟨(p.1,b2)::rs,⟨Wk h.1,rfl,c⟩,.cons ⟨rfl,h.2⟩ q⟩
def auM(trs:List (TE×TE)):TE:=fun σ H Q=>∀p,H p=none->ahK trs σ (upd H p (.dK [])) fun ps H2=>H2 p=some (.dK [])/\∃kvs:List (Key×V),ps=kvs.map (fun kv=>(kV kv.1,kv.2))/\kvs.length<=15/\Q (.ref p) (upd H2 p (.dK (Jd [] kvs)))
theorem aiY{X:Cx}{pos:Pos}{keys:List (Option Expr)}{values:List Expr}{trs:List (TE×TE)}(h:PPs X pos keys values trs)(hall:keys.all (·.isSome)=true)(hl:keys.length=values.length)(h0:keys≠[])
 (h15:keys.length<=15):PE X (.Dict keys values pos) (auM trs):=by
 intro pins s σ H Q I q
 have hn:=I.hok.fresh (Nat.le_refl s.heap.objs.size)
 have I1:=I.laid (a:=s.heap.objs.size) (o:=.dK []) (h':=s.heap.push {cls:=.type "dict",data:=.dict #[]}) (t':=s.toks) (fun _ _ q=>Heap.get?_push_of_some _ q) (Nat.le_refl _) (afr s.heap I.big)
 refine wpAny_Dict_walk (knd:=gO X.prog X.w) hall hl h0 h15 (gf (h pins _ σ _ _ I1 (q _ hn)) fun ws s2 hz=>kE hz fun ps H2 I2 rel ⟨e,kvs,ep,lk,q2⟩=>?_)
 subst ep
 obtain⟨rs,c,rk⟩:=Wm (P:=X.prog) (w:=X.w) rel
 obtain⟨z,hd,vs0,r0,dd⟩:=aiV I2.hok e
 cases r0
 refine⟨rs,c,dd,fun h' dd' hs=>⟨.ref s.heap.objs.size,_,?_,rfl,q2⟩⟩
 have hz:(Jd [] kvs).length<=sizeLine:=by
  have h1:=Hl kvs []
  rw[List.length_nil]at h1
  rw[sizeLine_eq];lia
 have he:∃q,h'.get? s.heap.objs.size=some q:=let ⟨q,_,_,hq,_⟩:=dd';⟨q,hq⟩
 exact VR I2 (by rw[e];exact True.intro) hs he (ahJ hz hd (rk.merge .nil) dd')
structure M2(X:Cx)(o:Expr)(m:Str)(apos:Pos)(e f:Expr)(cpos:Pos):Prop where
 base:attributeBase o m X.env (eval o X.env)=eval o X.env
 few:((backTo cpos (starEach [e,f] X.env)).all (fun x => !x.1) && (backToKw cpos (keywordEach [] X.env)).all (fun x=>x.1.isSome)
  && decide (([e,f]:List Expr).length+([]:List Keyword).length+(if([]:List Keyword).isEmpty then 0 else 1)<30))=true
 line:(apos.endLine == cpos.line)=true
 trees:backTo cpos (starEach [e,f] X.env)=[(false,eval e X.env),(false,eval f X.env)]
def IsD(H:Hp)(a:Addr):Prop:=(∃kvs,Rd H a (.dK kvs))\/∃kvs,Rd H a (.dT kvs)
theorem aq3{X:Cx}{pins:List (Addr×Obj)}{σ:St}{H:Hp}{s:Shared}{a:Addr}(I:Inv X pins σ H s)(d:IsD H a) :
 s.TypeIs (.ref a) "dict"/\(∀b,Value.ref a=.ref b->∃ob,s.heap.get? b=some ob/\ob.dict=none)/\(a == sysModules)=false:=by
 rcases d with ⟨kvs,e⟩ | ⟨kvs,e⟩
 ·obtain⟨_,hd,vs,_,dd⟩:=afo I.hok e
  refine⟨dd.typeIs,fun b q=>?_,hd⟩
  cases q
  obtain⟨ob,_,_,h1,h2,_⟩:=dd
  exact⟨ob,h1,h2.2.1⟩
 ·obtain⟨_,hd,xs,_,dd⟩:=afp I.hok e
  refine⟨dd.typeIs,fun b q=>?_,hd⟩
  cases q
  obtain⟨ob,_,_,h1,h2,_⟩:=dd
  exact⟨ob,h1,h2.2.1⟩
section
variable{X:Cx}{pins:List (Addr×Obj)}{σ:St}{H:Hp}{s:Shared}{a:Addr}{y d:V}{u r:Value}{o:Option V}{A:Around}{E:Value->Shared->Prop}
end
def aq4(td ty tx:TE):TE:=fun σ H Q=>td σ H fun x H1=>∃a,x=.ref a/\IsD H1 a/\ty σ H1 fun y H2=>tx σ H2 fun z H3=>∃kvs k,H3 a=some (.dK kvs)/\y=kV k/\
 (∀v,fP kvs k=some v->Q v (upd H3 a (.dK (wW kvs k))))/\(fP kvs k=none->Q z H3)
section
variable{X:Cx}{o e f:Expr}{apos cpos:Pos}{td ty tx:TE}
theorem alf(ho:PE X o td)(he:PE X e ty)(hf:PE X f tx)(m:M2 X o "pop" apos e f cpos):PE X (.Call (.Attribute o "pop" apos) [e,f] [] cpos) (aq4 td ty tx):=by
 intro pins s σ H Q I h
 refine wpAny_Call_method m.base m.few m.line PySem.F.plainAttrs_dict PySem.F.slot_dict_pop PySem.F.type_dict_pop (gf (ho pins s σ H _ I h) fun u s1 hz=>kE hz fun x H1 I1 rx ⟨a,ex,d,q1⟩=>?_)
 subst ex
 obtain rfl:u=Value.ref a:=rx
 obtain⟨t1,t2,_⟩:=aq3 I1 d
 refine⟨t1,t2,?_⟩
 rw[m.trees]
 refine Calls.callWith_builtin rfl (Calls.evalArgs_plain (Calls.spliced_cons (gf (he pins s1 σ H1 _ I1 q1) fun iv s2 hz=>kE hz fun y H2 I2 ry q2 =>
  Calls.spliced_cons (gf (hf pins s2 σ H2 _ I2 q2) fun fv s3 hz=>kE hz fun z H3 I3 rz ⟨kvs,k,ea,ey,q3,q4⟩=>Calls.spliced_nil ?_))))
 subst ey
 cases l:fP kvs k with
 | some v=>exact auK I3 ea ry l (.inr ⟨fv,rfl⟩) fun w' s4 I4 rw'=>⟨v,_,I4,rw',q3 v l⟩
 | none=>exact aqZ I3 ea ry l fun s4 I4=>⟨z,H3,I4,rz,q4 l⟩
end
section
variable{X:Cx}{pins:List (Addr×Obj)}{σ:St}{H:Hp}{s:Shared}{a:Addr}{kvs:List (Key×V)}{A:Around}{E:Value->Shared->Prop}
end
section
variable{X:Cx}{pins:List (Addr×Obj)}{σ:St}{H:Hp}{s:Shared}{a:Addr}{y:V}{u:Value}{A:Around}{E:Value->Shared->Prop}
end
end L2
namespace Att
open PySem PySem.W PySem.Calls PyProof.Rows
theorem S8{P:Params}{h:Heap}:∀(ns:List Int) (vs:List Value),WellAll P h vs (ns.map WData.int)->IntsAre vs ns:=by
 intro ns
 induction ns with
 | nil =>
   intro vs w
   rw[List.map_nil]at w
   cases w
   exact .nil
 | cons n ns ih =>
   intro vs w
   rw[List.map_cons]at w
   cases w with
   | cons a b =>
     cases a
     exact .cons _ _ (ih _ b)
theorem ajX{l:OpenLaw}{n:Nat}(hn:l.most=some n){P:Params}{h:Heap}{args:List WData}{vals:List Value}
 (hpre:l.row.toRowW.claim.pre args=true) (hwl:WellAll P h vals args) :
 ∃a vs ns,vals=[Value.ref a]/\args=[WData.list (ns.map WData.int)]/\h.get? a=some {cls:=.type "list",data:=.seq vs.toArray}/\IntsAre vs ns/\ns.length<=n:=by
 have hsh:WShape.hasAll [] args [.list .int]=true:=(pre_splitW hpre).1
 have hc:l.pre.holds [] {args:=args}=true:=(pre_splitW hpre).2
 obtain⟨d,r,rfl,h1,h2⟩:=hasAllW_cons hsh
 obtain rfl:=hasAllW_nil h2
 obtain⟨xs,rfl,h3⟩:=hasW_list h1
 obtain⟨ns,rfl⟩:=items_int h3
 have hlen:ns.length<=n:=by
  unfold OpenLaw.pre at hc
  have h4:(WTm.not (.lt (.lit (.int (n:Int))) (.len (.arg 0)))).holds [] {args:=[.list (ns.map .int)]}=true:=by
   have h4:=(holds_andW hc).1
   rw[hn]at h4
   exact h4
  have h5:=condW_of h4 (w_not (w_lt w_lit (w_len_list (w_arg rfl))))
  rw[List.length_map]at h5
  refine Nat.le_of_not_lt fun q=>?_
  have q':(n:Int)<((ns.length:Nat):Int):=by lia
  first
   | (rw[decide_eq_true q']at h5;exact absurd h5 (by decide))
   | (simp at h5;lia)
 cases hwl with
 | cons w1 w2 =>
   cases w2
   cases w1 with
   | list ho hall=>exact⟨_,_,ns,rfl,rfl,ho,S8 ns _ hall,hlen⟩
theorem ajY(l:OpenLaw)(args:List WData):l.row.toRowW.claim.post args (.bool true) args=true :=
 postW_of (r:=l.row.toRowW) (X:=(true == true))
  (show WShape.has [] (.bool true) .bool=true by first | rfl | decide | simp[WShape.has,WShape.arms,WShape.armsAll])
  (show(WTm.eq .res (.lit (.bool true))).value [] {args:=args,res:=some (.bool true),after:=args}=some (.bool (true == true))from w_eq_bool (w_res rfl) w_lit) rfl
theorem afs{l:OpenLaw}{n:Nat}{q:Program}{loose:List Str}{XP:(Str->Option Value)->Heap->Prop}{YP:World->Heap->Prop}{d:DefRec}
 (hn:l.most=some n) (hdf:d.params.defaults=[])
 (call:∀(w:World) (s₀ s₁:Shared) (mg mb:Str->Option Value) (fa:Addr) (o:Obj) (pm cd doc:Value) (a:Addr) (vs:List Value) (ns:List Int),
   Ground q loose [] XP w s₀ mg mb s₁.heap->YP w s₁.heap->
   s₁.heap.get? fa=some o->o.data=.func (docDef d.name d.params d.body d.scope pm cd doc)->s₁.heap.CodeRec cd d.name->mg d.name=some (.ref fa)->
   s₁.heap.get? a=some {cls:=.type "list",data:=.seq vs.toArray}->IntsAre vs ns->ns.length<=n->s₁.gens = #[]->
   codeAny (model l.prog w) callerA (.call (.ref fa) ⟨[.ref a],[]⟩) (fun r s'=>r=.ok (.ret (.bool true))/\OldK s₁.heap s'.heap/\s'.os=s₁.os/\AllBare s'.gens) s₁) :
 WalkO q loose XP YP l.row.toRowW d [] (fun f vs=>PySem.call f vs):=by
 intro w s₀ s₁ mg mb G Y fa o pm cd doc dV kV ho hd hcd hD hmg hg args vals as hpre hlay hrd hwl hlo
 obtain rfl:dV=.none:=Dflts.none hD hdf
 obtain rfl:kV=.none:=Dflts.noKw hD
 obtain⟨a,vs,ns,rfl,rfl,hobj,hints,hlen⟩:=ajX hn hpre hwl
 refine enter_call (codeAny_mono (call w s₀ s₁ mg mb fa o pm cd doc a vs ns G Y ho (fd_plain hd) hcd hmg hobj hints hlen hg) fun r s' hq=>?_)
 obtain⟨rfl,h2,h3,h4⟩:=hq
 exact⟨.inl ⟨.bool true,.bool true,[],rfl,fun _=>rfl,.bool true,ajY l _,fun _=>⟨List.Pairwise.nil,fun _ hm=>(nomatch hm)⟩⟩,h2,h3,h4⟩
section
variable{prog:Program}{w:World}{A:Around}{E:Value->Shared->Prop}{s:Shared}{K:Frag}
end
end Att
namespace L2
open PySem PySem.Spec PyProof.Rows
theorem abD:∀{vs:List Value} {ns:List Int},IntsAre vs ns->Vals (ns.map V.int) vs
 | _,_,.nil=>.nil
 | _,_,.cons n t h=>.cons ⟨t,rfl⟩ (abD h)
def Only(H:Hp):Prop:=∀b,H b=none\/∃o xs,H b=some (.frz o (.lst xs))
theorem alg{P:Program}{w:World}{K:PySem.W.Frag}{mg mb:Str->Option Value}{CX:CXT}{k:Nat}{fa a:Addr}{fd:FuncData}{x:Str}{sp:Sp}{s₁:Shared}{vs:List Value}{ns:List Int}
 (KX:K.In s₁.heap) (hns:s₁.heap.Ns mainGlobals mg) (hb:s₁.heap.Ns builtinsNs mb) (hbb:∀x:Str,x≠"__name__"->mb x=bootBuiltins x) (hlim:s₁.heap.NoLimit) (hg:s₁.gens = #[])
 (ha:s₁.heap.get? a=some {cls:=.type "list",data:=.seq vs.toArray}) (hi:IntsAre vs ns) (hl:ns.length<=sizeLine) (hr:bQ k callerA)
 (F:∀base:Heap,K.In base->base.Ns mainGlobals mg->c7 P w K mg base CX k fa fd [x] sp) (hbind:∀(s:Shared) (u:Value),BindsTo s fd ⟨[u],[]⟩ [(x,u)])
 (hsp:∀H:Hp,Only H->cu K H a (ns.map V.int)->sp [.ref a] H (fun v _=>v=.bl true) fun _ _ _=>False)
 (hCX:∀H e s',CX [] H s₁ (fun _ _ _=>False) e s'->False) :
 codeAny (model P w) callerA (.call (.ref fa) ⟨[.ref a],[]⟩) (fun r s'=>r=.ok (.ret (.bool true))/\OldK s₁.heap s'.heap/\s'.os=s₁.os/\AllBare s'.gens) s₁:=by
 have rv:=abD hi
 have lenV:=hi.length
 have core:∀H:Hp,Only H->cu K H a (ns.map V.int)->Hd P w H s₁.heap->(∀b,H b≠none->b=a)->(H a≠none->K.lookup a=none)->
  codeAny (model P w) callerA (.call (.ref fa) ⟨[.ref a],[]⟩) (fun r s'=>r=.ok (.ret (.bool true))/\OldK s₁.heap s'.heap/\s'.os=s₁.os/\AllBare s'.gens) s₁:=by
  intro H hO hS hok hA hK
  have aiZ:∀{b:Addr} {o:Obj},s₁.heap.get? b=some o->H b=none->(ab8 s₁.heap H).get? b=some o:=fun e n=>akT e n
  have noA:∀{b:Addr} {o:Obj} {es:Array DictEntry} {ep:Nat},s₁.heap.get? b=some o->o.data=.dict es ep->H b=none:=fun {b o es ep} e d=>by
   cases q:H b with
   | none=>rfl
   | some u =>
     have e':b=a:=hA b (by rw[q];simp)
     subst e'
     rw[ha]at e;cases e
     have d':Data.seq vs.toArray _=Data.dict es ep:=d
     cases d'
  have nsK:∀{b:Addr} {m:Str->Option Value},s₁.heap.Ns b m->(ab8 s₁.heap H).Ns b m:=fun {b m} ⟨o,es,ep,e,d,r⟩=>⟨o,es,ep,aiZ e (noA e d),d,r⟩
  have hKb:K.In (ab8 s₁.heap H):=fun b o e=>aiZ (KX b o e) (by
   cases q:H b with
   | none=>rfl
   | some u =>
     have e':b=a:=hA b (by rw[q];simp)
     subst e'
     rw[hK (by rw[q];simp)]at e;cases e)
  have hM:Mod K mg (ab8 s₁.heap H):=⟨hKb,nsK hns,⟨mb,nsK hb,hbb⟩,let ⟨mc,h1,h2⟩:=hlim;⟨mc,nsK h1,h2⟩⟩
  have e0:ahz P w K mg (ab8 s₁.heap H) callerA [] s₁ H:=⟨rfl,hM,fun b o e=>anp e,Nat.le_of_eq (ajL _ _),trivial,fun b hb=>absurd (show b∈([]:List Addr)from hb) (by simp),hok,.of_eq hg⟩
  refine codeAny_mono ((F _ hKb (nsK hns)).run callerA [] s₁ H ⟨[.ref a],[]⟩ [.ref a] [.ref a] _ _ hr e0 (hbind s₁ (.ref a)) (.cons rfl .nil) (hsp H hO hS)) fun r s' h=>?_
  cases r with
  | error e=>exact(hCX H e s' h).elim
  | ok fl =>
    cases fl with
    | next=>exact False.elim h
    | brk=>exact False.elim h
    | cont=>exact False.elim h
    | ret u =>
      obtain⟨v,H',os,bare,un,hok',r',q⟩:=h
      have q':v=.bl true:=q
      subst q'
      obtain rfl:u=Value.bool true:=r'
      refine⟨rfl,OldK.of_keep fun b o e=>?_,os,bare⟩
      cases q:H b with
      | none=>exact un.keep b o e q (by intro z;exact absurd (show b∈([]:List Addr)from z) (by simp)) (by simp)
      | some u =>
        rcases hO b with z | ⟨ob,xs,z⟩
        ·rw[q]at z;cases z
        ·have z2:=un.IK b ob _ z
         obtain⟨e1,_⟩:=hok b _ z
         obtain⟨e2,_⟩:=hok' b _ z2
         rw[e]at e1;cases e1
         exact e2
 cases hk:K.lookup a with
 | some o =>
   have e:=KX a o hk
   rw[ha]at e
   cases e
   refine core (fun _=>none) (fun _=>.inl rfl) (.inr ⟨_,vs.toArray,_,hk,rfl,rfl,rfl,by rw[List.size_toArray,lenV];exact hl,by simpa using rv⟩) (fun b u z=>by have z':(none:Option HO)=some u:=z;cases z') (fun b z=>absurd rfl z) fun z=>absurd rfl z
 | none =>
   refine core (fun b=>if b=a then some (.frz {cls:=.type "list",data:=.seq vs.toArray} (.lst (ns.map V.int)))else none) (fun b=>?_) (.inl (.inr ⟨{cls:=.type "list",data:=.seq vs.toArray},if_pos rfl⟩)) (fun b u z=>?_) (fun b z=>?_) fun _=>hk
   ·by_cases hb:b=a
    ·exact .inr ⟨_,_,if_pos hb⟩
    ·exact .inl (if_neg hb)
   ·by_cases hb:b=a
    ·have z':=(if_pos hb).symm.trans z
     cases z'
     subst hb
     exact⟨ha,by rw[List.length_map];exact hl,vs,_,rv,ha⟩
    ·have z':=(if_neg hb).symm.trans z
     cases z'
   ·by_cases hb:b=a
    ·exact hb
    ·exact absurd (if_neg hb) z
end L2
namespace L2
open PySem PySem.Spec PyProof.Rows
theorem anF{l:PySem.W.OpenLaw}{n k:Nat}{q:Program}{loose:List Str}{XP:(Str->Option Value)->Heap->Prop}{YP:World->Heap->Prop}{d:DefRec}{K:Params->PySem.W.Frag}{CX:World->CXT}{sp:World->Sp}{x:Str}
 (hn:l.most=some n) (hn2:n<=sizeLine) (hdf:d.params.defaults=[]) (hr:bQ k callerA)
 (hY:∀(w:World) (h:Heap),YP w h->(K w.params).In h)
 (F:∀(w:World) (mg:Str->Option Value) (fa:Addr) (h:Heap),(K w.params).In h->h.Ns mainGlobals mg->mg d.name=some (.ref fa)->
   ∃fd:FuncData,(∀(s:Shared) (u:Value),BindsTo s fd ⟨[u],[]⟩ [(x,u)])/\
    ∀base:Heap,(K w.params).In base->base.Ns mainGlobals mg->c7 l.prog w (K w.params) mg base (CX w) k fa fd [x] (sp w))
 (hsp:∀(w:World) (H:Hp) (a:Addr) (ns:List Int),ns.length<=n->Only H->cu (K w.params) H a (ns.map V.int)->sp w [.ref a] H (fun v _=>v=.bl true) fun _ _ _=>False)
 (hCX:∀(w:World) (H:Hp) (s:Shared) (e:Value) (s':Shared),CX w [] H s (fun _ _ _=>False) e s'->False) :
 PySem.W.WalkO q loose XP YP l.row.toRowW d [] (fun f vs=>PySem.call f vs):=by
 refine Att.afs hn hdf fun w s₀ s₁ mg mb fa o pm cd doc a vs ns G Y ho hd hcd hmg hobj hints hlen hg=>?_
 have KX:=hY w _ Y
 obtain⟨fd,hb,hF⟩:=F w mg fa _ KX G.T.g hmg
 exact alg KX G.T.g G.T.b G.T.builtins G.T.nolimit hg hobj hints (Nat.le_trans hlen hn2) hr hF hb (fun H hO hS=>hsp w H a ns hlen hO hS) fun H e s'=>hCX w H s₁ e s'
end L2
namespace L2
open PySem PySem.Spec PyProof.Rows
def inClass(s:Stmt)(j:Nat):Stmt:=match s with
 | .ClassDef _ _ _ body _ _ _ _ _ _ _=>body.getD j (.Pass ⟨0,0,0,0⟩)
 | _=>.Pass ⟨0,0,0,0⟩
def KJ(s:Stmt):Arguments:=match s with
 | .FunctionDef _ a _ _ _ _ _ _ _ _=>a
 | _=>{posonlyargs:=[],args:=[],vararg:=none,kwonlyargs:=[],kw_defaults:=[],kwarg:=none,defaults:=[]}
def yN(s:Stmt):List Stmt:=match s with
 | .FunctionDef _ _ b _ _ _ _ _ _ _=>b
 | _=>[]
def aO(s:Stmt):Scope:=match s with
 | .FunctionDef _ _ _ _ _ _ sc _ _ _=>sc
 | _=>{kind:=.function,names:=[],isGenerator:=false,isCoroutine:=false}
abbrev nP:CXT:=fun _ _ _ _ _ _=>False
abbrev E0:XK:=fun _ _ _=>False
theorem bU{X:Cx}:Passes nP X E0:=fun _ _ _ _ _ _ _ h=>h.elim
structure jN(K:PySem.W.Frag)(x qual:Str)(st:Stmt)(f:Addr)(fd:FuncData):Prop where
 ex:∃(oc:Value) (od:Option Addr) (kV doc pm:Value) (an:Option Addr) (cdv ct:Value) (osl:Array (Option Value)),
  fd=PySem.W.fnOf x qual (KJ st) (yN st) (aO st) .none kV doc pm an cdv ct/\K.lookup f=some ⟨oc,od,.func fd,osl⟩/\PySem.W.codeIn K cdv qual=true
 kp:PySem.W.keepIn K (.ref f)=true
section
variable{P:Program}{w:World}{K:PySem.W.Frag}{mg:Str->Option Value}{base:Heap}
theorem jN.ok{x qual:Str}{st:Stmt}{f:Addr}{fd:FuncData}{N ps:List Str}{k:Nat}{sp:Sp}(F:jN K x qual st f fd)(S:bA N ps (aO st))(len:∀vs H Q E,sp vs H Q E->vs.length=ps.length)
 (hbody:∀(cdv:Value) (A:Around) (outer:List Env) (s:Shared) (H:Hp) (vs:List V) (Q:VK) (E:XK),bQ k (A.deeper (envOfC qual (aO st) s.heap.objs.size f cdv))->sp vs H Q E->
   ∃t,PSs (dw nP P w K mg base N qual (aO st) f cdv A outer s H E).kI (yN st) t/\t {nx:=fun _ H'=>Q .non H',rt:=Q} (start N vs) H):c7 P w K mg base nP (k+1) f fd ps sp:=by
 obtain⟨oc,od,kV,doc,pm,an,cdv,ct,osl,rfl,lk,hcd⟩:=F.ex
 refine ap2 lk hcd S len fun A outer s H vs Q E hr hsp=>?_
 obtain⟨t,h,q⟩:=hbody cdv A outer s H vs Q E hr hsp
 exact⟨t,h.kI,q⟩
theorem jN.binds{x qual:Str}{st:Stmt}{f:Addr}{fd:FuncData}{ps:List Str}(F:jN K x qual st f fd)
 (h:∀(kV doc pm:Value) (an:Option Addr) (cdv ct:Value) (us:List Value),us.length=ps.length->bindArgs (PySem.W.fnOf x qual (KJ st) (yN st) (aO st) .none kV doc pm an cdv ct) ⟨us,[]⟩=pure (ps.zip us)):Binds K fd ps []:=by
 obtain⟨oc,od,kV,doc,pm,an,cdv,ct,osl,rfl,lk,hcd⟩:=F.ex
 exact .all (h kV doc pm an cdv ct)
theorem aK{x qual:Str}{st:Stmt}{f:Addr}{oc:Value}{od an:Option Addr}{osl:Array (Option Value)}{kV doc pm cdv ct:Value}(l:K.lookup f=some ⟨oc,od,.func (PySem.W.fnOf x qual (KJ st) (yN st) (aO st) .none kV doc pm an cdv ct),osl⟩)
 (c:PySem.W.codeIn K cdv qual=true) (k:PySem.W.keepIn K (.ref f)=true):jN K x qual st f (PySem.W.fnOf x qual (KJ st) (yN st) (aO st) .none kV doc pm an cdv ct):=⟨⟨oc,od,kV,doc,pm,an,cdv,ct,osl,rfl,l,c⟩,k⟩
end
theorem kZ{A:Around}{k:Nat}(hr:bQ k A):A.units+1<cLine:=Nat.lt_of_le_of_lt (Nat.add_le_add_left (by decide:1<=64) _) hr.units
section
variable{X:Cx}
theorem pv(i:Nat){x:Str}{pos:Pos}(hN:X.N[i]? = some x:=by rfl)(hv:Vis X.env.scope x:=by first | exact Or.inl rfl | exact Or.inr (Or.inl rfl) | exact Or.inr (Or.inr rfl))(hd:(x == ("__debug__":Str))=false:=by decide)
 (hcd:(x == ("__classdict__":Str))=false:=by decide):PE X (.Name x pos) (jf i):=aqG hN hv hd hcd
end
theorem uB{A B:Prop}(h:B):if false=true then A else B:=by
 rw[if_neg Bool.false_ne_true]
 exact h
theorem mG{A B:Prop}(h:A):if true=true then A else B:=by
 rw[if_pos rfl]
 exact h
def bY(H H':Hp):Prop:=∀b o,H b=some o->H' b=some o
theorem bY.refl(H:Hp):bY H H:=fun _ _ h=>h
theorem bY.trans{H H1 H2:Hp}(a:bY H H1)(b:bY H1 H2):bY H H2:=fun c o h=>b c o (a c o h)
theorem bY.free{H H':Hp}(e:bY H H'){l:Addr}(h:H' l=Option.none):H l=Option.none:=by
 cases q:H l with
 | none=>rfl
 | some o =>
   rw[e l o q]at h
   cases h
section
variable{X:Cx}
end
section
variable{κ:Type}[DecidableEq κ]
theorem ajZ{p:κ×V}{r:List (κ×V)}{k:κ}(e:p.1=k):wW (p::r) k=wW r k:=by
 unfold wW
 rw[List.filter_cons,if_neg (by simp[e])]
theorem aj0{p:κ×V}{r:List (κ×V)}{k:κ}(e:¬p.1=k):wW (p::r) k=p::wW r k:=by
 unfold wW
 rw[List.filter_cons,if_pos (by simp[e])]
end
end L2
namespace L2
open PySem PySem.Spec PyProof.Rows
inductive D where
 | n | i (k:Int) | s (x:Str) | t (ds:List D) | l (ds:List D)
mutual
def Rep(H:Hp):V->D->Prop
 | v,.n=>v=.non
 | v,.i k=>v=.int k
 | v,.s x=>v=.str x
 | v,.t ds=>∃a xs,v=.ref a/\H a=some (.tup xs)/\aH H xs ds
 | v,.l ds=>∃a xs,v=.ref a/\H a=some (.lst xs)/\aH H xs ds
def aH(H:Hp):List V->List D->Prop
 | xs,[]=>xs=[]
 | xs,d::ds=>∃v r,xs=v::r/\Rep H v d/\aH H r ds
end
mutual
def D.size:D->Nat
 | .n=>1
 | .i _=>1
 | .s _=>1
 | .t ds=>1+D.sizes ds
 | .l ds=>1+D.sizes ds
def D.sizes:List D->Nat
 | []=>0
 | d::ds=>D.size d+D.sizes ds
end
mutual
def D.flat:D->Prop
 | .n=>True
 | .i _=>True
 | .s _=>True
 | .t ds=>D.flats ds
 | .l _=>False
def D.flats:List D->Prop
 | []=>True
 | d::ds=>D.flat d/\D.flats ds
end
def b8(H H':Hp):Prop:=∀b xs,H b=some (.tup xs)->H' b=some (.tup xs)
def uF(H H':Hp):Prop:=(∀b xs,H b=some (.tup xs)->H' b=some (.tup xs))/\∀b xs,H b=some (.lst xs)->H' b=some (.lst xs)
theorem b8.trans{H H1 H2:Hp}(a:b8 H H1)(b:b8 H1 H2):b8 H H2:=fun c xs e=>b c xs (a c xs e)
mutual
theorem Rep.mono{H H':Hp}(h:uF H H'):∀{d:D} {v:V},Rep H v d->Rep H' v d
 | .n,_,r=>by simpa only[Rep] using r
 | .i _,_,r=>by simpa only[Rep] using r
 | .s _,_,r=>by simpa only[Rep] using r
 | .t ds,_,r=>by
   simp only[Rep]at r ⊢
   obtain⟨a,xs,e,ha,rl⟩:=r
   exact⟨a,xs,e,h.1 a xs ha,aH.mono h rl⟩
 | .l ds,_,r=>by
   simp only[Rep]at r ⊢
   obtain⟨a,xs,e,ha,rl⟩:=r
   exact⟨a,xs,e,h.2 a xs ha,aH.mono h rl⟩
theorem aH.mono{H H':Hp}(h:uF H H'):∀{ds:List D} {xs:List V},aH H xs ds->aH H' xs ds
 | [],_,r=>by simpa only[aH] using r
 | d::ds,_,r=>by
   simp only[aH]at r ⊢
   obtain⟨v,q,e,rv,rl⟩:=r
   exact⟨v,q,e,Rep.mono h rv,aH.mono h rl⟩
end
mutual
theorem Rep.aX{H H':Hp}(h:b8 H H'):∀{d:D} {v:V},d.flat->Rep H v d->Rep H' v d
 | .n,_,_,r=>by simpa only[Rep] using r
 | .i _,_,_,r=>by simpa only[Rep] using r
 | .s _,_,_,r=>by simpa only[Rep] using r
 | .t ds,_,f,r=>by
   simp only[Rep]at r ⊢
   simp only[D.flat]at f
   obtain⟨a,xs,e,ha,rl⟩:=r
   exact⟨a,xs,e,h a xs ha,aH.aX h f rl⟩
 | .l ds,_,f,r=>by simp only[D.flat]at f
theorem aH.aX{H H':Hp}(h:b8 H H'):∀{ds:List D} {xs:List V},D.flats ds->aH H xs ds->aH H' xs ds
 | [],_,_,r=>by simpa only[aH] using r
 | d::ds,_,f,r=>by
   simp only[aH]at r ⊢
   simp only[D.flats]at f
   obtain⟨v,q,e,rv,rl⟩:=r
   exact⟨v,q,e,Rep.aX h f.1 rv,aH.aX h f.2 rl⟩
end
theorem aH.length{H:Hp}:∀{ds:List D} {xs:List V},aH H xs ds->xs.length=ds.length
 | [],_,r=>by simp only[aH]at r;subst r;rfl
 | d::ds,_,r=>by
   simp only[aH]at r
   obtain⟨v,q,rfl,_,rl⟩:=r
   rw[List.length_cons,List.length_cons,aH.length rl]
theorem aH.append{H:Hp}:∀{ds es:List D} {xs ys:List V},aH H xs ds->aH H ys es->aH H (xs++ys) (ds++es)
 | [],_,_,_,r,q=>by simp only[aH]at r;subst r;exact q
 | d::ds,es,_,ys,r,q=>by
   simp only[aH]at r
   obtain⟨v,x,rfl,rv,rl⟩:=r
   show aH H (v::(x++ys)) (d::(ds++es))
   simp only[aH]
   exact⟨v,_,rfl,rv,aH.append rl q⟩
theorem aH.snoc{H:Hp}{ds:List D}{xs:List V}{v:V}{d:D}(r:aH H xs ds)(q:Rep H v d):aH H (xs++[v]) (ds++[d]) :=
 r.append (by simp only[aH];exact⟨v,[],rfl,q,rfl⟩)
theorem aH.last{H:Hp}:∀{ds:List D} {xs:List V} {d:D},aH H xs (ds++[d])->∃ys v,xs=ys++[v]/\aH H ys ds/\Rep H v d
 | [],_,d,r=>by
   simp only[List.nil_append,aH]at r
   obtain⟨v,q,rfl,rv,rfl⟩:=r
   exact⟨[],v,rfl,by simp only[aH],rv⟩
 | e::ds,_,d,r=>by
   rw[List.cons_append,aH]at r
   obtain⟨v,q,rfl,rv,rl⟩:=r
   obtain⟨ys,w,rfl,r1,r2⟩:=aH.last rl
   exact⟨v::ys,w,rfl,by rw[aH];exact⟨v,ys,rfl,rv,r1⟩,r2⟩
theorem D.jh:∀(a b:List D),D.sizes (a++b)=D.sizes a+D.sizes b
 | [],b=>by simp[D.sizes]
 | d::a,b=>by rw[List.cons_append,D.sizes,D.sizes,D.jh a b];lia
theorem D.size_pos:∀d:D,0<d.size
 | .n=>by simp[D.size]
 | .i _=>by simp[D.size]
 | .s _=>by simp[D.size]
 | .t _=>by rw[D.size];lia
 | .l _=>by rw[D.size];lia
theorem D.dW:∀ds:List D,ds.length<=D.sizes ds
 | []=>Nat.zero_le _
 | d::ds=>by
   rw[D.sizes,List.length_cons]
   have:=D.size_pos d
   have:=D.dW ds
   lia
end L2
namespace L2
open PySem PySem.Spec PyProof.Rows
theorem fO.here{P:Program}{w:World}{H:Hp}{h:Heap}{a:Addr}{o:HO}(x:fO P w H h a o):∃ob,h.get? a=some ob:=by
 cases o with
 | lst xs=>obtain⟨_,_,_,_,e⟩:=x;exact⟨_,e⟩
 | tup xs=>obtain⟨_,_,_,ob,e,_⟩:=x;exact⟨_,e⟩
 | dK kvs=>obtain⟨_,_,_,_,o,_,_,e,_⟩:=x;exact⟨_,e⟩
 | dT kvs=>obtain⟨_,_,_,_,o,_,_,e,_⟩:=x;exact⟨_,e⟩
 | set S n=>obtain⟨o,_,_,_,e,_⟩:=x;exact⟨_,e⟩
 | ins C dx fs=>obtain⟨_,_,_,e,_⟩:=x;exact⟨_,e⟩
 | own y=>exact x
 | xd fs=>obtain⟨_,⟨_,_,_,e,_⟩,_⟩:=x;exact⟨_,e⟩
 | rng lo hi=>obtain⟨_,_,_,e⟩:=x;exact⟨_,e⟩
 | frz ob u=>obtain⟨e,_⟩:=x;exact⟨_,e⟩
 | tbl ps=>exact⟨_,(show h.get? a=some _ from x)⟩
 | met f y=>exact⟨_,(show h.get? a=some _ from x)⟩
 | ext φ=>obtain⟨_,e,_⟩:=x;exact e
structure Fly(P:Program)(w:World)(B:Heap)(a0:Value)(l:List Env)(H:Hp)(s:Shared)(C:Value)(e:Addr)(H':Hp)(s':Shared):Prop where
 os:s'.os=s.os
 bare:AllBare s'.gens
 fresh:H' e=none
 fly:Heap.FlyingW B l e C a0 s'.heap
 slots:∀b∈frs l,∀o,s.heap.get? b=some o->∃sl,s'.heap.get? b=some {o with slots:=sl}
 kin:∀b o,s.heap.get? b=some o->H b=none->b∉frs l->B.get? b=some o
 trk:∀b u,H' b=some u->∃o,s'.heap.get? b=some o/\B.get? b=some o
 all:∀b o,s.heap.get? b=some o->b∉frs l->∃o',B.get? b=some o'
 free:∀b o,s.heap.get? b=some o->H b=none->H' b=none
 tups:∀b xs,H b=some (.tup xs)->H' b=some (.tup xs)
 IK:∀b o u,H b=some (.frz o u)->H' b=some (.frz o u)
 Kr:∀b ps,H b=some (.tbl ps)->∃more,H' b=some (.tbl (ps++more))
 hok:Hd P w H' s'.heap
section
variable{P:Program}{w:World}{B:Heap}{a0:Value}{l:List Env}{H H':Hp}{s s':Shared}{C:Value}{e:Addr}{h':Heap}
theorem Fly.un(F:Fly P w B a0 l H s C e H' s'):Un (frs l) [] H H' s.heap s'.heap :=
 ⟨fun b o q n hb _=>F.fly.1 b o (F.kin b o q n hb),fun b o q _ hb _=>F.slots b hb o q,fun b o q n _=>F.free b o q n,
  fun b o q _=>by
   by_cases hb:b∈frs l
   ·obtain⟨sl,z⟩:=F.slots b hb o q
    exact⟨_,z⟩
   ·obtain⟨o',z⟩:=F.all b o q hb
    exact⟨o',F.fly.1 b o' z⟩,F.tups,F.IK,F.Kr⟩
theorem aft(hok:Hd P w H' s'.heap)(k:∀b u,H' b=some u->∀o,s'.heap.get? b=some o->h'.get? b=some o):Hd P w H' h':=fun a u q =>
 (hok a u q).stay (fun b v hb z=>by
   rcases hb with rfl | hb
   ·exact k b u q v z
   ·exact k b _ hb v z) (fun _ z=>z) fun _ _ z=>z
theorem Fly.move(F:Fly P w B a0 l H s C e H' s')(fl:Heap.FlyingW B l e C a0 h')(up:s'.heap.UpToSlots h'):Fly P w B a0 l H s C e H' {s' with heap:=h'}:=by
 refine⟨F.os,F.bare,F.fresh,fl,fun b hb o q=>?_,F.kin,fun b u q=>?_,F.all,F.free,F.tups,F.IK,F.Kr,aft F.hok fun b u q o z=>?_⟩
 ·obtain⟨sl,z⟩:=F.slots b hb o q
  obtain⟨_,o2,z2,nf⟩:=F.fly.2.2.1.mem hb
  rw[z]at z2
  cases z2
  obtain⟨sl2,z3⟩:=up b _ z nf
  exact⟨sl2,z3⟩
 ·obtain⟨o,z1,z2⟩:=F.trk b u q
  exact⟨o,fl.1 b o z2,z2⟩
 ·obtain⟨o',z1,z2⟩:=F.trk b u q
  rw[z]at z1
  cases z1
  exact fl.1 b o z2
end
section
variable{X:Cx}{pins:List (Addr×Obj)}{σ:St}{H H':Hp}{s s':Shared}{B:Heap}{a0 C:Value}{e:Addr}{h' h1:Heap}
theorem Inv.fly(I:Inv X pins σ H s)(F:Fly X.prog X.w B a0 X.stack H s C e H' s'):Inv X pins σ H' s' :=
 I.call' (ch:=[]) F.os F.un F.hok F.bare (fun b z=>absurd z (by simp))
structure Aq(X:Cx):Prop where
 st:X.stack=X.env::X.outer
 fr:X.env.frame=some X.env.locals
 ex:X.ex=[]
theorem Aq.frs(O:Aq X):L2.frs X.stack=X.env.locals::X.fs:=by
 rw[O.st]
 show List.filterMap _ (_::_)=_
 rw[List.filterMap_cons,O.fr]
 rfl
theorem Aq.out(O:Aq X)(I:Inv X pins σ H s){b:Addr}{o:Obj}(q:X.s₀.heap.get? b=some o)(hb:b∉L2.frs X.outer):b∉L2.frs X.stack:=fun z=>by
 rw[O.frs]at z
 rcases List.mem_cons.mp z with z | z
 ·exact absurd (Nat.lt_of_lt_of_le (Heap.lt_size q) I.ok.above) (by rw[z];exact Nat.lt_irrefl _)
 ·exact hb z
theorem Aq.nex(O:Aq X)(b:Addr):b∉X.ex:=by rw[O.ex];simp
theorem Fly.out(O:Aq X)(I:Inv X pins σ H s)(F:Fly X.prog X.w B a0 X.stack H s C e H' s')(fl:Heap.FlyingW B X.outer e C a0 h')(up:s'.heap.UpToSlots h') :
 Fly X.prog X.w B a0 X.outer X.H₀ X.s₀ C e H' {s' with heap:=h'}:=by
 have sub:∀b∈L2.frs X.outer,b∈L2.frs X.stack:=fun b hb=>by rw[O.frs];exact List.mem_cons_of_mem _ hb
 refine⟨F.os.trans I.os,F.bare,F.fresh,fl,fun b hb o q=>?_,fun b o q n hb=>?_,fun b u q=>?_,fun b o q hb=>?_,fun b o q n=>?_,fun b xs q=>F.tups b xs (I.base.tups b xs q),fun b o u q=>F.IK b o u (I.base.IK b o u q),fun b ps q=>?_,
  aft F.hok fun b u q o z=>?_⟩
 ·obtain⟨sl,z⟩:=I.base.slot b o q (I.ok.frf b hb) hb (O.nex b)
  obtain⟨sl1,z1⟩:=F.slots b (sub b hb) _ z
  obtain⟨_,o2,z2,nf⟩:=F.fly.2.2.1.mem (sub b hb)
  rw[z1]at z2
  cases z2
  obtain⟨sl2,z3⟩:=up b _ z1 nf
  exact⟨sl2,z3⟩
 ·exact F.kin b o (I.base.keep b o q n hb (O.nex b)) (I.base.free b o q n (O.nex b)) (O.out I q hb)
 ·obtain⟨o,z1,z2⟩:=F.trk b u q
  exact⟨o,fl.1 b o z2,z2⟩
 ·obtain⟨o',z⟩:=I.base.there b o q (O.nex b)
  exact F.all b o' z (O.out I q hb)
 ·obtain⟨o',z⟩:=I.base.there b o q (O.nex b)
  exact F.free b o' z (I.base.free b o q n (O.nex b))
 ·obtain⟨m1,z1⟩:=I.base.Kr b ps q
  obtain⟨m2,z2⟩:=F.Kr b _ z1
  exact⟨m1++m2,by rw[z2,Array.append_assoc]⟩
 ·obtain⟨o',z1,z2⟩:=F.trk b u q
  rw[z]at z1
  cases z1
  exact fl.1 b o z2
theorem Inv.raised{vs:List Value}{A:Around}{E':Value->Shared->Prop}{M:Model}(I:Inv X pins σ H s)(O:Aq X)(hx:Heap.MadeExcOf s.heap h1 e C vs)(hfr:A.frames=some (X.env::X.outer)) :
 wpAny M A (leaving X.env (.ref e)) (fun _ s''=>∃B a0,Fly X.prog X.w B a0 X.outer X.H₀ X.s₀ C e H s'') E' {s with heap:=h1}:=by
 have frs':s.heap.FunFrames (PySem.W.hideAll s.heap (L2.frs X.stack)) (X.env::X.outer):=by
  have q:=PySem.W.funFrames_hide (as:=L2.frs X.stack) I.stack fun env he b hb=>List.mem_filterMap.mpr ⟨env,he,hb⟩
  rw[O.st]at q ⊢
  exact q
 have sub:∀b∈L2.frs X.outer,b∈L2.frs X.stack:=fun b hb=>by rw[O.frs];exact List.mem_cons_of_mem _ hb
 refine wpAny_leaves_madeW (s:={s with heap:=h1}) (base:=PySem.W.hideAll s.heap (L2.frs X.stack)) (h:=s.heap) hfr O.fr (fun b o q=>PySem.W.of_hideAll _ q) frs' hx fun h' t fl _ _ up=>⟨PySem.W.hideAll s.heap (L2.frs X.stack),.ref t,?_⟩
 have inB:∀b u,H b=some u->∃o,s.heap.get? b=some o/\(PySem.W.hideAll s.heap (L2.frs X.stack)).get? b=some o:=fun b u q=>by
  obtain⟨o,z⟩:=(I.hok b u q).here
  exact⟨o,z,PySem.W.hideAll_get _ z fun hb=>by rw[I.ab9 b hb]at q;cases q⟩
 refine⟨I.os,I.bare,?_,fl,fun b hb o q=>?_,fun b o q n hb=>?_,fun b u q=>?_,fun b o q hb=>?_,fun b o q n=>?_,fun b xs q=>I.base.tups b xs q,fun b o u q=>I.base.IK b o u q,fun b ps q=>I.base.Kr b ps q,?_⟩
 ·cases q:H e with
  | none=>rfl
  | some u =>
    obtain⟨o,z⟩:=(I.hok e u q).here
    rw[hx.new]at z
    cases z
 ·obtain⟨sl,z⟩:=I.base.slot b o q (I.ok.frf b hb) hb (O.nex b)
  obtain⟨_,o2,z2,nf⟩:=I.stack.mem (sub b hb)
  rw[z]at z2
  cases z2
  obtain⟨sl2,z3⟩:=up b _ (hx.keeps b _ z) nf
  exact⟨sl2,z3⟩
 ·exact PySem.W.hideAll_get _ (I.base.keep b o q n hb (O.nex b)) (O.out I q hb)
 ·obtain⟨o,z1,z2⟩:=inB b u q
  exact⟨o,fl.1 b o z2,z2⟩
 ·obtain⟨o',z⟩:=I.base.there b o q (O.nex b)
  exact⟨o',PySem.W.hideAll_get _ z (O.out I q hb)⟩
 ·obtain⟨o',z⟩:=I.base.there b o q (O.nex b)
  exact I.base.free b o q n (O.nex b)
 ·exact fun a u q=>(I.hok a u q).stay (fun b v hb z=>by
   have k:∀u',H b=some u'->h'.get? b=some v:=fun u' q'=>by
    obtain⟨o,z1,z2⟩:=inB b u' q'
    rw[z]at z1
    cases z1
    exact fl.1 b v z2
   rcases hb with rfl | hb
   ·exact k u q
   ·exact k _ hb) (fun _ z=>z) fun _ _ z=>z
end
def CX1(P:Program)(w:World):CXT:=fun l H s E e s'=>∃B a0 C ea H',e=Value.ref ea/\Fly P w B a0 l H s C ea H' s'/\E C none H'
section
variable{P:Program}{w:World}{K:PySem.W.Frag}{mg:Str->Option Value}{base:Heap}{N:List Str}{qual:Str}{scope:Scope}{f:Addr}{cd:Value}{A:Around}{outer:List Env}{s:Shared}{H:Hp}{E:XK}
theorem ap6:Aq (dw (CX1 P w) P w K mg base N qual scope f cd A outer s H E):=⟨rfl,rfl,rfl⟩
theorem Ar:Passes (CX1 P w) (dw (CX1 P w) P w K mg base N qual scope f cd A outer s H E) E:=by
 intro pins σ H1 s1 e s' I h
 obtain⟨B,a0,C,ea,H',rfl,F,hE⟩:=h
 have fl:Heap.FlyingW B (envOfC qual scope s.heap.objs.size f cd::outer) ea C a0 s'.heap:=F.fly
 refine wpAny_leaves_onW (L:=s.heap.objs.size) I.ok.frames rfl fl fun h' fl' up=>?_
 exact⟨B,a0,C,ea,H',rfl,Fly.out ap6 I F fl' up,hE⟩
def Raises(X:Cx)(E:XK):Prop:=∀(pins:List (Addr×Obj)) (σ:St) (H:Hp) (s:Shared) (h':Heap) (e C:Addr) (vs:List Value),Inv X pins σ H s->Heap.MadeExcOf s.heap h' e (.ref C) vs->E (.ref C) none H->X.xe (.ref e) {s with heap:=h'}
theorem KN:Raises (dw (CX1 P w) P w K mg base N qual scope f cd A outer s H E) E:=by
 intro pins σ H1 s1 h' e C vs I hx hE
 refine gf (I.raised ap6 hx I.ok.frames) fun _ s2 h2=>?_
 obtain⟨B,a0,F⟩:=h2
 exact⟨B,a0,_,e,_,rfl,F,hE⟩
end
structure Exc(K:PySem.W.Frag)(C:Addr)(bm:List Value):Prop where
 obj:∀h:Heap,K.In h->∃N nm q bs hdct sn sub ab col dd k0 k1 k2 k3 k5 mN,h.get? C=some (excClassObj nm q C N bs bm hdct sn sub ab col dd k0 k1 k2 k3 k5 "ValueError.__new__")/\h.Ns N mN/\mN "__init__"=none/\
  OwnTail h [.type "ValueError",.type "Exception",.type "BaseException",.type "object"] bm
def mroIn(K:PySem.W.Frag)(C:Addr):Option (List Value):=match K.lookup C with
 | some ⟨_,_,.cls cd,_⟩=>some cd.mro
 | _=>none
theorem PB{K:PySem.W.Frag}{C:Addr}{bm:List Value}(q:PySem.W.excIn K C [.type "ValueError",.type "Exception",.type "BaseException",.type "object"] "ValueError.__new__"=true) (m:mroIn K C=some (.ref C::bm)):Exc K C bm:=by
 refine⟨fun h X=>?_⟩
 unfold PySem.W.excIn at q
 unfold mroIn at m
 split at q
 ·rename_i dd cd sl ho
  rw[ho]at m
  split at q
  ·rename_i C' bm' k0 k1 k2 k3 n k5 hm hs
   simp only[Bool.and_eq_true,beq_iff_eq,Bool.not_eq_true']at q
   obtain⟨⟨⟨⟨⟨rfl,rfl⟩,hdel⟩,ht⟩,hok⟩,hni⟩:=q
   obtain⟨nm,bs,mro,ns,qn,hd,sn,sub,ab,col,del⟩:=cd
   dsimp only at hm hdel hok hni m
   subst hm hdel
   have e:bm'=bm:=by
    injection m with m
    injection m with m1 m2
   subst e
   have hsl:sl = #[k0,k1,k2,k3,some (.builtin "ValueError.__new__"),k5]:=by
    obtain⟨l⟩:=sl
    simp only at hs
    rw[hs]
   subst hsl
   exact⟨ns,nm,qn,bs,hd,sn,sub,ab,col,dd,k0,k1,k2,k3,k5,_,X _ _ ho,.of_isNs (PySem.W.isNs_of_in X hok),PySem.W.nsMap_none_of_in X hok hni,PySem.W.tail_of_in X ht⟩
  ·cases q
 ·cases q
theorem Exc.base{K:PySem.W.Frag}{C:Addr}{bm:List Value}(O:Exc K C bm){h:Heap}(X:K.In h):bm.contains (.type "BaseException")=true:=by
 obtain⟨_,_,_,_,_,_,_,_,_,_,_,_,_,_,_,_,_,_,_,T⟩:=O.obj h X
 exact T.hasType (by decide +kernel)
def aq5(C:Value)(E:XK)(t:TA):TS:=fun _ σ H=>t σ H fun vs H1=>vs.length<=sizeLine/\E C none H1
section
variable{X:Cx}{C:Addr}{bm:List Value}{x:Str}{np cpos pos:Pos}{e₀:Expr}{rest:List Expr}{t:TA}{E:XK}
theorem DK(O:Exc X.K C bm)(hg:Gl X x)(hm:X.mg x=some (.ref C))(hc:X.calm=true)(hr:Raises X E)(ha:PA X (e₀::rest) t)
 (he:starEach (e₀::rest) X.env=(false,eval e₀ X.env)::starEach rest X.env:=by rfl) (hpl:(backTo cpos (starEach rest X.env)).any (·.1)=false:=by rfl) (hdb:(x == ("__debug__":Str))=false:=by decide) :
 PS X (.Raise (some (.Call (.Name x np) (e₀::rest) [] cpos)) none pos) (aq5 (.ref C) E t):=by
 intro pins s σ H D I h
 obtain⟨N,nm,q,bs,hdct,sn,sub,ab,col,dd,k0,k1,k2,k3,k5,mN,hC,hN,hni,T⟩:=O.obj _ I.ok.mod.kin
 have FB:=PySem.F.excBase_ValueError
 refine wpAny_Raise_call_subU (C:=C) (nm:=nm) (q:=q) (N:=N) (bs:=bs) (bm:=bm) (hdct:=hdct) (sn:=sn) (sub:=sub) (ab:=ab) (col:=col) (dd:=dd) (k0:=k0) (k1:=k1) (k2:=k2) (k3:=k3) (k5:=k5)
  FB (by decide +kernel) FB (mN:=mN) (T.hasType FB.hasBase) (I.ok.hd hc) (by rw[he];show(false || (backTo cpos (starEach rest X.env)).any (·.1))=false;rw[hpl];rfl) hni (yG I hg hm ⟨rfl,?_⟩ hdb)
 have q1:=ha cpos pins s σ H _ I h
 rw[he]at q1 ⊢
 refine Calls.evalArgs_plain (gf q1 fun us s2 h2=>?_)
 obtain⟨vs,H2,I2,rv,hz,hE⟩:=h2
 exact⟨rfl,by rw[<-rv.length];exact hz,I2.bk _ _ hC,hN.keeps I2.bk,T.keeps I2.bk,fun h' e hx=>hr pins σ H2 s2 h' e C us I2 hx hE⟩
end
end L2
namespace L2
open PySem PySem.Spec PyProof.Rows
section
variable{M:Model}{A:Around}{E:Value->Shared->Prop}
theorem Wn{s:Shared}{C C':Addr}{bm bm':List Value}{K:PySem.W.Frag}(X:K.In s.heap)(O:Exc K C bm)(O':Exc K C' bm'){e:Addr}{oe:Obj}{Q:Bool->Shared->Prop}(he:s.heap.get? e=some oe)(hcls:oe.cls=.ref C)
 (hq:Q ((Value.ref C::bm).contains (.ref C')) s):wpAny M A (excMatches (.ref e) (.ref C')) Q E s:=by
 have hb:=O'.base X
 obtain⟨N,nm,q,bs,hdct,sn,sub,ab,col,dd,k0,k1,k2,k3,k5,mN,hC,_⟩:=O.obj _ X
 obtain⟨N',nm',q',bs',azx,sn',aAP,ab',aAQ,dd',k0',k1',k2',k3',k5',mN',hC',_⟩:=O'.obj _ X
 obtain⟨h,g,d,t,os⟩:=s
 dsimp only at he hC hC'
 have hcB:(Value.ref C'::bm').contains (.type "BaseException")=true:=by rw[List.contains_cons,hb,Bool.or_true]
 have f:=tc_notTuple
 generalize hcc:(Value.ref C::bm).contains (.ref C')=b at hq
 unfold excMatches
 repeat (first | (with_reducible refine wpAny_loadPart_at he ?_;rw[hcls]) | with_reducible refine wpAny_loadPart_at hC' ?_ | (with_reducible refine wpAny_isSubtype_exc hC' ?_;rw[hcB]) | (with_reducible refine wpAny_isSubtype_exc hC ?_;rw[hcc]) | wp_step)
 cases b<;>(wp_walk;exact hq)
end
def ZJ(X:Cx)(pl:List (Addr×Obj))(R:St->Value->Hp->Prop):Cx :=
 ({X with pn:=X.pn++pl}:Cx).wish fun e s'=>∃pins σ H s,Inv ({X with pn:=X.pn++pl}:Cx) pins σ H s/\CX1 X.prog X.w X.stack H s (fun C _ H'=>R σ C H') e s'
def afu(X:Cx)(e:Addr):Cx:={X with A:=X.A.mark (some (.ref e)),calm:=false,xe:=fun _ _=>False}
section
variable{X:Cx}{pins pl:List (Addr×Obj)}{σ:St}{H H':Hp}{s s':Shared}{R:St->Value->Hp->Prop}{e:Addr}{D:Ends}{f:Flow}
theorem Inv.axW(I:Inv X pl σ H s):Inv ({X with pn:=X.pn++pl}:Cx) [] σ H s :=
 ⟨⟨I.ok.mod,I.ok.kind,I.ok.glob,I.ok.blt,I.ok.above,I.ok.inj,I.ok.has,I.ok.cab,I.ok.hd,I.ok.frames,I.ok.stk,I.ok.exf,I.ok.bs,I.ok.bsz,I.ok.afa,I.ok.ahp,I.ok.IV,I.ok.frf⟩,I.os,I.bare,I.base,I.loc,I.cell,I.free,I.uC,
  fun p hp=>I.pin p (by rw[List.append_nil]at hp;exact hp),I.hok,I.len⟩
theorem Inv.auN(I:Inv ({X with pn:=X.pn++pl}:Cx) pins σ H s):Inv X pl σ H s :=
 ⟨⟨I.ok.mod,I.ok.kind,I.ok.glob,I.ok.blt,I.ok.above,I.ok.inj,I.ok.has,I.ok.cab,I.ok.hd,I.ok.frames,I.ok.stk,I.ok.exf,I.ok.bs,I.ok.bsz,I.ok.afa,I.ok.ahp,I.ok.IV,I.ok.frf⟩,I.os,I.bare,I.base,I.loc,I.cell,I.free,I.uC,
  fun p hp=>I.pin p (List.mem_append_left _ hp),I.hok,I.len⟩
theorem Inv.auO(I:Inv X pl σ H s):Inv (ZJ X pl R) [] σ H s:=I.axW.wish _
theorem Inv.KQ(I:Inv (ZJ X pl R) pins σ H s):Inv X pl σ H s:=(Inv.vM I).auN
theorem SP.KQ(h:SP (ZJ X pl R) pins D f s'):SP X pl D f s':=by
 cases f with
 | next=>obtain⟨σ',H',I,q⟩:=h;exact⟨σ',H',I.KQ,q⟩
 | brk=>obtain⟨σ',H',I,q⟩:=h;exact⟨σ',H',I.KQ,q⟩
 | cont=>obtain⟨σ',H',I,q⟩:=h;exact⟨σ',H',I.KQ,q⟩
 | ret u=>obtain⟨v,σ',H',I,r,q⟩:=h;exact⟨v,σ',H',I.KQ,r,q⟩
theorem Inv.afu(I:Inv X pins σ H s)(e:Addr):Inv (L2.afu X e) pins σ H s :=
 ⟨⟨I.ok.mod,I.ok.kind,I.ok.glob,I.ok.blt,I.ok.above,I.ok.inj,I.ok.has,I.ok.cab,fun z=>(nomatch (show false=true from z)),I.ok.frames,I.ok.stk,I.ok.exf,I.ok.bs,I.ok.bsz,I.ok.afa,I.ok.ahp,I.ok.IV,I.ok.frf⟩,I.os,I.bare,I.base,I.loc,I.cell,I.free,I.uC,
  I.pin,I.hok,I.len⟩
theorem Inv.PJ{X:Cx}(ok:X.Ok)(I:Inv (L2.afu X e) pins σ H s):Inv X pins σ H s :=
 ⟨ok,I.os,I.bare,I.base,I.loc,I.cell,I.free,I.uC,I.pin,I.hok,I.len⟩
theorem SP.PJ(ok:X.Ok)(h:SP (afu X e) pins D f s'):SP X pins D f s':=by
 cases f with
 | next=>obtain⟨σ',H',I,q⟩:=h;exact⟨σ',H',I.PJ ok,q⟩
 | brk=>obtain⟨σ',H',I,q⟩:=h;exact⟨σ',H',I.PJ ok,q⟩
 | cont=>obtain⟨σ',H',I,q⟩:=h;exact⟨σ',H',I.PJ ok,q⟩
 | ret u=>obtain⟨v,σ',H',I,r,q⟩:=h;exact⟨v,σ',H',I.PJ ok,r,q⟩
end
def PH(X:Cx)(hs:List ExceptHandler)(th:Value->TS):Prop :=
 ∀(pins:List (Addr×Obj)) (σ:St) (H:Hp) (s:Shared) (B:Heap) (a0 C:Value) (e:Addr) (H':Hp) (s':Shared) (D:Ends),Inv X pins σ H s->Fly X.prog X.w B a0 X.stack H s C e H' s'->th C D σ H'->
  wpAny (model X.prog X.w) X.A (handleBy (.ref e) X.env hs) (SP X pins D) X.xe s'
def axX(tb:(St->Value->Hp->Prop)->TS)(th:Value->TS):TS:=fun D σ H=>tb (fun σ' C H'=>th C D σ' H') D σ H
def auP(K:PySem.W.Frag)(C':Addr)(ts:TS)(tr:Value->TS):Value->TS:=fun C D σ H=>∃c bm,C=Value.ref c/\Exc K c bm/\if(Value.ref c::bm).contains (.ref C')=true then ts D σ H else tr C D σ H
section
variable{X:Cx}{body suite:List Stmt}{b₀:Stmt}{h₀:ExceptHandler}{hs rest:List ExceptHandler}{tb:(St->Value->Hp->Prop)->TS}{th tr:Value->TS}{ts:TS}{pos np:Pos}{x n:Str}{C':Addr}{bm':List Value}
theorem aq6:PH X [] (fun _=>aqJ):=fun _ _ _ _ _ _ _ _ _ _ _ _ _ h=>h.elim
theorem aq7(O:Aq X)(hb:∀pl R,PSs (ZJ X pl R) body (tb R))(hh:PH X (h₀::hs) th):PS X (.Try body (h₀::hs) [] [] pos) (axX tb th):=by
 intro pins s σ H D I h
 refine wpAny_Try_except (wpAny_mono (hb pins _ [] s σ H D I.auO h) (fun f s1 h1=>?_) fun e s1 h1=>?_)
 ·cases f with
  | next=>exact wpAny_execs_nil (SP.KQ h1)
  | brk=>exact SP.KQ h1
  | cont=>exact SP.KQ h1
  | ret u=>exact SP.KQ h1
 ·obtain⟨akW,σ',H1,s2,I2,B,a0,C,ea,H',rfl,F,q⟩:=h1
  have I2':Inv X pins σ' H1 s2:=I2.auN
  have fr:X.A.frames=some (X.env::X.outer):=by rw[<-O.st];exact I2'.ok.frames
  have fl:Heap.FlyingW B (X.env::X.outer) ea C a0 s1.heap:=by rw[<-O.st];exact F.fly
  refine wpAny_looks_onW (L:=X.env.locals) fr O.fr fl fun h2 held up2=>?_
  refine wpAny_landsW held fun h3 fl3 up3=>?_
  have F3:Fly X.prog X.w B a0 X.stack H1 s2 C ea H' {s1 with heap:=h3}:=F.move (by rw[O.st];exact fl3) (up2.trans up3)
  exact hh pins σ' H1 s2 B a0 C ea H' _ D I2' F3 q
theorem Wo(O:Aq X)(hg:Gl X x)(hm:X.mg x=some (.ref C'))(O':Exc X.K C' bm')(hsu:∀e,PSs (afu X e) (b₀::suite) ts)(hr:PH X rest tr)(hdb:(x == ("__debug__":Str))=false:=by decide) :
 PH X (.ExceptHandler (some (.Name x np)) none (b₀::suite) pos::rest) (auP X.K C' ts tr):=by
 intro pins σ H s B a0 C e H' s' D I F h
 obtain⟨c,bm,rfl,Oc,q⟩:=h
 have I':=I.fly F
 obtain⟨ob,hob,hcls⟩:=F.fly.there
 refine wpAny_handleBy_cons (codeAny_handlers_test (yG (X:=afu X e) (I'.afu e) hg hm ?_ hdb)) (by intro z;cases z)
 refine Wn I'.wR Oc O' hob hcls ?_
 cases hb:(Value.ref c::bm).contains (.ref C')with
 | false =>
   rw[hb,if_neg Bool.false_ne_true]at q
   exact hr pins σ H s B a0 _ e H' s' D I F q
 | true =>
   rw[hb,if_pos rfl]at q
   refine codeAny_handlers_suite ?_
   refine lands_againW F.fly fun h3 fl3 up3=>?_
   have I3:=I.fly (F.move fl3 up3)
   refine wpAny_mono (hsu e pins _ σ H' D (I3.afu e) q) (fun f s4 h4=>?_) fun _ _ z=>z.elim
   exact SP.PJ I.ok h4
end
def aq8(C:Addr)(m:Str)(sp:Sp)(R:St->Value->Hp->Prop)(ta:TE)(t:TA):TE:=fun σ H Q=>ta σ H fun x H1=>∃a dx fs,x=.ref a/\H1 a=some (.ins C dx fs)/\fs.lookup m=none/\
 t σ H1 fun vs H2=>sp (x::vs) H2 Q fun C _ H'=>R σ C H'
section
variable{X:Cx}{pl:List (Addr×Obj)}{R:St->Value->Hp->Prop}{k:Nat}{f C:Addr}{fd:FuncData}{ps:List Str}{sp:Sp}{x m:Str}{p pos apos:Pos}{e o:Expr}{es:List Expr}{ta:TE}{t:TA}
theorem anG{pins:List (Addr×Obj)}{σ:St}{H:Hp}{s:Shared}{Q:VK}{us:List Value}{vs:List V}(F:c7 X.prog X.w X.K X.mg X.base (CX1 X.prog X.w) k f fd ps sp)(hr:bQ k X.A)(hb:Binds X.K fd ps [])
 (I:Inv (ZJ X pl R) pins σ H s) (r:Vals vs us) (h:sp vs H Q fun C _ H'=>R σ C H'):wpAny (model X.prog X.w) X.A (call (.ref f) us) (EP (ZJ X pl R) pins σ Q) (ZJ X pl R).xe s:=by
 have hl:us.length=ps.length:=by rw[<-r.length];exact F.len _ _ _ _ h
 have hb':=hb s us I.wR (by rw[List.append_nil];exact hl)
 rw[List.append_nil]at hb'
 refine wpAny_call (codeAny_mono (F.run X.A X.stack s H ⟨us,[]⟩ us vs Q _ hr I.env0 hb' r h) fun r s' hq=>?_)
 cases r with
 | error e=>exact⟨pins,σ,H,s,I.vM,hq⟩
 | ok fl =>
   cases fl with
   | ret u=>exact I.after hq
   | next=>exact False.elim hq
   | brk=>exact False.elim hq
   | cont=>exact False.elim hq
theorem alj{pl':Sem Bool}(he:PE (ZJ X pl R) o ta)(c:Cls X.K C)(hm:Meth X.K C m f)(F:c7 X.prog X.w X.K X.mg X.base (CX1 X.prog X.w) k f fd ps sp)(hr:bQ k X.A)(hb:Binds X.K fd ps [])(ha:PA (ZJ X pl R) (e::es) t)
 (hst:starEach (e::es) X.env=(false,eval e X.env)::starEach es X.env:=by rfl) (hpl:(backTo pos (starEach es X.env)).any (·.1)=false:=by rfl)
 (ht:eval (.Call (.Attribute o m apos) (e::es) [] pos) X.env=(do
   let ov <-eval o X.env
   standAt apos.atName
   let (f,first) <-holding [ov] (getMethod ov m pl')
   callWith pos f first (backTo pos (starEach (e::es) X.env)) (backToKw pos (keywordEach [] X.env))):=by rfl) :
 PE (ZJ X pl R) (.Call (.Attribute o m apos) (e::es) [] pos) (aq8 C m sp R ta t):=by
 intro pins s σ H Q I h
 refine PySem.W.methodCall_KW (pl:=pl') (gf (he pins s σ H _ I h) fun u s1 hz=>kE hz fun x H1 I1 rx ⟨a,dx,fs,ex,ea,l,q⟩=>?_) ht
 subst ex
 obtain rfl:u=Value.ref a:=rx
 refine Jc I1 ea c hm l ?_
 refine PySem.W.callWith_K (first:=[.ref a]) (h₀:=X.base) I.ok.mod.kin hm.kp (gf (ha pos pins s1 σ H1 _ I1 q) fun us s2 hz=>kE hz fun vs H2 I2 r q2=>⟨I2.wR,?_⟩) hst hpl
 exact anG (us:=.ref a::us) (vs:=.ref a::vs) F hr hb I2 (.cons rfl r) q2
end
section
variable{P:Program}{w:World}{K:PySem.W.Frag}{mg:Str->Option Value}{base:Heap}
theorem jN.okX{x qual:Str}{st:Stmt}{f:Addr}{fd:FuncData}{N ps:List Str}{k:Nat}{sp:Sp}(F:jN K x qual st f fd)(S:bA N ps (aO st))(len:∀vs H Q E,sp vs H Q E->vs.length=ps.length)
 (hbody:∀(cdv:Value) (A:Around) (outer:List Env) (s:Shared) (H:Hp) (vs:List V) (Q:VK) (E:XK),bQ k (A.deeper (envOfC qual (aO st) s.heap.objs.size f cdv))->sp vs H Q E->
   ∃t,PSs (dw (CX1 P w) P w K mg base N qual (aO st) f cdv A outer s H E) (yN st) t/\t {nx:=fun _ H'=>Q .non H',rt:=Q} (start N vs) H):c7 P w K mg base (CX1 P w) (k+1) f fd ps sp:=by
 obtain⟨oc,od,kV,doc,pm,an,cdv,ct,osl,rfl,lk,hcd⟩:=F.ex
 exact ap2 lk hcd S len fun A outer s H vs Q E hr hsp=>hbody cdv A outer s H vs Q E hr hsp
theorem PK{CX:CXT}{N:List Str}{qual:Str}{scope:Scope}{f:Addr}{cd:Value}{A:Around}{outer:List Env}{s:Shared}{H:Hp}{E:XK}:Aq (dw CX P w K mg base N qual scope f cd A outer s H E).kI:=⟨rfl,rfl,rfl⟩
end
end L2
namespace L2
open PySem PySem.Spec PyProof.Rows
theorem afv{prog:Program}{w:World}{A:Around}{R:Result->Shared->Prop}{s:Shared}{elt target iter:Expr}{ifs:List Expr}{scope:Scope}{pos:Pos}{it acc:Value}{env:Env}(I:Nat->Shared->Prop)
 (turn:∀n s,I n s->wpAny (model prog w) A (pyNext it) (fun r s₁=>match r with
   | none=>R (.ok .next) s₁
   | some v=>wpAny (model prog w) A (letOwnedTupleGo target it v) (fun _ s₁'=>wpAny (model prog w) A (assign target env v) (fun _ s₂ =>
      wpAny (model prog w) A (forIn ifs true fun c r=>if r=true then do let ok <-isTrue c env (eval c env);pure (ForInStep.yield ok)else pure (ForInStep.yield r)) (fun ok s₃ =>
       if ok=true then wpAny (model prog w) A (eval elt env) (fun x s₄ =>
        wpAny (model prog w) A (call (.builtin "list.append") [acc,x]) (fun _ s₅=>∃m,m<n/\I m s₅) (fun _ _=>False) s₄) (fun _ _=>False) s₃
       else ∃m,m<n/\I m s₃) (fun _ _=>False) s₂) (fun _ _=>False) s₁') (fun _ _=>False) s₁) (fun _ _=>False) s)
 (n:Nat) (h:I n s):codeAny (model prog w) A (.compLoop (.ListComp elt [⟨target,iter,ifs,0⟩] scope pos) 0 it acc env) R s:=by
 refine codeAny_loop rfl I (fun n s hI=>?_) n h
 show wpAny _ A ((compTurn (.ListComp elt [⟨target,iter,ifs,0⟩] scope pos) 0 it acc env).onRaise (fun x=>do noteFrame x env;theTreesLotGoes x)) _ _ s
 refine wpAny_noted ?_
 rw[compTurn_list]
 refine wpAny_bind (wpAny_standAt (wpAny_bind (wpAny_mono (turn n s hI) (fun r s₁ h₁=>?_) fun _ _ h'=>h'.elim)))
 cases r with
 | none=>exact wpAny_pure h₁
 | some v =>
   refine wpAny_bind (wpAny_mono h₁ (fun _ s₁' h₁'=>?_) fun _ _ h'=>h'.elim)
   refine wpAny_bind (wpAny_mono h₁' (fun _ s₂ h₂=>wpAny_bind (wpAny_mono h₂ (fun ok s₃ h₃=>?_) fun _ _ h'=>h'.elim)) fun _ _ h'=>h'.elim)
   cases ok with
   | false=>exact wpAny_pure ⟨rfl,h₃⟩
   | true =>
     exact wpAny_bind (wpAny_bind (wpAny_mono h₃ (fun x s₄ h₄=>wpAny_bind (wpAny_mono h₄ (fun _ s₅ h₅=>wpAny_pure (wpAny_pure ⟨rfl,h₅⟩)) fun _ _ h'=>h'.elim)) fun _ _ h'=>h'.elim))
def S9(env:Env)(ys:List Str):List (Str×Addr):=ys.filterMap fun y=>(env.cells.lookup y).map fun c=>(y,c)
theorem gY{env:Env}:∀{ys:List Str} {x:Str} {c:Addr},(S9 env ys).lookup x=some c->x∈ys/\env.cells.lookup x=some c
 | [],_,_,h=>by simp[S9]at h
 | y::ys,x,c,h=>by
   unfold S9 at h
   rw[List.filterMap_cons]at h
   cases e:env.cells.lookup y with
   | none =>
     rw[e]at h
     obtain⟨h1,h2⟩:=gY (ys:=ys) (x:=x) (c:=c) h
     exact⟨List.mem_cons_of_mem _ h1,h2⟩
   | some d =>
     rw[e]at h
     change List.lookup x ((y,d)::S9 env ys)=some c at h
     rw[List.lookup_cons]at h
     cases hx:x == y with
     | true =>
       rw[hx]at h
       cases h
       have q:x=y:=by simpa using hx
       subst q
       exact⟨List.mem_cons_self,e⟩
     | false =>
       rw[hx]at h
       obtain⟨h1,h2⟩:=gY (ys:=ys) (x:=x) (c:=c) h
       exact⟨List.mem_cons_of_mem _ h1,h2⟩
theorem Wq{env:Env}:∀{ys:List Str} {x:Str} {c:Addr},x∈ys->env.cells.lookup x=some c->(S9 env ys).lookup x=some c
 | [],_,_,h,_=>by simp at h
 | y::ys,x,c,h,e=>by
   unfold S9
   rw[List.filterMap_cons]
   by_cases q:x=y
   ·subst q
    rw[e]
    show List.lookup x ((x,c)::_)=some c
    rw[List.lookup_cons]
    simp
   ·have h':x∈ys:=(List.mem_cons.mp h).resolve_left q
    have ih:=Wq (env:=env) h' e
    cases e':env.cells.lookup y with
    | none=>exact ih
    | some d =>
      show List.lookup x ((y,d)::S9 env ys)=some c
      rw[List.lookup_cons]
      have:(x == y)=false:=by simpa using q
      rw[this]
      exact ih
def yO(X:Cx):List Str->List Nat->Prop
 | [],[]=>True
 | y::ys,j::js=>(X.N[j]? = some y/\(X.env.kindOf y=some .cell\/X.env.kindOf y=some .free))/\yO X ys js
 | _,_=>False
def pick(σ:St)(js:List Nat):St:=js.map fun j=>(σ[j]?).getD none
structure wX(X:Cx)(scope:Scope)(xs ys:List Str)(js:List Nat):Prop where
 kind:scope.kind=.function
 names:∀p∈scope.names,(p.2=.local/\scope.names.lookup p.1=some .local)\/(p.2=.free/\p.1∈ys/\scope.names.lookup p.1=some .free)\/(p.2=.globalImplicit/\scope.names.lookup p.1=some .globalImplicit)
 own:∀x∈xs,scope.names.lookup x=some .local
 frees:∀y∈ys,scope.names.lookup y=some .free
 clos:closureFor scope X.env=pure (S9 X.env ys)
 fr:yO X ys js
def blk(X:Cx)(scope:Scope)(xs ys:List Str)(C:Addr)(s₀:Shared)(H₀:Hp)(fp:List Addr)(pl:List (Addr×Obj)):Cx :=
 {X with N:=xs++ys,s₀:=s₀,H₀:=H₀,env:=compEnvC scope (S9 X.env ys) C X.env,outer:=X.stack,ex:=fp,fn:=fun y=>xs.contains y,pn:=X.pn++pl,xe:=fun _ _=>False}
def auQ(X:Cx)(pins:List (Addr×Obj))(H:Hp)(C:Addr):Prop :=
 H C=none/\C≠X.env.locals/\X.s₀.heap.objs.size<=C/\(∀x c,X.env.cells.lookup x=some c->c≠C)/\∀p∈X.pn++pins,p.1≠C
theorem Inv.let_go{X:Cx}{pins:List (Addr×Obj)}{σ:St}{H:Hp}{s:Shared}{C:Addr}{h':Heap}(I:Inv X pins σ H s)(j:auQ X pins H C)(hs:Heap.SameBut C s.heap h'):Inv X pins σ H {s with heap:=h'} :=
 I.turned (t':=s.toks) (fun b _ hb e=>(hs.2 b hb).trans e) j.1 j.2.1 (.inr j.2.2.1) j.2.2.2.1 j.2.2.2.2
def DN(J:It)(g:TG)(tc:TT)(te:TE)(σ:St)(acc:Addr)(H1:Hp)(Q:VK):Prop :=
 ∃W:Nat->Nat->List V->St->Hp->Prop,(∃m,W 0 m [] σ (upd H1 acc (.lst [])))/\∀i m zs σ H2,W i m zs σ H2->H2 acc=some (.lst zs)/\
  ((J.stop i H2/\Q (.ref acc) H2)\/(J.go i H2/\∀y H3,J.yld i H2 y H3->g y σ H3 fun σ4 H4=>tc σ4 H4 fun b H5=>if b=true then te σ4 H5 fun z H6=>H6 acc=some (.lst zs)/\zs.length<sizeLine/\∃m',m'<m/\W (i+1) m' (zs++[z]) σ4 (upd H6 acc (.lst (zs++[z])))
    else ∃m',m'<m/\W (i+1) m' zs σ4 H5))
def ap7(wi:TI)(n:Nat)(js:List Nat)(g:TG)(tc:TT)(te:TE):TE:=fun σ H Q=>wi σ H fun J H1=>∀acc,H1 acc=none->DN J g tc te (List.replicate n none++pick σ js) acc H1 Q
def alm(X:Cx)(ifs:List Expr)(tc:TT):Prop :=
 ∀(pins:List (Addr×Obj)) (s:Shared) (σ:St) (H:Hp) (Q:Bool->Hp->Prop),Inv X pins σ H s->tc σ H Q->
  wpAny (model X.prog X.w) X.A (forIn ifs true fun c r=>if r=true then do let ok <-isTrue c X.env (eval c X.env);pure (ForInStep.yield ok)else pure (ForInStep.yield r)) (TP X pins σ Q) X.xe s
def aj1:TT:=fun _ H Q=>Q true H
theorem qU{X:Cx}:alm X [] aj1:=fun _ _ _ H _ I h=>wpAny_tests_nil ⟨H,I,h⟩
theorem V0{X:Cx}{c:Expr}{tc:TT}(h:PT X c tc):alm X [c] tc:=fun pins s σ H Q I q=>wpAny_tests_one (h pins s σ H Q I q)
section
variable{X:Cx}{scope:Scope}{xs ys:List Str}{js:List Nat}{elt target iter:Expr}{ifs:List Expr}{pos px:Pos}{wi:TI}{g:TG}{tc:TT}{te:TE}
theorem yO.get:∀{ys:List Str} {js:List Nat} {i:Nat} {y:Str},yO X ys js->ys[i]? = some y->∃j,js[i]? = some j/\X.N[j]? = some y/\(X.env.kindOf y=some .cell\/X.env.kindOf y=some .free)
 | [],_,_,_,_,h=>by simp at h
 | _::_,[],_,_,f,_=>f.elim
 | y'::ys,j::js,0,y,f,h=>by
   have e:y'=y:=by simpa using h
   subst e
   exact⟨j,rfl,f.1⟩
 | y'::ys,j::js,i+1,y,f,h=>by
   obtain⟨j',h1,h2⟩:=yO.get (i:=i) (y:=y) f.2 (by simpa using h)
   exact⟨j',by simpa using h1,h2⟩
theorem yO.len:∀{ys:List Str} {js:List Nat},yO X ys js->ys.length=js.length
 | [],[],_=>rfl
 | [],_::_,f=>f.elim
 | _::_,[],f=>f.elim
 | _::ys,_::js,f=>by simp[yO.len f.2]
theorem qI{env:Env}:∀{names:List (Str×NameKind)} {x:Str},names.lookup x=some .free->
 (names.map fun(n,k)=>if(k == NameKind.free && env.scope.kind == .function && env.kindOf n == some .cell)then(n,NameKind.cell)else(n,k)).lookup x=some .cell\/
 (names.map fun(n,k)=>if(k == NameKind.free && env.scope.kind == .function && env.kindOf n == some .cell)then(n,NameKind.cell)else(n,k)).lookup x=some .free
 | [],_,h=>by simp at h
 | (n,k)::r,x,h=>by
   have ih := @qI env r x
   show List.lookup x ((if(k == NameKind.free && env.scope.kind == .function && env.kindOf n == some .cell)=true then(n,NameKind.cell)else(n,k))::_)=_\/List.lookup x ((if(k == NameKind.free && env.scope.kind == .function && env.kindOf n == some .cell)=true then(n,NameKind.cell)else(n,k))::_)=_
   cases hx:x == n with
   | true =>
     simp only[List.lookup_cons,hx]at h
     cases h
     by_cases hc:(NameKind.free == NameKind.free && env.scope.kind == .function && env.kindOf n == some .cell)=true
     ·rw[if_pos hc];left;simp[List.lookup_cons,hx]
     ·rw[if_neg hc];right;simp[List.lookup_cons,hx]
   | false =>
     simp only[List.lookup_cons,hx]at h
     by_cases hc:(k == NameKind.free && env.scope.kind == .function && env.kindOf n == some .cell)=true
     ·rw[if_pos hc];simp only[List.lookup_cons,hx];exact ih h
     ·rw[if_neg hc];simp only[List.lookup_cons,hx];exact ih h
theorem DP{env:Env}:∀{names:List (Str×NameKind)} {x:Str} {k:NameKind},(names.map fun(n,k)=>if(k == NameKind.free && env.scope.kind == .function && env.kindOf n == some .cell)then(n,NameKind.cell)else(n,k)).lookup x=some k->
 ∃p∈names,p.1=x/\(p.2=k\/(p.2=.free/\k=.cell))
 | [],_,_,h=>by simp at h
 | (n,k')::r,x,k,h=>by
   have h:List.lookup x ((if(k' == NameKind.free && env.scope.kind == .function && env.kindOf n == some .cell)=true then(n,NameKind.cell)else(n,k'))::_)=some k:=h
   have ih := @DP env r x k
   by_cases hc:(k' == NameKind.free && env.scope.kind == .function && env.kindOf n == some .cell)=true
   ·rw[if_pos hc,List.lookup_cons]at h
    cases hx:x == n with
    | true =>
      rw[hx]at h
      cases h
      refine⟨(n,k'),List.mem_cons_self,(by simpa using hx:x=n).symm,Or.inr ⟨?_,rfl⟩⟩
      rw[Bool.and_eq_true,Bool.and_eq_true]at hc
      simpa using hc.1.1
    | false =>
      rw[hx]at h
      obtain⟨p,h1,h2⟩:=ih h
      exact⟨p,List.mem_cons_of_mem _ h1,h2⟩
   ·rw[if_neg hc,List.lookup_cons]at h
    cases hx:x == n with
    | true =>
      rw[hx]at h
      cases h
      exact⟨(n,k'),List.mem_cons_self,(by simpa using hx:x=n).symm,Or.inl rfl⟩
    | false =>
      rw[hx]at h
      obtain⟨p,h1,h2⟩:=ih h
      exact⟨p,List.mem_cons_of_mem _ h1,h2⟩
theorem aj2{pins:List (Addr×Obj)}{σ:St}{H:Hp}{s:Shared}{h':Heap}{fp:List Addr}{tk:Nat}(S:wX X scope xs ys js)(I:Inv X pins σ H s)(hf:∀b∈fp,Ku X pins H b)(hfl:∀b∈fp,b<s.heap.objs.size)
 (hn:h'.Ns s.heap.objs.size fun _=>none) (k:∀b o,s.heap.get? b=some o->h'.get? b=some o) :
 Inv (blk X scope xs ys s.heap.objs.size s H fp pins) [] (List.replicate xs.length none++pick σ js) H {s with heap:=h',toks:=tk}:=by
 have hfr:∀a,s.heap.objs.size<=a->H a=none:=fun a ha=>I.hok.fresh ha
 have fpS:∀b∈fp,b∉L2.frs X.stack:=fun b hb z=>by
  rcases List.mem_cons.mp (I.V5 b z)with e | e
  ·exact(hf b hb).2.1 e
  ·exact(hf b hb).2.2.1 e
 have ax0:∀x,((relabel scope X.env).names.lookup x=some .cell\/(relabel scope X.env).names.lookup x=some .free)->x∈ys:=fun x hx=>by
  rcases hx with z | z
  ·obtain⟨p,hp,e,z⟩:=DP z
   rcases S.names p hp with ⟨h1,_⟩ | ⟨_,h2,_⟩ | ⟨h1,_⟩
   ·rcases z with z | z
    ·rw[h1]at z;cases z
    ·rw[h1]at z;cases z.1
   ·rw[<-e];exact h2
   ·rcases z with z | z
    ·rw[h1]at z;cases z
    ·rw[h1]at z;cases z.1
  ·obtain⟨p,hp,e,z⟩:=DP z
   rcases S.names p hp with ⟨h1,_⟩ | ⟨_,h2,_⟩ | ⟨h1,_⟩
   ·rcases z with z | z
    ·rw[h1]at z;cases z
    ·cases z.2
   ·rw[<-e];exact h2
   ·rcases z with z | z
    ·rw[h1]at z;cases z
    ·cases z.2
 refine⟨⟨I.ok.mod,S.kind,I.ok.glob,I.ok.blt,Nat.le_refl _,fun x y c h1 h2=>I.ok.inj x y c (gY h1).2 (gY h2).2,fun x hx=>?_,fun x c h1 h2=>?_,I.ok.hd,I.ok.frames,.inl rfl,fun b hb=>⟨?_,fun x c e=>(hf b hb).2.2.2.2.1 x c (gY e).2⟩,
  I.bs,Nat.le_trans I.ok.bsz I.sz,fun b o e z=>?_,fpS,I.stack,I.ab9⟩,rfl,I.bare,Un.kept k,⟨_,hn,fun i y v e1 e2 e3=>?_⟩,fun x c e=>?_,hfr _ (Nat.le_refl _),fun x c e=>?_,fun p hp=>?_,I.hok.kept k,?_⟩
 ·have q:x∈ys:=ax0 x hx
  obtain⟨i,hi⟩:=List.getElem?_of_mem q
  obtain⟨j,_,_,hk⟩:=S.fr.get hi
  obtain⟨c,hc⟩:=I.ok.has x hk
  exact⟨c,Wq q hc⟩
 ·have q:=(gY h2).1
  have h1':x∈xs:=by
   have:xs.contains x=true:=h1
   simpa using this
  have a:=S.own x h1'
  have b:=S.frees x q
  rw[a]at b
  cases b
 ·intro z
  have z':b=s.heap.objs.size:=z
  have:=hfl b hb
  rw[z']at this
  exact Nat.lt_irrefl _ this
 ·rcases (hf b z).2.2.2.1 with q | q
  ·exact I.ok.afa b o e q
  ·exact absurd (Nat.lt_of_lt_of_le (Heap.lt_size (I.ok.bs b o e).1) q) (Nat.lt_irrefl _)
 ·have e1':(xs++ys)[i]? = some y:=e1
  by_cases hi:i<xs.length
  ·rw[List.getElem?_append_left (by rw[List.length_replicate];exact hi),List.getElem?_replicate]at e2
   split at e2<;>cases e2
  ·rw[List.getElem?_append_right (by lia)]at e1'
   rw[List.getElem?_append_right (by rw[List.length_replicate];lia),List.length_replicate]at e2
   obtain⟨j,hj,hN,hk⟩:=S.fr.get e1'
   unfold pick at e2
   rw[List.getElem?_map,hj]at e2
   have e4:σ[j]? = some (some v):=by
    have e5:(σ[j]?).getD none=some v:=by simpa using e2
    cases q:σ[j]? with
    | none=>rw[q]at e5;cases e5
    | some o=>rw[q]at e5;simpa using e5
   have ax1:Vis X.env.scope y:=by
    rcases hk with z | z
    ·exact .inr (.inl z)
    ·exact .inr (.inr z)
   obtain⟨m0,_,hl⟩:=I.loc
   obtain⟨u,ru,lk⟩:=hl j y v hN e4 ax1
   refine⟨u,ru,.inr ⟨?_,?_⟩⟩
   ·exact qI (S.frees y (List.mem_of_getElem? e1'))
   ·rcases lk with ⟨z,_⟩ | ⟨_,c,hc,hcell⟩
    ·rcases hk with q | q
     ·rw[q]at z;cases z
     ·rw[q]at z;cases z
    ·exact⟨c,Wq (List.mem_of_getElem? e1') hc,hcell.keeps k⟩
 ·obtain⟨v,z⟩:=I.cell x c (gY e).2
  exact⟨v,z.keeps k⟩
 ·exact I.uC x c (gY e).2
 ·have hp':p∈X.pn++pins:=by
   have:p∈(X.pn++pins)++[]:=hp
   rwa[List.append_nil]at this
  obtain⟨e,n,ne,nf,d⟩:=I.pin p hp'
  refine⟨k _ _ e,n,fun z=>?_,fun z=>?_,d⟩
  ·have z':p.1=s.heap.objs.size:=z
   exact absurd (Heap.lt_size e) (by rw[z'];exact Nat.lt_irrefl _)
  ·have z':p.1∈L2.frs X.stack:=z
   rcases List.mem_cons.mp (I.V5 _ z')with q | q
   ·exact ne q
   ·exact nf q
 ·show(List.replicate xs.length none++pick σ js).length=(xs++ys).length
  rw[List.length_append,List.length_append,List.length_replicate]
  unfold pick
  rw[List.length_map,S.fr.len]
theorem afw{pins:List (Addr×Obj)}{σ:St}{H2:Hp}{s2:Shared}{J:It}{fp:List Addr}{it:Addr}{tn:Nat->Heap->Prop}{Q:VK}(S:wX X scope xs ys js)(hc:X.calm=true)(I2:Inv X pins σ H2 s2)(T:Turn X.prog X.w X.K target J fp it tn)(st2:tn 0 s2.heap)
 (f2:∀b∈fp,Ku X pins H2 b) (hg:∀C s₀ H₀ fp pl,PG (blk X scope xs ys C s₀ H₀ fp pl) target g) (hi:∀C s₀ H₀ fp pl,alm (blk X scope xs ys C s₀ H₀ fp pl) ifs tc) (he:∀C s₀ H₀ fp pl,PE (blk X scope xs ys C s₀ H₀ fp pl) elt te)
 (rd:∀acc,H2 acc=none->DN J g tc te (List.replicate xs.length none++pick σ js) acc H2 Q) {RR:Value->Addr->Result->Shared->Prop}
 (hRR:∀acc C H' s' m,s'.heap.Ns C m->Inv X pins σ H' s'->auQ X pins H' C->Q (.ref acc) H'->RR (.ref acc) C (.ok .next) s') :
 wpAny (model X.prog X.w) X.A (newList []) (fun acc s₃=>wpAny (model X.prog X.w) X.A (newFunctionEnv scope X.env.globals (S9 X.env ys) [] X.env.qual none .none (some X.env)) (fun cenv s₄ =>
  codeAny (model X.prog X.w) X.A (.compStart (.ListComp elt [⟨target,iter,ifs,0⟩] scope pos) 0 (.ref it) acc {cenv with scope:=relabel scope X.env}) (RR acc cenv.locals) s₄) X.xe s₃) X.xe s2:=by
 have aq9:H2 s2.heap.objs.size=none:=I2.hok.fresh (Nat.le_refl _)
 obtain⟨W,⟨m0,w0⟩,turn⟩:=rd _ aq9
 have hcell:∀y∈scope.names,y.2≠.cell:=fun y hy z=>by
  rcases S.names y hy with ⟨q,_⟩ | ⟨q,_⟩ | ⟨q,_⟩<;>rw[q]at z<;>cases z
 refine wpAny_newObj_type (wpAny_newFunctionEnv hcell (by intro y hy;simp at hy) (fun h₁ hns₁ hsb₁=>?_) S.kind)
 dsimp only at hns₁ hsb₁ ⊢
 have I3:Inv X pins σ (upd H2 s2.heap.objs.size (.lst [])) {s2 with heap:=s2.heap.push {cls:=.type "list",dict:=none,data:=.seq ([]:List Value).toArray},toks:=s2.toks}:=I2.aqW (its:=[]) .nil (Nat.zero_le _)
 generalize hs3:({s2 with heap:=s2.heap.push {cls:=.type "list",dict:=none,data:=.seq ([]:List Value).toArray},toks:=s2.toks}:Shared)=s3 at I3
 have hh3:s2.heap.push {cls:=.type "list",dict:=none,data:=.seq ([]:List Value).toArray}=s3.heap:=by rw[<-hs3]
 rw[hh3]at hns₁ hsb₁ ⊢
 have ne2:∀b∈fp,b<s2.heap.objs.size:=fun b hb=>by
  obtain⟨o,e,_⟩:=T.obj 0 _ st2 b hb
  exact Heap.lt_size e
 have sz3:s3.heap.objs.size=s2.heap.objs.size+1:=by rw[<-hh3,Heap.size_push]
 have f3:∀b∈fp,Ku X pins (upd H2 s2.heap.objs.size (.lst [])) b:=fun b hb=>by
  obtain⟨a1,a2⟩:=f2 b hb
  exact⟨by rw[az (Nat.ne_of_lt (ne2 b hb))];exact a1,a2⟩
 have k3:∀b o,s3.heap.get? b=some o->h₁.get? b=some o:=fun b o e=>hsb₁.extBut b o (Nat.ne_of_lt (Heap.lt_size e)) (Heap.get?_push_of_some _ e)
 have IB:=aj2 (tk:=s3.toks) S I3 f3 (fun b hb=>by rw[sz3];exact Nat.lt_succ_of_lt (ne2 b hb)) (by simpa using hns₁) k3
 have st3:tn 0 h₁:=T.keep 0 _ _ st2 fun b hb o e=>k3 b o (by rw[<-hh3];exact Heap.get?_push_of_some _ e)
 have stat:∀{H':Hp},(∀b∈fp,H' b=none)->∀b∈fp,Ku (blk X scope xs ys s3.heap.objs.size s3 (upd H2 s2.heap.objs.size (.lst [])) fp pins) [] H' b:=fun {H'} hn b hb=>by
  obtain⟨a1,a2,a3,a4,a5,a6⟩:=f3 b hb
  refine⟨hn b hb,fun z=>?_,fun z=>?_,.inl hb,fun x c e=>a5 x c (gY e).2,fun p hp=>a6 p ?_⟩
  ·have z':b=s3.heap.objs.size:=z
   have:=ne2 b hb
   rw[z',sz3]at this
   exact absurd this (Nat.not_lt.mpr (Nat.le_succ _))
  ·have z':b∈L2.frs X.stack:=z
   rcases List.mem_cons.mp (I3.V5 _ z')with q | q
   ·exact a2 q
   ·exact a3 q
  ·have:p∈(X.pn++pins)++[]:=hp
   rwa[List.append_nil]at this
 have loop:∀s₄:Shared,s₄={s3 with heap:=h₁,toks:=s3.toks}->
  codeAny (model X.prog X.w) X.A (.compLoop (.ListComp elt [⟨target,iter,ifs,0⟩] scope pos) 0 (.ref it) (.ref s2.heap.objs.size) (compEnvC scope (S9 X.env ys) s3.heap.objs.size X.env)) (RR (.ref s2.heap.objs.size) s3.heap.objs.size) s₄:=by
  rintro s₄ rfl
  refine afv (fun n s'=>∃i zs σ' H',Inv (blk X scope xs ys s3.heap.objs.size s3 (upd H2 s2.heap.objs.size (.lst [])) fp pins) [] σ' H' s'/\tn i s'.heap/\(∀b∈fp,H' b=none)/\W i n zs σ' H') ?_ m0 ⟨0,[],_,_,IB,st3,fun b hb=>(f3 b hb).1,w0⟩
  rintro n s5 ⟨i,zs,σ5,H5,I5,st5,fr5,w5⟩
  obtain⟨hacc,tt⟩:=turn i n zs σ5 H5 w5
  rcases tt with ⟨stop,qn⟩ | ⟨go,step⟩
  ·refine gf (T.done (blk X scope xs ys s3.heap.objs.size s3 (upd H2 s2.heap.objs.size (.lst [])) fp pins) rfl rfl rfl hc i [] s5 σ5 H5 _ I5 (stat fr5) st5 stop) fun r s6 ⟨hr,I6⟩=>?_
   subst hr
   obtain⟨m,hm,_⟩:=I6.loc
   have I6':Inv X pins σ H5 s6:=I3.call' (ch:=fp) I6.os I6.base I6.hok I6.bare fun b hb=>⟨(f3 b hb).2.2.2.1,(f3 b hb).2.1,(f3 b hb).2.2.2.2.1,(f3 b hb).2.2.2.2.2⟩
   refine hRR _ _ H5 s6 m hm I6' ⟨I6.free,Nat.ne_of_gt I3.lt,I3.sz,fun x c e z=>?_,fun p hp z=>?_⟩ qn
   ·obtain⟨v,q⟩:=I3.cell x c e
    have:=q.lt
    rw[z]at this
    exact Nat.lt_irrefl _ this
   ·have:=Heap.lt_size (I3.pin p hp).1
    rw[z]at this
    exact Nat.lt_irrefl _ this
  ·refine gf (T.item (blk X scope xs ys s3.heap.objs.size s3 (upd H2 s2.heap.objs.size (.lst [])) fp pins) rfl rfl rfl hc i [] s5 σ5 H5 _ I5 (stat fr5) st5 go) fun r s6 ⟨u,hr,h6⟩=>?_
   subst hr
   refine gf h6 fun _ s7 hz=>kE hz fun x H7 I7 r7 ⟨y7,st7,fr7⟩=>?_
   have I7':=I7.pinned (stat fr7) (T.obj _ _ st7)
   refine gf (hg _ _ _ _ _ _ s7 σ5 H7 x u _ I7' r7 (step x H7 y7)) fun _ s8 hz=>ex4 hz fun σ8 H8 I8 q8=>?_
   have again:∀{zs':List V} {σ9:St} {H9:Hp} {s9:Shared},Inv (blk X scope xs ys s3.heap.objs.size s3 (upd H2 s2.heap.objs.size (.lst [])) fp pins) ([]++V9 fp s7.heap) σ9 H9 s9->(∃m',m'<n/\W (i+1) m' zs' σ9 H9)->
    ∃m,m<n/\∃i zs σ' H',Inv (blk X scope xs ys s3.heap.objs.size s3 (upd H2 s2.heap.objs.size (.lst [])) fp pins) [] σ' H' s9/\tn i s9.heap/\(∀b∈fp,H' b=none)/\W i m zs σ' H':=fun {zs' σ9 H9 s9} I9 ⟨m',hm,w9⟩=>by
    refine⟨m',hm,i+1,zs',σ9,H9,I9.Kv,T.keep _ _ _ st7 fun b hb o e=>(I9.pin (b,o) (List.mem_append_right _ (List.mem_append_right _ (yJ hb e)))).1,fun b hb=>?_,w9⟩
    obtain⟨o,e,d⟩:=T.obj _ _ st7 b hb
    exact(I9.pin (b,o) (List.mem_append_right _ (List.mem_append_right _ (yJ hb e)))).2.1
   refine gf (hi _ _ _ _ _ _ s8 σ8 H8 _ I8 q8) fun ok s9 hz=>ex3 hz fun H9 I9 q9=>?_
   cases ok with
   | false =>
     rw[if_neg Bool.false_ne_true]at q9 ⊢
     exact again I9 q9
   | true =>
     rw[if_pos rfl]at q9 ⊢
     refine gf (he _ _ _ _ _ _ s9 σ8 H9 _ I9 q9) fun z s10 hz=>kE hz fun zv H10 I10 rz ⟨ax3,ax4,q10⟩=>?_
     refine gf (cH _ s10 σ8 H10 (.ref s2.heap.objs.size) [zv] (.ref s2.heap.objs.size) [z] (fun _ H11=>H11=upd H10 s2.heap.objs.size (.lst (zs++[zv]))) I10 rfl (.cons rz .nil) ⟨_,zs,zv,rfl,rfl,ax3,ax4,rfl⟩) fun _ s11 hz=>kE hz fun _ H11 I11 _ e11=>?_
     subst e11
     exact again I11 q10
 have e4:({s2 with heap:=h₁,toks:=s2.toks+([]:List (Str×Value)).length}:Shared)={s3 with heap:=h₁,toks:=s3.toks}:=by
  rw[<-hs3]
  rfl
 exact codeAny_compStart_list (loop _ e4) (T.self X.A 0 _ _ _ st3 (loop _ e4))
theorem lA(S:wX X scope xs ys js)(hc:X.calm=true)(hw:PI X target iter wi)(hg:∀C s₀ H₀ fp pl,PG (blk X scope xs ys C s₀ H₀ fp pl) target g)(hi:∀C s₀ H₀ fp pl,alm (blk X scope xs ys C s₀ H₀ fp pl) ifs tc)(he:∀C s₀ H₀ fp pl,PE (blk X scope xs ys C s₀ H₀ fp pl) elt te)
 (hs:∀x,foldedSetIterable iter X.env x=pure x:=by intro _;rfl):PE X (.ListComp elt [⟨target,iter,ifs,0⟩] scope pos) (ap7 wi xs.length js g tc te):=by
 intro pins s σ H Q I h
 rw[eval_ListComp]
 refine wpAny_comprehension_free (use:=none) rfl hs S.clos S.kind (fun x hx hl=>?_) (gf (hw pins s σ H _ I h) fun v s1 h1=>gf h1 fun itv s2 h2=>?_)
 ·rcases S.names x hx with ⟨_,q⟩ | ⟨q,_⟩ | ⟨q,_⟩
  ·exact q
  ·rw[q]at hl;cases hl
  ·rw[q]at hl;cases hl
 obtain⟨it,fp,tn,J,H2,e,I2,T,st2,f2,rd⟩:=h2
 subst e
 refine afw (RR:=fun acc C=>compPost (model X.prog X.w) X.A X.xe none (EP X pins σ Q) acc C) S hc I2 T st2 f2 hg hi he rd fun acc C H' s' m hm I' jk q=>?_
 exact⟨m,hm,fun h' hsb=>⟨.ref acc,H',I'.let_go jk hsb,rfl,q⟩⟩
def auS(i:Nat)(t:TE):TS:=fun D σ H=>t σ H fun v H1=>D.nx (σ.set i (some v)) H1
theorem ahL{i:Nat}{x:Str}{py:Pos}{spos:Pos}(hN:X.N.Nodup)(hix:X.N[i]? = some x)(hlo:X.env.scope.names.lookup x=some .local)(S:wX X scope xs ys js)(hc:X.calm=true)(hw:PI X target iter wi)(hg:∀C s₀ H₀ fp pl,PG (blk X scope xs ys C s₀ H₀ fp pl) target g)(hi:∀C s₀ H₀ fp pl,alm (blk X scope xs ys C s₀ H₀ fp pl) ifs tc)(he:∀C s₀ H₀ fp pl,PE (blk X scope xs ys C s₀ H₀ fp pl) elt te)
 (hsw:swapsWith (.ListComp elt [⟨target,iter,ifs,0⟩] scope pos) (some (.Name x py)) spos.line X.env=pure true:=by rfl) (hs:∀x,foldedSetIterable iter X.env x=pure x:=by intro _;rfl) :
 PS X (.Assign [.Name x py] (.ListComp elt [⟨target,iter,ifs,0⟩] scope pos) spos) (auS i (ap7 wi xs.length js g tc te)):=by
 intro pins s σ H D I h
 rw[exec_Assign_Name_used _ _ _ _ hsw]
 refine wpAny_bind (wpAny_standAt (wpAny_bind ?_))
 show wpAny _ X.A (do let _ <-comprehension (.ListComp elt [⟨target,iter,ifs,0⟩] scope pos) scope X.env _ (newList []) false (eval iter X.env) (some (assign (.Name x py) X.env))) _ _ s
 refine wpAny_bind (wpAny_mono (wpAny_comprehension_free (Q:=fun _ s'=>SP X pins D .next s') rfl hs S.clos S.kind (fun x hx hl=>?_) (gf (hw pins s σ H _ I h) fun v s1 h1=>gf h1 fun itv s2 h2=>?_)) (fun _ s' hq=>wpAny_pure (wpAny_pure hq)) fun _ _ e=>e)
 ·rcases S.names x hx with ⟨_,q⟩ | ⟨q,_⟩ | ⟨q,_⟩
  ·exact q
  ·rw[q]at hl;cases hl
  ·rw[q]at hl;cases hl
 obtain⟨it,fp,tn,J,H2,e,I2,T,st2,f2,rd⟩:=h2
 subst e
 refine afw (RR:=fun acc C=>compPost (model X.prog X.w) X.A X.xe (some (assign (.Name x py) X.env)) (fun _ s'=>SP X pins D .next s') acc C) S hc I2 T st2 f2 hg hi he rd fun acc C H' s' m hm I' jk q=>?_
 refine wpAny_assign_Name (abr I' hN hix (Or.inl hlo) (v:=.ref acc) rfl (fun s'' I'' hsb=>?_) (Or.inr hlo))
 obtain⟨a,hsb,ha⟩:=hsb
 have hCa:C≠a:=by
  rcases ha with e | e
  ·rw[e];exact jk.2.1
  ·exact(jk.2.2.2.1 _ _ e).symm
 exact⟨m,hm.sameBut hsb hCa,fun h' hs'=>⟨_,_,I''.let_go jk hs',q⟩⟩
end
theorem gF{X:Cx}{scope:Scope}{xs ys:List Str}{js:List Nat}(kind:scope.kind=.function)
 (names:∀p∈scope.names,(p.2=.local/\scope.names.lookup p.1=some .local)\/(p.2=.free/\p.1∈ys/\scope.names.lookup p.1=some .free)\/(p.2=.globalImplicit/\scope.names.lookup p.1=some .globalImplicit)) (own:∀x∈xs,scope.names.lookup x=some .local) (frees:∀y∈ys,scope.names.lookup y=some .free)
 (clos:closureFor scope X.env=pure (S9 X.env ys)) (fr:yO X ys js):wX X scope xs ys js:=⟨kind,names,own,frees,clos,fr⟩
end L2
namespace L2
open PySem PySem.Spec PyProof.Rows
def wY(n:Nat)(acc:Addr)(Pv:Nat->List V->St->Hp->Prop)(i:Nat)(zs:List V)(σ4:St):VK:=fun z H6 =>
 H6 acc=some (.lst zs)/\zs.length<sizeLine/\∃m',m'<n - i/\(m'=n - (i+1)/\i+1<=n/\Pv (i+1) (zs++[z]) σ4 (upd H6 acc (.lst (zs++[z]))))
def KR(n:Nat)(Pv:Nat->List V->St->Hp->Prop)(i:Nat)(zs:List V)(σ4:St)(H5:Hp):Prop:=∃m',m'<n - i/\(m'=n - (i+1)/\i+1<=n/\Pv (i+1) zs σ4 H5)
theorem wY.mk{n i:Nat}{acc:Addr}{Pv:Nat->List V->St->Hp->Prop}{zs:List V}{σ4:St}{z:V}{H6:Hp}(hi:i<n)(h1:H6 acc=some (.lst zs))(h2:zs.length<sizeLine)(p:Pv (i+1) (zs++[z]) σ4 (upd H6 acc (.lst (zs++[z])))):wY n acc Pv i zs σ4 z H6 :=
 ⟨h1,h2,_,by lia,rfl,hi,p⟩
theorem KR.mk{n i:Nat}{Pv:Nat->List V->St->Hp->Prop}{zs:List V}{σ4:St}{H5:Hp}(hi:i<n)(p:Pv (i+1) zs σ4 H5):KR n Pv i zs σ4 H5:=⟨_,by lia,rfl,hi,p⟩
theorem abF{K:PySem.W.Frag}{a acc:Addr}{xs:List V}{g:TG}{tc:TT}{te:TE}{σ:St}{H1:Hp}{Q:VK}(Pv:Nat->List V->St->Hp->Prop)(h0:Pv 0 [] σ (upd H1 acc (.lst [])))
 (hl:∀i zs σ H,i<=xs.length->Pv i zs σ H->cu K H a xs/\H acc=some (.lst zs))
 (hs:∀i x zs σ H,xs[i]? = some x->i<xs.length->Pv i zs σ H->g x σ H fun σ4 H4=>tc σ4 H4 fun b H5=>if b=true then te σ4 H5 (wY xs.length acc Pv i zs σ4)else KR xs.length Pv i zs σ4 H5)
 (hd:∀zs σ H,Pv xs.length zs σ H->Q (.ref acc) H):DN (Itl K a) g tc te σ acc H1 Q:=by
 refine⟨fun i m zs σ H=>m=xs.length - i/\i<=xs.length/\Pv i zs σ H,⟨_,rfl,Nat.zero_le _,h0⟩,?_⟩
 rintro i m zs σ H2 ⟨rfl,hi,p⟩
 obtain⟨q,ha⟩:=hl i zs σ H2 hi p
 refine⟨ha,?_⟩
 by_cases hlt:i<xs.length
 ·refine .inr ⟨⟨xs,xs[i],q,by simp[hlt]⟩,fun y H3 yl=>?_⟩
  obtain⟨e,yl⟩:=yl
  subst e
  exact hs i y zs σ _ (yl xs q) hlt p
 ·have e:i=xs.length:=by lia
  subst e
  exact .inl ⟨⟨xs,q,Nat.le_refl _⟩,hd zs σ H2 p⟩
theorem yP{lo:Int}{n:Nat}{acc:Addr}{g:TG}{tc:TT}{te:TE}{σ:St}{H1:Hp}{Q:VK}(Pv:Nat->List V->St->Hp->Prop)(h0:Pv 0 [] σ (upd H1 acc (.lst [])))
 (hl:∀i zs σ H,i<=n->Pv i zs σ H->H acc=some (.lst zs))
 (hs:∀i zs σ H,i<n->Pv i zs σ H->g (.int (lo+i)) σ H fun σ4 H4=>tc σ4 H4 fun b H5=>if b=true then te σ4 H5 (wY n acc Pv i zs σ4)else KR n Pv i zs σ4 H5)
 (hd:∀zs σ H,Pv n zs σ H->Q (.ref acc) H):DN (Itr lo n) g tc te σ acc H1 Q:=by
 refine⟨fun i m zs σ H=>m=n - i/\i<=n/\Pv i zs σ H,⟨_,rfl,Nat.zero_le _,h0⟩,?_⟩
 rintro i m zs σ H2 ⟨rfl,hi,p⟩
 have ha:=hl i zs σ H2 hi p
 refine⟨ha,?_⟩
 by_cases hlt:i<n
 ·refine .inr ⟨hlt,fun y H3 yl=>?_⟩
  obtain⟨e,yl⟩:=yl
  subst e yl
  exact hs i zs σ _ hlt p
 ·have e:i=n:=by lia
  subst e
  exact .inl ⟨Nat.le_refl _,hd zs σ H2 p⟩
theorem ai1{σ:St}{H:Hp}{A B:Hp->Prop}(h:A H):aj1 σ H (fun b H5=>if b=true then A H5 else B H5):=by
 show if true=true then A H else B H
 rw[if_pos rfl]
 exact h
theorem aco{i:Nat}{v:V}{σ:St}{H:Hp}{A B:St->Hp->Prop}(h:A (σ.set i (some v)) H):abt i v σ H fun σ4 H4=>aj1 σ4 H4 fun b H5=>if b=true then A σ4 H5 else B σ4 H5:=ai1 (σ:=σ.set i (some v)) (A:=A (σ.set i (some v))) (B:=B (σ.set i (some v))) h
end L2
namespace L2
open PySem PySem.Spec PyProof.Rows
section
variable{X:Cx}{x y:Str}{pos:Pos}{a:Addr}{T:String}
theorem gZ(hg:Gl X x)(h:∃t,X.mg x=some (.str y t))(hd:(x == ("__debug__":Str))=false:=by decide):PE X (.Name x pos) (tC (.str y)):=by
 obtain⟨t,h⟩:=h
 exact anq hg h ⟨t,rfl⟩ hd
theorem rR(hg:Gl X x)(hm:X.mg x=none)(hv:bootBuiltins x=some (.type T))(hn:x≠"__name__":=by decide) (hd:(x == ("__debug__":Str))=false:=by decide):PE X (.Name x pos) (tC (.ty T)):=anr hg hm hv rfl hn hd
end
theorem Tc(l:Addr)(items:Array Value)(n:Nat)(b:Addr)(items2:Array Value)(n2:Nat)(dd:Option Addr)(sl:Array (Option Value))(hs0:¬(!items.isEmpty && Builtin.List.listTooLong (items.size+items2.size))=true)(hs1:items.size<=sizeLine)(hs2:items.size+items2.size<=sizeLine+1) :
 Meets (Builtin.«list.extend» ⟨[.ref l,.ref b],[]⟩) (fun _ R s=>s.heap.get? l=some {cls:=.type "list",dict:=none,data:=.seq items n,slots := #[]}/\s.heap.get? b=some {cls:=.type "tuple",dict:=dd,data:=.seq items2 n2,slots:=sl}/\R (.ok (.ret Value.none)) {s with heap:=s.heap.update l (Obj.mapSeq fun x=>x++items2),toks:=s.toks}) :=
 .of_wp fun prog w A R s h=>by
  obtain⟨hp,g,d,tk,os⟩:=s;obtain⟨hl,hb,h⟩:=h;have f1:=PySem.AutoSeq1.idx_int;have f2:=PySem.AutoSeq1.sub_tuple_tuple;have f3:=PySem.AutoSeq1.sub_list_list;have f4:=PySem.AutoSeq1.sub_tuple_list;have f5:=PySem.AutoSeq1.sub_list_tuple;
  have hz':(items++items2).size<=sizeLine+1:=by rw[Array.size_append];exact hs2
  wp_walk using (wpAny_updateSeq hl rfl (hz:=hs1) (_hz':=hz')),PySem.AutoSeq1.wpAny_loadPart' hl,PySem.AutoSeq1.wpAny_loadPart' hb;exact⟨_,rfl,h⟩
theorem Td(l:Addr)(items:Array Value)(n:Nat)(b:Addr)(items2:Array Value)(n2:Nat)(dd:Option Addr)(sl:Array (Option Value))(hs0:¬(!items.isEmpty && Builtin.List.listTooLong (items.size+items2.size))=true)(hs1:items.size<=sizeLine)(hs2:items.size+items2.size<=sizeLine+1) :
 Meets (Builtin.«list.extend» ⟨[.ref l,.ref b],[]⟩) (fun _ R s=>s.heap.get? l=some {cls:=.type "list",dict:=none,data:=.seq items n,slots := #[]}/\s.heap.get? b=some {cls:=.type "list",dict:=dd,data:=.seq items2 n2,slots:=sl}/\R (.ok (.ret Value.none)) {s with heap:=s.heap.update l (Obj.mapSeq fun x=>x++items2),toks:=s.toks}) :=
 .of_wp fun prog w A R s h=>by
  obtain⟨hp,g,d,tk,os⟩:=s;obtain⟨hl,hb,h⟩:=h;have f1:=PySem.AutoSeq1.idx_int;have f2:=PySem.AutoSeq1.sub_tuple_tuple;have f3:=PySem.AutoSeq1.sub_list_list;have f4:=PySem.AutoSeq1.sub_tuple_list;have f5:=PySem.AutoSeq1.sub_list_tuple;
  have hz':(items++items2).size<=sizeLine+1:=by rw[Array.size_append];exact hs2
  wp_walk using (wpAny_updateSeq hl rfl (hz:=hs1) (_hz':=hz')),PySem.AutoSeq1.wpAny_loadPart' hl,PySem.AutoSeq1.wpAny_loadPart' hb;exact⟨_,rfl,h⟩
def aln(K:PySem.W.Frag):V->List V->Hp->VK->Prop:=fun x vs H Q=>∃l b xs zs,x=.ref l/\vs=[.ref b]/\H l=some (.lst xs)/\(cu K H b zs\/di K H b zs)/\xs.length+zs.length<=sizeLine/\Q .non (upd H l (.lst (xs++zs)))
section
variable{X:Cx}
theorem lE:MtM X "list.extend" (aln X.K):=by
 intro pins s σ H x vs v us Q I rx rv h
 obtain⟨l,b,xs,zs,rfl,rfl,hH,hB,hz,q⟩:=h
 cases rx
 obtain⟨u,rfl,ru⟩:=rv.one
 cases ru
 obtain⟨z,its,n,r,hl,e⟩:=I.ahH hH
 have nl:∀{m k:Nat},m+k<=sizeLine->¬(!its.toArray.isEmpty && Builtin.List.listTooLong (m+k))=true:=fun hsz=>by
  rw[afl hsz,Bool.and_false]
  exact Bool.false_ne_true
 rcases hB with hB | hB
 ·obtain⟨its2,r2,⟨ob,n2,hob,hc,_,hd⟩,z2⟩:=I.list hB
  have l2:=r2.length
  obtain⟨oc,odd,odt,osl⟩:=ob
  dsimp only at hc hd
  subst hc hd
  refine call_meets F.slot_list_extend ⟨_,e,rfl⟩ F.entry_list_extend (F.args_list_extend_2 _ _)
   (Td l its.toArray n b its2.toArray n2 odd osl (nl (by rw[List.size_toArray,List.size_toArray];lia)) (by rw[List.size_toArray];lia) (by rw[List.size_toArray,List.size_toArray];lia)) ⟨e,hob,?_⟩
  refine⟨.non,_,I.ak9 (its':=its++its2) hH e (by simp) (r.append r2) ?_,rfl,q⟩
  rw[List.length_append]
  lia
 ·obtain⟨its2,r2,⟨ob,hob,hc,n2,hd⟩,z2⟩:=I.tuple hB
  have l2:=r2.length
  obtain⟨oc,odd,odt,osl⟩:=ob
  dsimp only at hc hd
  subst hc hd
  refine call_meets F.slot_list_extend ⟨_,e,rfl⟩ F.entry_list_extend (F.args_list_extend_2 _ _)
   (Tc l its.toArray n b its2.toArray n2 odd osl (nl (by rw[List.size_toArray,List.size_toArray];lia)) (by rw[List.size_toArray];lia) (by rw[List.size_toArray,List.size_toArray];lia)) ⟨e,hob,?_⟩
  refine⟨.non,_,I.ak9 (its':=its++its2) hH e (by simp) (r.append r2) ?_,rfl,q⟩
  rw[List.length_append]
  lia
def alo(K:PySem.W.Frag)(neg:Bool):R2:=fun x y H Q=>∃a b xs,x=.ref a/\y=.ref b/\cu K H a xs/\cu K H b []/\Q (.bl (if neg then !xs.isEmpty else xs.isEmpty)) H
theorem alp(hu:X.A.units<cLine):VP X (compareOp .Eq) (alo X.K false):=by
 intro pins s σ H x y v u Q I rx ry h
 obtain⟨a,b,xs,rfl,rfl,ha,hb,q⟩:=h
 cases rx
 cases ry
 obtain⟨its,r,pl,z⟩:=I.list ha
 obtain⟨its2,r2,pl2,z2⟩:=I.list hb
 have l1:=r.length
 have l2:=r2.length
 have e2:its2=[]:=List.length_eq_zero_iff.mp (by rw[<-l2];rfl)
 subst e2
 cases xs with
 | nil =>
   have e1:its=[]:=List.length_eq_zero_iff.mp (by rw[<-l1];rfl)
   subst e1
   exact PySem.SeqAt.eq_listAt (e:=fun _=>true) pl.isList pl2.isList rfl hu (fun j h1 _=>absurd h1 (by simp)) ⟨.bl true,H,I,rfl,q⟩
 | cons y ys =>
   refine PySem.SeqAt.eq_list_lengthsAt pl.isList pl2.isList ?_ hu ⟨.bl false,H,I,rfl,q⟩
   rw[List.size_toArray,<-l1]
   rfl
theorem afx(hu:X.A.units<cLine):VP X (compareOp .NotEq) (alo X.K true):=by
 intro pins s σ H x y v u Q I rx ry h
 obtain⟨a,b,xs,rfl,rfl,ha,hb,q⟩:=h
 cases rx
 cases ry
 obtain⟨its,r,pl,z⟩:=I.list ha
 obtain⟨its2,r2,pl2,z2⟩:=I.list hb
 have l1:=r.length
 have l2:=r2.length
 have e2:its2=[]:=List.length_eq_zero_iff.mp (by rw[<-l2];rfl)
 subst e2
 cases xs with
 | nil =>
   have e1:its=[]:=List.length_eq_zero_iff.mp (by rw[<-l1];rfl)
   subst e1
   exact PySem.SeqAt.RcNeAt.lists (e:=fun _=>true) pl.isList pl2.isList rfl hu (fun j h1 _=>absurd h1 (by simp)) X.prog X.w X.xe _ ⟨.bl false,H,I,rfl,q⟩
 | cons y ys =>
   refine PySem.SeqAt.RcNeAt.lists_lengths pl.isList pl2.isList ?_ hu X.prog X.w X.xe _ ⟨.bl true,H,I,rfl,q⟩
   rw[List.size_toArray,<-l1]
   rfl
structure KDict(K:PySem.W.Frag)(w:World)(a:Addr)(tab:List (Str×V)):Prop where
 ex:∃es n,K.lookup a=some ⟨.type "dict",none,.dict es n,#[]⟩/\PySem.W.KeysLit w.params es.toList
 at_:∀x v,tab.lookup x=some v->∃u,PySem.W.nsIn K a x=some (some u)/\RelV v u
def auU(tab:List (Str×V))(ty:TE):TE:=fun σ H Q=>ty σ H fun y H1=>∃k v,y=.str k/\tab.lookup k=some v/\Q v H1
theorem ai2{x:Str}{a:Addr}{tab:List (Str×V)}{i:Expr}{ty:TE}{p pos:Pos}(hg:Gl X x)(hm:X.mg x=some (.ref a))(D:KDict X.K X.w a tab)(hi:PE X i ty)(hs:aq0 i)(hd:(x == ("__debug__":Str))=false:=by decide) :
 PE X (.Subscript (.Name x p) i pos) (auU tab ty):=by
 intro pins s σ H Q I h
 obtain⟨es,n,hl,hk⟩:=D.ex
 refine aiW slot_dict_getitem.lookup hs (yG I hg hm (gf (hi pins s σ H _ I h) fun u s1 h1=>?_) hd)
 obtain⟨y,H1,I1,ry,k,v,rfl,hv,q⟩:=h1
 obtain⟨t,rfl⟩:=ry
 obtain⟨u',e,ru⟩:=D.at_ k v hv
 have hmap:=PySem.W.mapOf_K (prog:=X.prog) (w:=X.w) I1.wR hl hk
 exact⟨hmap.typeIs,wpAny_getItem_of (strKind_is X.prog X.w k t) hmap (PySem.W.find_K hl e) ⟨v,H1,I1.tok _,ru,q⟩⟩
end
def ahM:V->Option Value
 | .ty n=>some (.type n)
 | .ref a=>some (.ref a)
 | _=>none
def ax5(K:PySem.W.Frag):List V->Hp->VK->Prop:=fun xs H Q=>∃x c t b,xs=[x,c]/\Ky K H x t/\((∃cv,ahM c=some cv/\PySem.W.kitOne K t cv=some b)\/(∃a cs cvs,c=.ref a/\H a=some (.tup cs)/\cs.map ahM=cvs.map some/\PySem.W.kitAny K t cvs=some b))/\Q (.bl b) H
theorem afy:∀{cs:List V} {us:List Value} {cvs:List Value},Vals cs us->cs.map ahM=cvs.map some->us=cvs
 | [],_,[],.nil,_=>rfl
 | [],_,_::_,.nil,h=>by simp at h
 | c::cs,_,[],.cons _ _,h=>by simp at h
 | c::cs,_,cv::cvs,.cons r t,h=>by
   simp only[List.map_cons,List.cons.injEq]at h
   rw[afy t h.2]
   cases c with
   | ty n=>cases (show _=Value.type n from r);simp only[ahM,Option.some.injEq]at h;rw[h.1]
   | ref a=>cases (show _=Value.ref a from r);simp only[ahM,Option.some.injEq]at h;rw[h.1]
   | _=>simp[ahM]at h
section
variable{X:Cx}
theorem ahN{pins:List (Addr×Obj)}{σ:St}{H:Hp}{s:Shared}{A:Around}{E:Value->Shared->Prop}{Q:Value->Shared->Prop}{b:Bool}{x:V}{u t:Value}{a:Addr}{cs:List V}{cvs:List Value}(I:Inv X pins σ H s)(rx:RelV x u)(ty:Ky X.K H x t)
 (ha:H a=some (.tup cs)) (hcs:cs.map ahM=cvs.map some) (e:PySem.W.kitAny X.K t cvs=some b) (h:∀tk,Q (.bool b) {s with toks:=tk}):wpAny (model X.prog X.w) A (call (.builtin "isinstance") [u,.ref a]) Q E s:=by
 obtain⟨_,its,rv,p⟩:=(show fO X.prog X.w H s.heap a (.tup cs)from I.hok a _ ha)
 obtain⟨⟨oc,odd,odt,osl⟩,h1,h2,n,h3⟩:=p
 dsimp only at h2 h3
 subst h2 h3
 have ei:its=cvs:=afy rv hcs
 subst ei
 cases ty with
 | non=>cases (show u=Value.none from rx);exact PySem.W.kia_tup PySem.W.kitx_none I.wR True.intro h1 e (fun z=>nomatch z) h
 | bl y=>cases (show u=Value.bool y from rx);exact PySem.W.kia_tup PySem.W.kitx_bool I.wR True.intro h1 e (fun z=>nomatch z) h
 | int i=>obtain⟨t,q⟩:=(show ∃t,u=Value.int i t from rx);cases q;exact PySem.W.kia_tup PySem.W.kitx_int I.wR True.intro h1 e (fun z=>nomatch z) h
 | str y=>obtain⟨t,q⟩:=(show ∃t,u=Value.str y t from rx);cases q;exact PySem.W.kia_tup PySem.W.kitx_str I.wR True.intro h1 e (fun z=>nomatch z) h
 | flt y=>obtain⟨t,q⟩:=(show ∃t,u=Value.float y t from rx);cases q;exact PySem.W.kia_tup PySem.W.kitx_float I.wR True.intro h1 e (fun z=>nomatch z) h
 | @lst a xs ea =>
   cases (show u=Value.ref a from rx)
   obtain⟨_,_,n,_,h1'⟩:=(show fO X.prog X.w H s.heap a (.lst xs)from I.hok a _ ea)
   exact PySem.W.kia_tup PySem.W.kitx_list I.wR ⟨_,h1',rfl⟩ h1 e (fun z=>nomatch z) h
 | @frz a ob xs ea =>
   cases (show u=Value.ref a from rx)
   obtain⟨_,_,_,n,_,h1'⟩:=(show fO X.prog X.w H s.heap a (.frz ob (.lst xs))from I.hok a _ ea)
   exact PySem.W.kia_tup PySem.W.kitx_list I.wR ⟨_,h1',rfl⟩ h1 e (fun z=>nomatch z) h
 | @tup a xs ea =>
   cases (show u=Value.ref a from rx)
   obtain⟨_,_,_,p⟩:=(show fO X.prog X.w H s.heap a (.tup xs)from I.hok a _ ea)
   obtain⟨o,h1',h2,_⟩:=p
   exact PySem.W.kia_tup PySem.W.kitx_tuple I.wR ⟨o,h1',h2⟩ h1 e (fun z=>nomatch z) h
 | @dK a kvs ea =>
   cases (show u=Value.ref a from rx)
   obtain⟨_,_,vs,_,p⟩:=(show fO X.prog X.w H s.heap a (.dK kvs)from I.hok a _ ea)
   obtain⟨o,es,ep,h1',h2,_⟩:=p
   exact PySem.W.kia_tup PySem.W.kitx_dict I.wR ⟨o,h1',h2.1⟩ h1 e (fun z=>nomatch z) h
 | @dT a kvs ea =>
   cases (show u=Value.ref a from rx)
   obtain⟨_,_,xs,_,o,es,ep,h1',h2,_⟩:=(show fO X.prog X.w H s.heap a (.dT kvs)from I.hok a _ ea)
   exact PySem.W.kia_tup PySem.W.kitx_dict I.wR ⟨o,h1',h2.1⟩ h1 e (fun z=>nomatch z) h
 | @ins a C dx fs ea cl ha hn htk hm =>
   cases (show u=Value.ref a from rx)
   obtain⟨mA,O,_⟩:=Kw I.hok ea
   obtain⟨od,J,_⟩:=O.look
   exact PySem.W.kia_tup (PySem.W.kitx_own (cl.get _) cl.hd ha hn htk hm) I.wR J h1 e (fun z=>nomatch z) h
theorem lg:Rq X (.builtin "isinstance") (ax5 X.K):=by
 intro pins s σ H xs us Q I r h
 obtain⟨x,c,t,b,rfl,ty,hc,q⟩:=h
 obtain⟨u,v,rfl,ru,rv⟩:=r.two
 have fin:∀tk,EP X pins σ Q (.bool b) {s with toks:=tk}:=fun tk=>⟨.bl b,H,I.tok _,rfl,q⟩
 rcases hc with ⟨cv,e1,e2⟩ | ⟨a,cs,cvs,rfl,e1,e2,e3⟩
 ·have ev:v=cv:=by
   cases c with
   | ty n=>cases (show v=Value.type n from rv);exact Option.some.inj e1
   | ref a=>cases (show v=Value.ref a from rv);exact Option.some.inj e1
   | _=>cases e1
  subst ev
  exact ajS I ru ty e2 fin
 ·cases (show v=Value.ref a from rv)
  exact ahN I ru ty e1 e2 e3 fin
end
end L2
namespace L2
open PySem PySem.Spec PyProof.Rows
section
variable{X:Cx}
theorem arb{K:PySem.W.Frag}{w:World}{a:Addr}{es:Array DictEntry}{n:Nat}{x0 x1 x2:Str}{i0 i1 i2:Int}{t0 t1 t2:Tok}(hl:K.lookup a=some ⟨.type "dict",none,.dict es n,#[]⟩) (hk:PySem.W.KeysLit w.params es.toList)
 (h0:PySem.W.nsIn K a x0=some (some (.int i0 t0))) (h1:PySem.W.nsIn K a x1=some (some (.int i1 t1))) (h2:PySem.W.nsIn K a x2=some (some (.int i2 t2))):KDict K w a [(x0,.int i0),(x1,.int i1),(x2,.int i2)]:=by
 refine⟨⟨es,n,hl,hk⟩,fun x v e=>?_⟩
 rw[List.lookup_cons]at e
 split at e
 ·rename_i q
  cases e
  rw[beq_iff_eq]at q
  subst q
  exact⟨_,h0,t0,rfl⟩
 ·rw[List.lookup_cons]at e
  split at e
  ·rename_i q
   cases e
   rw[beq_iff_eq]at q
   subst q
   exact⟨_,h1,t1,rfl⟩
  ·rw[List.lookup_cons]at e
   split at e
   ·rename_i q
    cases e
    rw[beq_iff_eq]at q
    subst q
    exact⟨_,h2,t2,rfl⟩
   ·cases e
end
end L2
namespace L2
open PySem PySem.Spec PyProof.Rows
theorem arc{K:PySem.W.Frag}:PySem.W.kitOne K (.type "int") (.type "int")=some true:=by rfl
theorem ard{K:PySem.W.Frag}:PySem.W.kitOne K (.type "int") (.type "bool")=some false:=by kernel_rfl
theorem alr{K:PySem.W.Frag}:PySem.W.kitOne K (.type "str") (.type "str")=some true:=by rfl
theorem kit_is{K:PySem.W.Frag}:PySem.W.kitOne K (.type "int") (.type "str")=some false:=by kernel_rfl
theorem als{K:PySem.W.Frag}:PySem.W.kitOne K (.type "list") (.type "list")=some true:=by rfl
theorem alu{K:PySem.W.Frag}:PySem.W.kitOne K (.type "tuple") (.type "list")=some false:=by kernel_rfl
theorem alv{K:PySem.W.Frag}:PySem.W.kitOne K (.type "list") (.type "tuple")=some false:=by kernel_rfl
theorem ahO{K:PySem.W.Frag}:PySem.W.kitOne K (.type "tuple") (.type "tuple")=some true:=by rfl
theorem arf{K:PySem.W.Frag}:PySem.W.kitAny K (.type "list") [.type "list",.type "tuple"]=some true:=by kernel_rfl
theorem kit_at{K:PySem.W.Frag}:PySem.W.kitAny K (.type "tuple") [.type "list",.type "tuple"]=some true:=by kernel_rfl
theorem arh{K:PySem.W.Frag}:PySem.W.kitAny K (.type "int") [.type "list",.type "tuple"]=some false:=by kernel_rfl
theorem ari{K:PySem.W.Frag}:PySem.W.kitAny K (.type "str") [.type "list",.type "tuple"]=some false:=by kernel_rfl
theorem arj{K:PySem.W.Frag}:PySem.W.kitAny K (.type "NoneType") [.type "list",.type "tuple"]=some false:=by kernel_rfl
end L2
namespace L2
open PySem PySem.Spec PyProof.Rows
section
variable{prog:Program}{w:World}{A:Around}{E:Value->Shared->Prop}{h:Heap}{g:Array GenState}{d:Drawn}{t:Nat}{os:OsState}{a:Addr}{o:Obj}
 {nm q:Str} {C N:Addr} {bs bm bmB:List Value} {hdct:Bool} {sn:List Str} {sub:List Value} {ab:Bool} {col:Option Bool} {dd:Option Addr} {k0 k1 k2 k3 k5:Option Value} {B newId:String} {mN:Str->Option Value}
end
structure KY(K:PySem.W.Frag)(C:Addr):Prop where
 cl:PySem.W.findIn K (.ref C) "__class__"=some (some (.builtin "object.__class__"))
 ga:PySem.W.findIn K (.ref C) "__getattribute__"=some (some (.builtin "BaseException.__getattribute__"))
 gt:PySem.W.findIn K (.ref C) "__getattr__"=some none
end L2
namespace L2
open PySem PySem.Spec PyProof.Rows
section
variable{X:Cx}{pins:List (Addr×Obj)}{σ:List (Option V)}{H:Hp}{s:Shared}{h':Heap}
theorem Inv.aj3{t':Nat}{e it p:Addr}{vs:List V}(I:Inv X pins σ H s)(k:∀b o,b≠e->b≠it->s.heap.get? b=some o->h'.get? b=some o)(fe:Ku X pins H e)(fi:Ku X pins H it)(hp:s.heap.objs.size<=p)
 (new:fO X.prog X.w (upd H p (.tup vs)) h' p (.tup vs)):Inv X pins σ (upd H p (.tup vs)) {s with heap:=h',toks:=t'}:=by
 have ne:∀b u,H b=some u->b≠e:=fun b u q z=>by rw[z,fe.1]at q;cases q
 have ni:∀b u,H b=some u->b≠it:=fun b u q z=>by rw[z,fi.1]at q;cases q
 have hn:H p=none:=I.hok.fresh hp
 have kc:∀b o,b∉[e,it]->s.heap.get? b=some o->h'.get? b=some o:=fun b o hc q=>k b o (fun z=>hc (by simp[z])) (fun z=>hc (by simp[z])) q
 have old:∀b u,H b=some u->upd H p (.tup vs) b=some u:=fun b u q=>by rw[az (aG q hn)];exact q
 refine I.step (g':=s.gens) (d':=s.drawn) (ch:=[e,it]) (fun b hb=>?_) (fun b o _ _ hc q _=>kc b o hc q) (fun b o _ _ hc q _=>⟨o.slots,kc b o hc q⟩) (fun b o _ q n=>?_)
  (fun b o hc q=>⟨o,kc b o hc q⟩) (fun b xs q=>old b _ q) (fun b o u q=>old b _ q) (fun b ps q=>⟨#[],by rw[old b _ q];simp⟩) (fun m hm=>?_) (fun b u q=>?_) I.bare
 ·rcases List.mem_cons.mp hb with z | z
  ·subst z;exact⟨fe.2.2.2.1,fe.2.1,fe.2.2.2.2.1,fe.2.2.2.2.2⟩
  ·have z':b=it:=by simpa using z
   subst z';exact⟨fi.2.2.2.1,fi.2.1,fi.2.2.2.2.1,fi.2.2.2.2.2⟩
 ·rw[az (Nat.ne_of_lt (Nat.lt_of_lt_of_le (Heap.lt_size q) hp))];exact n
 ·obtain⟨o,es,ep,ho,r⟩:=hm
  exact⟨o,es,ep,k _ o (Ne.symm fe.2.1) (Ne.symm fi.2.1) ho,r⟩
 ·by_cases hb:b=p
  ·subst hb;rw[aj]at q;cases q;exact new
  ·rw[az hb]at q
   refine(I.hok b u q).stay (fun c v hc r=>?_) (fun c r=>old c _ r) fun c xs r=>old c _ r
   rcases hc with z | z
   ·rw[z]at r ⊢;exact k b v (ne b u q) (ni b u q) r
   ·exact k c v (ne c _ z) (ni c _ z) r
theorem Inv.anH{t':Nat}{e it:Addr}(I:Inv X pins σ H s)(k:∀b o,b≠e->b≠it->s.heap.get? b=some o->h'.get? b=some o)(fe:Ku X pins H e)(fi:Ku X pins H it):Inv X pins σ H {s with heap:=h',toks:=t'}:=by
 have ne:∀b u,H b=some u->b≠e:=fun b u q z=>by rw[z,fe.1]at q;cases q
 have ni:∀b u,H b=some u->b≠it:=fun b u q z=>by rw[z,fi.1]at q;cases q
 have kc:∀b o,b∉[e,it]->s.heap.get? b=some o->h'.get? b=some o:=fun b o hc q=>k b o (fun z=>hc (by simp[z])) (fun z=>hc (by simp[z])) q
 refine I.step (g':=s.gens) (d':=s.drawn) (ch:=[e,it]) (fun b hb=>?_) (fun b o _ _ hc q _=>kc b o hc q) (fun b o _ _ hc q _=>⟨o.slots,kc b o hc q⟩) (fun _ _ _ _ n=>n)
  (fun b o hc q=>⟨o,kc b o hc q⟩) (fun _ _ q=>q) (fun _ _ _ q=>q) (fun b ps q=>⟨#[],by rw[q];simp⟩) (fun m hm=>?_) (fun b u q=>?_) I.bare
 ·rcases List.mem_cons.mp hb with z | z
  ·subst z;exact⟨fe.2.2.2.1,fe.2.1,fe.2.2.2.2.1,fe.2.2.2.2.2⟩
  ·have z':b=it:=by simpa using z
   subst z';exact⟨fi.2.2.2.1,fi.2.1,fi.2.2.2.2.1,fi.2.2.2.2.2⟩
 ·obtain⟨o,es,ep,ho,r⟩:=hm
  exact⟨o,es,ep,k _ o (Ne.symm fe.2.1) (Ne.symm fi.2.1) ho,r⟩
 ·refine(I.hok b u q).stay (fun c v hc r=>?_) (fun _ q=>q) fun _ _ q=>q
  rcases hc with z | z
  ·rw[z]at r ⊢;exact k b v (ne b u q) (ni b u q) r
  ·exact k c v (ne c _ z) (ni c _ z) r
end
def Ite(K:PySem.W.Frag)(a:Addr):It :=
 ⟨fun i H=>∃xs x,cu K H a xs/\xs[i]? = some x,fun i H x H'=>∃p,H p=none/\x=.ref p/\∃y,(∀xs,cu K H a xs->xs[i]? = some y)/\H'=upd H p (.tup [.int i,y]),fun i H=>∃xs,cu K H a xs/\xs.length<=i⟩
theorem aj4{P:Program}{w:World}{K:PySem.W.Frag}{elts:List Expr}{x1}{pos:Pos}(a e it:Addr)(hne:e≠it):Turn P w K (.Tuple elts x1 pos) (Ite K a) [e,it] e (fun i h=>(∃old,IsEnum h e it (i:Nat) old)/\h.IsListIter it a i) where
 mem:=by simp
 obj:=fun i h st b hb=>by
  obtain⟨⟨old,he⟩,o,ho,c,d⟩:=st
  rcases List.mem_cons.mp hb with z | z
  ·subst z;exact⟨_,he,fun v z=>by cases z⟩
  ·have z':b=it:=by simpa using z
   subst z';exact⟨o,ho,fun v z=>by rw[d]at z;cases z⟩
 keep:=fun i h h' st k=>⟨st.1.elim fun old he=>⟨old,k e (by simp) _ he⟩,st.2.at fun o q=>k it (by simp) o q⟩
 item:=by
  intro X hP hw hK hc i pins s σ H E I hf st hg
  subst hP hw hK
  obtain⟨xs,x,hq,hx⟩:=hg
  obtain⟨⟨old,he⟩,hit⟩:=st
  obtain⟨its,rv,p,hz⟩:=I.list hq
  obtain⟨u,hu,ru⟩:=rv.get hx
  have fe:=hf e (by simp)
  have fi:=hf it (by simp)
  have hes:e<s.heap.objs.size:=Heap.lt_size he
  have his:it<s.heap.objs.size:=by obtain⟨o,ho,_⟩:=hit;exact Heap.lt_size ho
  refine wpAny_pyNext_enum_item he hit p.isList (x:=u) (by simpa using hu) hne fun h1 heo hit1 ht1 hz1 hk1=>?_
  refine⟨_,rfl,wpAny_letOwnedTupleGo_enum heo fun h2 he2 hs2=>?_⟩
  have ark:Heap.SameBut e h1 h2:=hs2
  have ht2:h2.get? s.heap.objs.size=some {cls:=.type "tuple",data:=.seq #[.int i s.toks,u]}:=(ark.2 _ (Nat.ne_of_gt hes)).trans ht1
  have I2:Inv X pins σ (upd H s.heap.objs.size (.tup [.int i,x])) {s with heap:=h2,toks:=s.toks+1}:=by
   refine I.aj3 (fun b o h3 h4 q=>(ark.2 b h3).trans (hk1 b o h3 h4 q)) fe fi (Nat.le_refl _) ?_
   exact⟨uA,[.int i s.toks,u],.cons ⟨_,rfl⟩ (.cons ru .nil),⟨_,ht2,rfl,_,rfl⟩⟩
  have hn:=I.fresh
  refine⟨.ref s.heap.objs.size,_,I2,rfl,⟨s.heap.objs.size,hn,rfl,x,fun ys hy=>by rw[I.afg hy hq];exact hx,rfl⟩,⟨⟨u,?_⟩,?_⟩,fun b hb=>?_⟩
  ·have z:((i+1:Nat):Int)=(i:Int)+1:=by push_cast;rfl
   rw[z];exact he2
  ·exact hit1.extBut ark.extBut (Ne.symm hne)
  ·rw[az]
   ·exact(hf b hb).1
   ·rcases List.mem_cons.mp hb with z | z
    ·subst z;exact Nat.ne_of_lt hes
    ·have z':b=it:=by simpa using z
     subst z';exact Nat.ne_of_lt his
 done:=by
  intro X hP hw hK hc i pins s σ H E I hf st hg
  subst hP hw hK
  obtain⟨xs,hq,hx⟩:=hg
  obtain⟨⟨old,he⟩,hit⟩:=st
  obtain⟨its,rv,p,hz⟩:=I.list hq
  have hl:=rv.length
  exact wpAny_pyNext_enum_end (I.ok.hd hc) he hit p.isList (by simp;lia) fun h' eb=>⟨rfl,I.anH (t':=s.toks) (fun b o _ h2 q=>eb b o h2 q) (hf e (by simp)) (hf it (by simp))⟩
 self:=fun _ _ _ _ _ st h=>st.1.elim fun _ he=>wpAny_pyIter_enum he h
section
variable{X:Cx}
def auV(K:PySem.W.Frag)(tl:TA):TI:=fun σ H R=>tl σ H fun vs H1=>∃a,vs=[.ref a]/\(∃xs,cu K H1 a xs)/\R (Ite K a) H1
theorem ai3{elts:List Expr}{x1}{tpos:Pos}{a:Expr}{ta:TA}{p pos:Pos}(hg:Gl X "enumerate") (hm:X.mg "enumerate"=none) (ha:PA X [a] ta) (hs:starEach [a] X.env=[(false,eval a X.env)]:=by rfl) :
 PI X (.Tuple elts x1 tpos) (.Call (.Name "enumerate" p) [a] [] pos) (auV X.K ta):=by
 intro pins s σ H R I h
 refine Call_ (V7 I hg hm PyProof.Rows.Boot.«enumerate» (PyProof.Rows.callWith_type1 (gf (ha pos pins s σ H _ I h) fun us s1 hz=>kE hz fun vs H1 I1 r1 q1=>?_) hs rfl))
 obtain⟨l,e,⟨xs,hq⟩,q⟩:=q1
 subst e
 cases r1 with
 | cons r rr =>
   cases rr
   cases r
   obtain⟨its,rv,pl,hz⟩:=I1.list hq
   refine call_enumerate_list pl.isList fun h2 he hit hsz hk=>?_
   refine wpAny_pyIter_enum he ?_
   have hne:s1.heap.objs.size+1≠s1.heap.objs.size:=Nat.succ_ne_self _
   refine⟨s1.heap.objs.size+1,[s1.heap.objs.size+1,s1.heap.objs.size],_,_,H1,rfl,I1.kept (t':=s1.toks) hk,aj4 l _ _ hne,⟨⟨_,he⟩,hit⟩,fun b hb=>?_,q⟩
   rcases List.mem_cons.mp hb with z | z
   ·subst z;exact I1.ant (Nat.le_succ _) (I1.hok.fresh (Nat.le_succ _))
   ·have z':b=s1.heap.objs.size:=by simpa using z
    subst z';exact I1.ant (Nat.le_refl _) (I1.hok.fresh (Nat.le_refl _))
end
theorem abG{K:PySem.W.Frag}{a acc:Addr}{xs:List V}{g:TG}{tc:TT}{te:TE}{σ:St}{H1:Hp}{Q:VK}(Pv:Nat->List V->St->Hp->Prop)(h0:Pv 0 [] σ (upd H1 acc (.lst [])))
 (hl:∀i zs σ H,i<=xs.length->Pv i zs σ H->cu K H a xs/\H acc=some (.lst zs))
 (hs:∀i x zs σ H p,xs[i]? = some x->i<xs.length->Pv i zs σ H->H p=none->g (.ref p) σ (upd H p (.tup [.int i,x])) fun σ4 H4=>tc σ4 H4 fun b H5=>if b=true then te σ4 H5 (wY xs.length acc Pv i zs σ4)else KR xs.length Pv i zs σ4 H5)
 (hd:∀zs σ H,Pv xs.length zs σ H->Q (.ref acc) H):DN (Ite K a) g tc te σ acc H1 Q:=by
 refine⟨fun i m zs σ H=>m=xs.length - i/\i<=xs.length/\Pv i zs σ H,⟨_,rfl,Nat.zero_le _,h0⟩,?_⟩
 rintro i m zs σ H2 ⟨rfl,hi,p⟩
 obtain⟨q,ha⟩:=hl i zs σ H2 hi p
 refine⟨ha,?_⟩
 by_cases hlt:i<xs.length
 ·refine .inr ⟨⟨xs,xs[i],q,by simp[hlt]⟩,fun y H3 yl=>?_⟩
  obtain⟨b,hb,e,x,hx,e3⟩:=yl
  subst e e3
  exact hs i x zs σ _ b (hx xs q) hlt p hb
 ·have e:i=xs.length:=by lia
  subst e
  exact .inl ⟨⟨xs,q,Nat.le_refl _⟩,hd zs σ H2 p⟩
end L2
namespace gH
open PySem L2
inductive Rt where
 | no | rd | wr
 deriving DecidableEq
def Rt.s:Rt->Str
 | .no=>"none"
 | .rd=>"read"
 | .wr=>"write"
def Rt.k:Rt->Int
 | .no=>0
 | .rd=>1
 | .wr=>2
theorem Rt.auW:∀{a b:Rt},a.s=b.s->a=b
 | .no,.no,_=>rfl
 | .no,.rd,h=>absurd h (by decide +kernel)
 | .no,.wr,h=>absurd h (by decide +kernel)
 | .rd,.no,h=>absurd h (by decide +kernel)
 | .rd,.rd,_=>rfl
 | .rd,.wr,h=>absurd h (by decide +kernel)
 | .wr,.no,h=>absurd h (by decide +kernel)
 | .wr,.rd,h=>absurd h (by decide +kernel)
 | .wr,.wr,_=>rfl
theorem nQ{r q:Rt}{x:Str}(e:x=q.s)(h:r≠q):decide (V.str r.s=V.str x)=false:=decide_eq_false fun z=>h (Rt.auW ((V.str.inj z).trans e))
theorem aP{c:Bool}{A B:Prop}(h:c=false)(hb:B):if c=true then A else B:=by rw[h];exact uB hb
theorem bH{c:Bool}{A B:Prop}(h:c=true)(ha:A):if c=true then A else B:=by rw[h];exact mG ha
inductive W where
 | look (p:Int) | put (p n:Int)
def W.pg:W->Int
 | .look p=>p
 | .put p _=>p
def W.need:W->Rt
 | .look _=>.rd
 | .put _ _=>.wr
def W.tag:W->Str
 | .look _=>"look"
 | .put _ _=>"put"
def W.vs:W->List V
 | .look p=>[.str "look",.int p]
 | .put p n=>[.str "put",.int p,.int n]
structure DS where
 rt:Int->Rt
 nm:Int->Int
 ws:Option W
def DS.hold(S:DS)(p:Int)(r:Rt)(n:Int):DS:={S with rt:=fun q=>if q=p then r else S.rt q,nm:=fun q=>if q=p then n else S.nm q}
theorem DS.acp(S:DS)(p:Int)(r:Rt)(n:Int):(S.hold p r n).rt p=r:=by unfold DS.hold;dsimp only;rw[if_pos rfl]
theorem DS.ai4(S:DS)(p:Int)(r:Rt)(n:Int):(S.hold p r n).nm p=n:=by unfold DS.hold;dsimp only;rw[if_pos rfl]
theorem DS.afz(S:DS){p q:Int}(r:Rt)(n:Int)(h:q≠p):(S.hold p r n).rt q=S.rt q:=by unfold DS.hold;dsimp only;rw[if_neg h]
theorem DS.afA(S:DS){p q:Int}(r:Rt)(n:Int)(h:q≠p):(S.hold p r n).nm q=S.nm q:=by unfold DS.hold;dsimp only;rw[if_neg h]
def DS.ok(S:DS)(w:W):Prop:=w.need.k<=(S.rt w.pg).k
instance (S:DS) (w:W):Decidable (S.ok w):=inferInstanceAs (Decidable (_<=_))
def DS.done(S:DS):W->DS
 | .look _=>S
 | .put p n=>S.hold p (S.rt p) n
def DS.num(S:DS):W->Int
 | .look p=>S.nm p
 | .put _ n=>n
def DS.tell(S:DS)(p:Int):V:=if S.rt p=.wr then .int (S.nm p)else .non
def rT(H:Hp)(v:V):Option W->Prop
 | none=>v=.non
 | some w=>∃a,v=.ref a/\H a=some (.tup w.vs)
def rW(H:Hp)(o:Option V)(r:Rt)(n:Int):Prop:=if r=.no then o=none else ∃t,o=some (.ref t)/\H t=some (.tup [.str r.s,.int n])
theorem cw:¬(("copies":Str)="wish"):=by decide +kernel
def BX(d:Addr)(v:V):List (Str×V):=f9 "wish" v (f9 "copies" (.ref d) [])
theorem acq(d:Addr)(v:V):BX d v=([("copies",V.ref d),("wish",v)]:List (Str×V)):=by
 show(if("copies":Str)="wish" then [(("copies":Str),v)]else(("copies":Str),V.ref d)::f9 "wish" v [])=([("copies",V.ref d),("wish",v)]:List (Str×V))
 rw[if_neg cw]
 all_goals rfl
theorem jR(d:Addr)(v:V):(BX d v).lookup ("copies":Str)=some (.ref d):=by
 unfold BX
 rw[jO,if_neg cw,jO,if_pos rfl]
theorem abH(d:Addr)(v:V):(BX d v).lookup ("wish":Str)=some v:=by
 unfold BX
 rw[jO,if_pos rfl]
theorem eO(d:Addr)(v:V){m:Str}(h1:¬m="wish") (h2:¬m="copies"):(BX d v).lookup m=none:=by
 unfold BX
 rw[jO,if_neg h1,jO,if_neg h2]
 all_goals rfl
theorem afB(d:Addr)(v u:V):f9 "wish" u (BX d v)=BX d u:=by
 rw[acq,acq]
 show(if("copies":Str)="wish" then _ else(("copies":Str),V.ref d)::(if("wish":Str)="wish" then [(("wish":Str),u)]else _))=([("copies",V.ref d),("wish",u)]:List (Str×V))
 rw[if_neg cw,if_pos rfl]
theorem afC(d:Addr)(v:V):(BX d v).length=2:=by rw[acq];rfl
structure cz(C:Addr)(H:Hp)(p d:Addr)(S:DS)(c:Nat):Prop where
 ob:∃dx v,H p=some (.ins C dx (BX d v))/\rT H v S.ws
 dc:∃kvs,H d=some (.dK kvs)/\kvs.length<=c/\∀n:Int,rW H (fP kvs (Sum.inl n:Key)) (S.rt n) (S.nm n)
def DF(H H':Hp)(p d:Addr):Prop:=∀b o,H b=some o->b≠p->b≠d->H' b=some o
theorem DF.refl(H:Hp)(p d:Addr):DF H H p d:=fun _ _ h _ _=>h
theorem DF.trans{H H1 H2:Hp}{p d:Addr}(a:DF H H1 p d)(b:DF H1 H2 p d):DF H H2 p d:=fun c o h h1 h2=>b c o (a c o h h1 h2) h1 h2
theorem cz.npd{C:Addr}{H:Hp}{p d:Addr}{S:DS}{c:Nat}(D:cz C H p d S c):p≠d:=by
 obtain⟨⟨dx,v,h1,_⟩,⟨kvs,h2,_⟩⟩:=D
 exact jq h1 h2 (by intro z;cases z)
theorem cz.mono{C:Addr}{H:Hp}{p d:Addr}{S:DS}{c c':Nat}(D:cz C H p d S c)(h:c<=c'):cz C H p d S c':=by
 obtain⟨o,⟨kvs,h2,h3,h4⟩⟩:=D
 exact⟨o,⟨kvs,h2,Nat.le_trans h3 h,h4⟩⟩
theorem rT.aX{H H':Hp}(h:b8 H H'){v:V}{o:Option W}(w:rT H v o):rT H' v o:=by
 cases o with
 | none=>exact w
 | some w' =>
   obtain⟨a,e,ha⟩:=w
   exact⟨a,e,h a _ ha⟩
theorem rW.aX{H H':Hp}(h:b8 H H'){o:Option V}{r:Rt}{n:Int}(w:rW H o r n):rW H' o r n:=by
 unfold rW at w ⊢
 split
 ·rename_i e;rw[if_pos e]at w;exact w
 ·rename_i e
  rw[if_neg e]at w
  obtain⟨t,e,ha⟩:=w
  exact⟨t,e,h t _ ha⟩
theorem cz.keep{C:Addr}{H H':Hp}{p d:Addr}{S:DS}{c:Nat}(D:cz C H p d S c)(h:b8 H H')(hp:∀o,H p=some o->H' p=some o)(hd:∀o,H d=some o->H' d=some o):cz C H' p d S c:=by
 obtain⟨⟨dx,v,h1,h2⟩,⟨kvs,h3,h4,h5⟩⟩:=D
 exact⟨⟨dx,v,hp _ h1,h2.aX h⟩,⟨kvs,hd _ h3,h4,fun n=>(h5 n).aX h⟩⟩
theorem cz.same{C:Addr}{H H':Hp}{p d:Addr}{S:DS}{c:Nat}(D:cz C H p d S c)(h:bY H H'):cz C H' p d S c:=D.keep (fun b xs e=>h b _ e) (fun o e=>h p o e) fun o e=>h d o e
theorem DF.tups{C:Addr}{H H':Hp}{p d:Addr}{S:DS}{c:Nat}(D:cz C H p d S c)(h:DF H H' p d):b8 H H':=fun b xs e=>by
 obtain⟨⟨dx,v,h1,_⟩,⟨kvs,h2,_⟩⟩:=D
 exact h b _ e (jq e h1 (by intro z;cases z)) (jq e h2 (by intro z;cases z))
theorem DF.seqs{C:Addr}{H H':Hp}{p d:Addr}{S:DS}{c:Nat}(D:cz C H p d S c)(h:DF H H' p d):uF H H':=⟨h.tups D,fun b xs e=>by
 obtain⟨⟨dx,v,h1,_⟩,⟨kvs,h2,_⟩⟩:=D
 exact h b _ e (jq e h1 (by intro z;cases z)) (jq e h2 (by intro z;cases z))⟩
theorem acr{H:Hp}{a:Addr}{o:HO}(h:H a=none):b8 H (upd H a o):=fun b xs e=>by rw[az (aG e h)];exact e
theorem uG{H:Hp}{a:Addr}{o:HO}(h:H a=none):uF H (upd H a o):=⟨acr h,fun b xs e=>by rw[az (aG e h)];exact e⟩
theorem aB{H:Hp}{a:Addr}{o:HO}(h:H a=none):bY H (upd H a o):=fun b u e=>by rw[az (aG e h)];exact e
theorem DF.new{H:Hp}{p d a:Addr}{o:HO}(h:H a=none):DF H (upd H a o) p d:=fun b u e _ _=>aB h b u e
theorem anI{H:Hp}{a:Addr}{xs:List V}{ds:List D}(h:H a=none)(r:aH H xs ds):Rep (upd H a (.tup xs)) (.ref a) (.t ds):=by
 simp only[Rep]
 exact⟨a,xs,rfl,aj,r.mono (uG h)⟩
def nw(H H':Hp):Hp:=fun b=>match H b with
 | none=>H' b
 | some (.tup _)=>H' b
 | some _=>none
theorem mH{H H':Hp}{b:Addr}{o:HO}(h:nw H H' b=some o):H' b=some o/\(H b=none\/∃xs,H b=some (.tup xs)):=by
 unfold nw at h
 split at h
 ·rename_i e;exact⟨h,.inl e⟩
 ·rename_i xs e;exact⟨h,.inr ⟨xs,e⟩⟩
 ·cases h
theorem Wr{H H':Hp}{b:Addr}{o:HO}(h:H' b=some o)(q:H b=none\/∃xs,H b=some (.tup xs)):nw H H' b=some o:=by
 unfold nw
 rcases q with e | ⟨xs,e⟩<;>rw[e]<;>exact h
theorem ahP{H H':Hp}:uF (nw H H') H':=⟨fun _ _ h=>(mH h).1,fun _ _ h=>(mH h).1⟩
theorem uH{H H1 H2:Hp}(h:uF H1 H2):uF (nw H H1) (nw H H2):=⟨fun b xs e=>Wr (h.1 b xs (mH e).1) (mH e).2,fun b xs e=>Wr (h.2 b xs (mH e).1) (mH e).2⟩
theorem wZ{H H1:Hp}{a:Addr}{xs:List V}{ds:List D}(hH:H a=none)(h:H1 a=none)(r:aH (nw H H1) xs ds):Rep (nw H (upd H1 a (.tup xs))) (.ref a) (.t ds):=by
 simp only[Rep]
 exact⟨a,xs,rfl,Wr aj (.inl hH),r.mono (uH (uG h))⟩
theorem jT{H H1:Hp}{a:Addr}{xs:List V}{ds:List D}(hH:H a=none)(h:H1 a=none)(r:aH (nw H H1) xs ds):Rep (nw H (upd H1 a (.lst xs))) (.ref a) (.l ds):=by
 simp only[Rep]
 exact⟨a,xs,rfl,Wr aj (.inl hH),r.mono (uH (uG h))⟩
def Kept(H H1:Hp):Prop:=∀b o,H b=some o->∃o',H1 b=some o'/\((∀xs,o≠.tup xs)->∀xs,o'≠.tup xs)
theorem Kept.free{H H1:Hp}(h:Kept H H1){a:Addr}(e:H1 a=none):H a=none:=by
 cases q:H a with
 | none=>rfl
 | some o=>obtain⟨o',z,_⟩:=h a o q;rw[e]at z;cases z
theorem Kept.tup{H H1:Hp}(h:Kept H H1){b:Addr}{xs:List V}(e:H1 b=some (.tup xs)):H b=none\/∃ys,H b=some (.tup ys):=by
 cases q:H b with
 | none=>exact .inl rfl
 | some o =>
   obtain⟨o',z,y⟩:=h b o q
   by_cases ht:∃xs,o=.tup xs
   ·obtain⟨ys,rfl⟩:=ht;exact .inr ⟨ys,rfl⟩
   ·rw[e]at z;cases z
    exact absurd rfl (y (fun ys z=>ht ⟨ys,z⟩) xs)
theorem Kept.refl(H:Hp):Kept H H:=fun b o e=>⟨o,e,fun h=>h⟩
theorem Kept.new{H H1:Hp}(h:Kept H H1){a:Addr}{o:HO}(e:H1 a=none):Kept H (upd H1 a o):=fun b u q=>by
 obtain⟨o',z,y⟩:=h b u q
 exact⟨o',by rw[az (aG z e)];exact z,y⟩
theorem DF.kept{C:Addr}{H H':Hp}{p d:Addr}{S S':DS}{c c':Nat}(D:cz C H p d S c)(D':cz C H' p d S' c')(h:DF H H' p d):Kept H H':=fun b o e=>by
 by_cases hp:b=p
 ·subst hp
  obtain⟨⟨dx,v,h1,_⟩,_⟩:=D'
  exact⟨_,h1,fun _ xs z=>by cases z⟩
 ·by_cases hd:b=d
  ·subst hd
   obtain⟨_,⟨kvs,h2,_⟩⟩:=D'
   exact⟨_,h2,fun _ xs z=>by cases z⟩
  ·exact⟨o,h b o e hp hd,fun z=>z⟩
inductive Let where
 | lend (p:Int) (r:Rt) (n:Int) | back (p:Int) (r:Rt)
def Let.vs:Let->List V
 | .lend p r n=>[.str "lend",.int p,.str r.s,.int n]
 | .back p r=>[.str "back",.int p,.str r.s]
def Let.d:Let->D
 | .lend p r n=>.t [.s "lend",.i p,.s r.s,.i n]
 | .back p r=>.t [.s "back",.i p,.s r.s]
def Ws:V->D
 | .int k=>.i k
 | _=>.n
def DS.gj(S:DS)(p:Int)(r:Rt)(n:Int):DS×List D :=
 let S1:=S.hold p r n
 match S.ws with
 | none=>(S1,[])
 | some w=>if w.pg=p/\S1.ok w then(({S1 with ws:=none}:DS).done w,[.t [.s w.tag,.i w.pg,.i (S1.num w)]])else(S1,[])
def DS.down(S:DS)(p:Int)(r:Rt):DS:=if(S.rt p).k<=r.k then S else S.hold p r (S.nm p)
def DS.take(S:DS):Let->DS×D
 | .lend p r n=>((S.gj p r n).1,.t [.l (S.gj p r n).2,.l []])
 | .back p r=>(S.down p r,.t [.l [],.l [.t [.s "answer",.i p,Ws (S.tell p)]]])
def DS.want(S:DS)(w:W):DS×D:=if S.ok w then(S.done w,.t [.l [.t [.s w.tag,.i w.pg,.i (S.num w)]],.l []])else({S with ws:=some w},.t [.l [],.l [.t [.s "ask",.i w.pg,.s w.need.s]]])
def DS.rest(S:DS)(p:Int):DS×D:=(S.hold p .no (S.nm p),.l (if S.rt p=.wr then [.t [.s "gave",.i p,.i (S.nm p)]]else []))
def afD(tag:Str):Sp:=fun vs H Q _=>∃x y,vs=[x,y]/\∀a,H a=none->Q (.ref a) (upd H a (.tup [.str tag,x,y]))
def alw:Sp:=fun vs H Q _=>∃r n:Rt,vs=[.str r.s,.str n.s]/\Q (.bl (decide (n.k<=r.k))) H
def arl(K:PySem.W.Frag):Sp:=fun vs H Q _=>∃a w,vs=[.ref a]/\H a=some (.tup (W.vs w))/\Q (.str w.need.s) H
def arn(C:Addr):Sp:=fun vs H Q _=>∃p dx,vs=[.ref p]/\H p=some (.ins C dx [])/\∀d H',H d=none->cz C H' p d ⟨fun _=>.no,fun _=>0,none⟩ 0->(∀b o,H b=some o->b≠p->H' b=some o)->Q .non H'
def anJ(C:Addr):Sp:=fun vs H Q _=>∃p d S c n,vs=[.ref p,.int n]/\cz C H p d S c/\Q (.str (S.rt n).s) H
def anK(C:Addr):Sp:=fun vs H Q _=>∃p d S c,vs=[.ref p]/\cz C H p d S c/\Q (.bl S.ws.isSome) H
def auX(C:Addr):Sp:=fun vs H Q _=>∃p d S c a w,vs=[.ref p,.ref a]/\cz C H p d S c/\H a=some (.tup (W.vs w))/\Q (.bl (decide (S.ok w))) H
def aro(C:Addr):Sp:=fun vs H Q _=>∃p d S c n,vs=[.ref p,.int n]/\cz C H p d S c/\Q (S.tell n) H
def arp(C:Addr):Sp:=fun vs H Q _=>∃p d S c n r k v,vs=[.ref p,.int n,.str (Rt.s r),v]/\cz C H p d S c/\c<=1000000/\(r=.no\/v=.int k)/\∀H',cz C H' p d (S.hold n r k) (c+1)->DF H H' p d->Q .non H'
def ax7(C:Addr):Sp:=fun vs H Q _=>∃p d S c a w,vs=[.ref p,.ref a]/\cz C H p d S c/\c<=1000000/\H a=some (.tup (W.vs w))/\S.ok w/\
 ∀t H',cz C H' p d (S.done w) (c+1)->DF H H' p d->H' t=some (.tup [.str w.tag,.int w.pg,.int (S.num w)])->Q (.ref t) H'
def arq(C:Addr):Sp:=fun vs H Q _=>∃p d S c n r k,vs=[.ref p,.int n,.str (Rt.s r),.int k]/\cz C H p d S c/\c<=900000/\
 ∀v H',cz C H' p d (S.gj n r k).1 (c+2)->DF H H' p d->Rep (nw H H') v (.l (S.gj n r k).2)->Q v H'
def ars(C:Addr):Sp:=fun vs H Q _=>∃p d S c n r,vs=[.ref p,.int n,.str (Rt.s r)]/\cz C H p d S c/\c<=900000/\
 ∀v H',cz C H' p d (S.down n r) (c+2)->DF H H' p d->Rep H' v (.t [.s "answer",.i n,Ws (S.tell n)])->Q v H'
def art(C:Addr):Sp:=fun vs H Q _=>∃p d S c a l,vs=[.ref p,.ref a]/\cz C H p d S c/\c<=900000/\H a=some (.tup (Let.vs l))/\
 ∀v H',cz C H' p d (S.take l).1 (c+2)->DF H H' p d->Rep (nw H H') v (S.take l).2->Q v H'
end gH
namespace gH
open PySem L2
def bL{α:Type}(f:Nat->α)(i:Nat)(v:α):Nat->α:=fun j=>if j=i then v else f j
theorem aL{α:Type}(f:Nat->α)(i:Nat)(v:α):bL f i v i=v:=by simp[bL]
theorem bD{α:Type}(f:Nat->α){i j:Nat}(v:α)(h:j≠i):bL f i v j=f j:=by simp[bL,h]
theorem yQ{α:Type}(f:Nat->α)(i:Nat):bL f i (f i)=f:=by funext j;unfold bL;split<;>simp_all
theorem lY{α:Type}(f:Nat->α)(i:Nat)(v w:α):bL (bL f i v) i w=bL f i w:=by funext j;unfold bL;split<;>rfl
inductive UL where
 | ask (p:Nat) (r:Rt) | ans (p:Nat) (o:Option Int) | gave (p:Nat) (n:Int)
def oV:Option Int->V
 | none=>.non
 | some k=>.int k
def oD:Option Int->D
 | none=>.n
 | some k=>.i k
def UL.vs:UL->List V
 | .ask p r=>[.str "ask",.int p,.str r.s]
 | .ans p o=>[.str "answer",.int p,oV o]
 | .gave p n=>[.str "gave",.int p,.int n]
def UL.d:UL->D
 | .ask p r=>.t [.s "ask",.i p,.s r.s]
 | .ans p o=>.t [.s "answer",.i p,oD o]
 | .gave p n=>.t [.s "gave",.i p,.i n]
def UL.pg:UL->Nat
 | .ask p _=>p
 | .ans p _=>p
 | .gave p _=>p
structure PG where
 num:Int
 wr:Option Nat
 rd:List Nat
 ask:List (Nat×Rt)
 miss:Int
def low(r:Rt):Rt:=if r=.rd then .rd else .no
def pH(g:PG)(p a:Nat)(r:Rt):List (Nat×Let):=match g.wr with
 | some w=>if w=a then []else [(w,.back p (low r))]
 | none=>[]
def pI(g:PG)(p a:Nat)(r:Rt):List (Nat×Let):=if r=.wr then(g.rd.filter fun d=>decide (d≠a)).map fun d=>(d,.back p .no)else []
def PG.dD(g:PG)(p:Nat):List (Nat×Let):=match g.ask with
 | []=>[]
 | (a,r)::_=>pH g p a r++pI g p a r
def ji(g:PG)(a:Nat):PG:={g with wr:=none,rd:=if a∈g.rd++g.wr.toList then g.rd++g.wr.toList else g.rd++g.wr.toList++[a]}
def jr(g:PG)(a:Nat):PG:={g with wr:=some a,rd:=[]}
def PG.lent(g:PG):PG:=match g.ask with
 | []=>g
 | (a,r)::q=>if r=.wr then jr {g with ask:=q} a else ji {g with ask:=q} a
def PG.dO(g:PG)(p:Nat):List (Nat×Let):=match g.ask with
 | []=>[]
 | (a,r)::_=>[(a,.lend p r g.num)]
theorem PG.w6(g:PG):g.lent.ask.length=g.ask.length - 1:=by
 unfold PG.lent
 cases h:g.ask with
 | nil=>simp[h]
 | cons x q=>obtain⟨a,r⟩:=x;dsimp only;split<;>simp[jr,ji]
def iR:Nat->PG->Nat->PG×List (Nat×Let)
 | 0,g,_=>(g,[])
 | k+1,g,p=>if(g.dD p).isEmpty then((iR k g.lent p).1,g.dO p++(iR k g.lent p).2)else({g with miss:=(g.dD p).length},g.dD p)
def PG.serve(g:PG)(p:Nat):PG×List (Nat×Let):=iR g.ask.length g p
theorem GR{g:PG}{p:Nat}(h:g.ask=[]):g.serve p=(g,[]):=by unfold PG.serve;rw[h];rfl
theorem yR{g:PG}{p:Nat}(h:g.ask≠[])(hb:g.dD p=[]):g.serve p=((g.lent.serve p).1,g.dO p++(g.lent.serve p).2):=by
 unfold PG.serve
 rw[PG.w6]
 cases h':g.ask with
 | nil=>exact absurd h' h
 | cons x q=>rw[List.length_cons,iR,hb,if_pos (by rfl)];rfl
theorem GX{g:PG}{p:Nat}(h:g.ask≠[])(hb:g.dD p≠[]):g.serve p=({g with miss:=(g.dD p).length},g.dD p):=by
 unfold PG.serve
 cases h':g.ask with
 | nil=>exact absurd h' h
 | cons x q=>rw[List.length_cons,iR,if_neg (by simpa using hb),h']
def PG.take(g:PG)(p d:Nat):UL->PG×List (Nat×Let)
 | .ask _ r=>if g.ask=[]then PG.serve {g with ask:=[(d,r)]} p else({g with ask:=g.ask++[(d,r)]},[])
 | .ans _ o=>if g.miss - 1=0 then
    ((PG.serve (PG.lent {g with num:=o.getD g.num,miss:=g.miss - 1}) p).1,PG.dO {g with num:=o.getD g.num,miss:=g.miss - 1} p++(PG.serve (PG.lent {g with num:=o.getD g.num,miss:=g.miss - 1}) p).2)
   else({g with num:=o.getD g.num,miss:=g.miss - 1},[])
 | .gave _ n=>({g with num:=n,wr:=if g.wr=some d then none else g.wr},[])
def post(dn:Nat->List Let)(ls:List (Nat×Let)):Nat->List Let:=ls.foldl (fun f q=>bL f q.1 (f q.1++[q.2])) dn
theorem pJ(dn:Nat->List Let)(a b:List (Nat×Let)):post dn (a++b)=post (post dn a) b:=by unfold post;rw[List.foldl_append]
theorem PL(dn:Nat->List Let)(x:Nat×Let)(b:List (Nat×Let)):post dn (x::b)=post (bL dn x.1 (dn x.1++[x.2])) b:=rfl
theorem abI(dn:Nat->List Let)(a:List (Nat×Let))(x:Nat×Let):post dn (a++[x])=bL (post dn a) x.1 (post dn a x.1++[x.2]):=by rw[pJ];rfl
theorem KZ(dn:Nat->List Let)(ls:List (Nat×Let))(x:Nat):(post dn ls x).length<=(dn x).length+ls.length:=by
 induction ls generalizing dn with
 | nil=>exact Nat.le_refl _
 | cons q r ih =>
   rw[PL]
   refine Nat.le_trans (ih _) ?_
   rw[List.length_cons]
   by_cases e:x=q.1
   ·rw[e,aL,List.length_append];simp;lia
   ·rw[bD _ _ e];lia
abbrev Ev:=Bool×Int×Int
def afE(b:Bool):Str:=if b then "put" else "look"
def evD(e:Ev):D:=.t [.s (afE e.1),.i e.2.1,.i e.2.2]
def W.DQ:W->Bool
 | .look _=>false
 | .put _ _=>true
theorem W.ahQ(w:W):w.tag=afE w.DQ:=by cases w<;>rfl
structure RE where
 put:Bool
 dk:Nat
 pg:Int
 num:Int
def RE.d(e:RE):D:=.t [.s (afE e.put),.i e.dk,.i e.pg,.i e.num]
structure TS where
 ds:Nat->DS
 pg:Nat->PG
 up:Nat->List UL
 dn:Nat->List Let
 row:List RE
def DS.iJ(S:DS)(w:W)(p:Nat):DS×List Ev×List UL:=if S.ok w then(S.done w,[(w.DQ,w.pg,S.num w)],[])else({S with ws:=some w},[],[.ask p w.need])
def DS.pK(S:DS)(p:Int)(r:Rt)(n:Int):DS×List Ev :=
 match S.ws with
 | none=>(S.hold p r n,[])
 | some w=>if w.pg=p/\(S.hold p r n).ok w then(({S.hold p r n with ws:=none}:DS).done w,[(w.DQ,w.pg,(S.hold p r n).num w)])else(S.hold p r n,[])
def DS.mJ(S:DS)(p:Int):Option Int:=if S.rt p=.wr then some (S.nm p)else none
def Let.pg:Let->Int
 | .lend p _ _=>p
 | .back p _=>p
def DS.xf(S:DS):Let->DS×List Ev×List UL
 | .lend p r n=>((S.pK p r n).1,(S.pK p r n).2,[])
 | .back p r=>(S.down p r,[],[.ans p.toNat (S.mJ p)])
theorem DS.ai6(S:DS)(w:W){p:Nat}(hp:w.pg=p):S.want w=((S.iJ w p).1,.t [.l ((S.iJ w p).2.1.map evD),.l ((S.iJ w p).2.2.map UL.d)]):=by
 unfold DS.want DS.iJ
 split
 ·simp[evD,W.ahQ]
 ·simp[UL.d,hp]
theorem DS.anL(S:DS)(p:Int)(r:Rt)(n:Int):S.gj p r n=((S.pK p r n).1,(S.pK p r n).2.map evD):=by
 unfold DS.gj DS.pK
 cases h:S.ws with
 | none=>rfl
 | some w=>dsimp only;split<;>simp[evD,W.ahQ]
theorem DS.anM(S:DS)(p:Int):S.tell p=oV (S.mJ p):=by unfold DS.tell DS.mJ;split<;>rfl
theorem alx(o:Option Int):Ws (oV o)=oD o:=by cases o<;>rfl
theorem DS.anN(S:DS)(l:Let){p:Nat}(hp:l.pg=p):S.take l=((S.xf l).1,.t [.l ((S.xf l).2.1.map evD),.l ((S.xf l).2.2.map UL.d)]):=by
 cases l with
 | lend q r n=>simp only[DS.take,DS.xf,DS.anL];rfl
 | back q r =>
   have hq:q=(p:Int):=hp
   subst hq
   simp only[DS.take,DS.xf,DS.anM,alx]
   simp[UL.d]
def fY(row:List RE)(d:Nat)(es:List Ev):List RE:=row++es.map fun e=>⟨e.1,d,e.2.1,e.2.2⟩
def TS.jx(S:TS)(d:Nat)(z:DS×List Ev×List UL):TS:={S with ds:=bL S.ds d z.1,up:=bL S.up d (S.up d++z.2.2),row:=fY S.row d z.2.1}
def TS.ahR(S:TS)(d:Nat)(l:UL)(r:List UL):TS:={S with up:=bL S.up d r,pg:=bL S.pg l.pg ((S.pg l.pg).take l.pg d l).1,dn:=post S.dn ((S.pg l.pg).take l.pg d l).2}
def TS.Te(S:TS)(d:Nat)(l:Let)(r:List Let):TS:=TS.jx {S with dn:=bL S.dn d r} d ((S.ds d).xf l)
def TS.vO(S:TS)(d:Nat)(p:Nat):TS:=TS.jx S d ((S.ds d).hold p .no ((S.ds d).nm p),[],if(S.ds d).rt p=.wr then [.gave p ((S.ds d).nm p)]else [])
inductive cG where
 | look (d p:Int) | put (d p n:Int) | rest (d p:Int) | up (d:Int) | down (d:Int)
def cG.vs:cG->List V
 | .look d p=>[.str "look",.int d,.int p]
 | .put d p n=>[.str "put",.int d,.int p,.int n]
 | .rest d p=>[.str "rest",.int d,.int p]
 | .up d=>[.str "up",.int d]
 | .down d=>[.str "down",.int d]
def cG.d:cG->D
 | .look d p=>.t [.s "look",.i d,.i p]
 | .put d p n=>.t [.s "put",.i d,.i p,.i n]
 | .rest d p=>.t [.s "rest",.i d,.i p]
 | .up d=>.t [.s "up",.i d]
 | .down d=>.t [.s "down",.i d]
def TS.wish(S:TS)(d p:Nat)(w:W)(told:D):TS×D:=match (S.ds d).ws with
 | some _=>(S,.s "waiting")
 | none=>(S.jx d ((S.ds d).iJ w p),if(S.ds d).ok w then told else .s "waits")
def TS.upD(S:TS)(d:Nat):TS×D:=match S.up d with
 | []=>(S,.s "no letter")
 | l::r=>(S.ahR d l r,l.d)
def TS.Wt(S:TS)(d:Nat):TS×D:=match S.dn d with
 | []=>(S,.s "no letter")
 | l::r=>(S.Te d l r,l.d)
def inR(d:Int)(n:Nat):Prop:=0<=d/\d<n
instance (d:Int) (n:Nat):Decidable (inR d n):=inferInstanceAs (Decidable (_/\_))
def TS.step(n m:Nat)(S:TS):cG->TS×D
 | .up d=>if inR d n then S.upD d.toNat else(S,.s "no desk")
 | .down d=>if inR d n then S.Wt d.toNat else(S,.s "no desk")
 | .rest d p=>if inR d n then(if inR p m then(if(S.ds d.toNat).rt p=.no then(S,.s "no copy")else(S.vO d.toNat p.toNat,.s "done"))else(S,.s "no page"))else(S,.s "no desk")
 | .look d p=>if inR d n then(if inR p m then S.wish d.toNat p.toNat (.look p) (.i ((S.ds d.toNat).nm p))else(S,.s "no page"))else(S,.s "no desk")
 | .put d p x=>if inR d n then(if inR p m then S.wish d.toNat p.toNat (.put p x) (.s "done")else(S,.s "no page"))else(S,.s "no desk")
end gH
namespace gH
open PySem L2
theorem fW{A B:L2.TS}{D:Ends}{σ:St}{H:Hp}(R:St->Hp->Prop)(ha:∀N:St->Hp->Prop,(∀σ' H',R σ' H'->N σ' H')->A {D with nx:=N} σ H)(hb:∀σ' H',R σ' H'->B D σ' H'):aR A B D σ H:=ha _ hb
def nV(d:Nat):V:=.int d
theorem aY{H H':Hp}(h:bY H H'):b8 H H':=fun b xs e=>h b _ e
theorem fC{H H1:Hp}{l:Addr}{o:HO}(h:bY H H1)(hn:H l=none):bY H (upd H1 l o):=fun b u e=>by rw[az (aG e hn)];exact h b u e
theorem lB{H:Hp}{l:Addr}{us vs:List V}(h:H l=some (.lst us)):b8 H (upd H l (.lst vs)):=fun b xs e=>by rw[az (jq e h (by intro z;cases z))];exact e
theorem aly{α:Type}(x:α)(xs:List α):seqIndex? 0 (x::xs).length=some 0:=by simp[seqIndex?]
theorem dh{a b:Str}(h:a≠b):decide (V.str a=V.str b)=false:=decide_eq_false fun z=>h (V.str.inj z)
theorem fD{a:Str}:decide (V.str a=V.str a)=true:=decide_eq_true rfl
def BZ(x:Nat×Rt):D:=.t [.i x.1,.s x.2.s]
def pairD(x:Nat×Let):D:=.t [.i x.1,x.2.d]
def wrV:Option Nat->V
 | none=>.non
 | some w=>.int w
def Av(p:Nat)(g:PG)(r q:Addr):List (Str×V):=[("page",.int p),("number",.int g.num),("writer",wrV g.wr),("readers",.ref r),("asked",.ref q),("awaited",.int g.miss)]
section
variable{p:Nat}{g:PG}{r q:Addr}
theorem alz{n:Int}:f9 "awaited" (.int 0) (f9 "asked" (.ref q) (f9 "readers" (.ref r) (f9 "writer" .non (f9 "number" (.int n) (f9 "page" (.int p) [])))))=Av p ⟨n,none,[],[],0⟩ r q:=by kernel_rfl
theorem ai7{n:Int}:f9 "number" (.int n) (Av p g r q)=Av p {g with num:=n} r q:=by kernel_rfl
theorem ai8:f9 "writer" .non (Av p g r q)=Av p {g with wr:=none} r q:=by kernel_rfl
theorem anO{d:Nat}:f9 "writer" (.int d) (Av p g r q)=Av p {g with wr:=some d} r q:=by kernel_rfl
theorem arv{r':Addr}{l:List Nat}:f9 "readers" (.ref r') (Av p g r q)=Av p {g with rd:=l} r' q:=by kernel_rfl
theorem afF{k:Int}:f9 "awaited" (.int k) (Av p g r q)=Av p {g with miss:=k} r q:=by kernel_rfl
theorem Wu:(Av p g r q).lookup ("page":Str)=some (.int p):=by kernel_rfl
theorem ahS:(Av p g r q).lookup ("number":Str)=some (.int g.num):=by kernel_rfl
theorem rY:(Av p g r q).lookup ("writer":Str)=some (wrV g.wr):=by kernel_rfl
theorem uI:(Av p g r q).lookup ("readers":Str)=some (.ref r):=by kernel_rfl
theorem rM:(Av p g r q).lookup ("asked":Str)=some (.ref q):=by kernel_rfl
theorem Rx:(Av p g r q).lookup ("awaited":Str)=some (.int g.miss):=by kernel_rfl
theorem uJ:(Av p g r q).length<1000:=by show 6<1000;decide
theorem abJ:(Av p g r q).lookup ("serve":Str)=none:=by kernel_rfl
theorem afG:(Av p g r q).lookup ("lend":Str)=none:=by kernel_rfl
theorem alA:(Av p g r q).lookup ("bids_for_first":Str)=none:=by kernel_rfl
theorem arw:(Av p g r q).lookup ("let_write":Str)=none:=by kernel_rfl
theorem arx:(Av p g r q).lookup ("let_read":Str)=none:=by kernel_rfl
theorem arz:(Av p g r q).lookup ("take_ask":Str)=none:=by kernel_rfl
theorem arA:(Av p g r q).lookup ("take_answer":Str)=none:=by kernel_rfl
theorem arB:(Av p g r q).lookup ("take_gave":Str)=none:=by kernel_rfl
end
structure fZ(C:Addr)(H:Hp)(a r q:Addr)(p:Nat)(g:PG):Prop where
 ob:∃dx,H a=some (.ins C dx (Av p g r q))
 rl:H r=some (.lst (g.rd.map nV))
 al:∃vs,H q=some (.lst vs)/\aH H vs (g.ask.map BZ)
 ne:r≠q
def Lv(H H':Hp):Prop:=∀b,H' b=none->H b=none
theorem Lv.refl(H:Hp):Lv H H:=fun _ h=>h
theorem Lv.trans{H H1 H2:Hp}(x:Lv H H1)(y:Lv H1 H2):Lv H H2:=fun b h=>x b (y b h)
theorem Lv.upd{H:Hp}{a:Addr}{o:HO}:Lv H (upd H a o):=fun b h=>by
 by_cases e:b=a
 ·rw[e,aj]at h;cases h
 ·rw[az e]at h;exact h
theorem Lv.same{H H':Hp}(h:bY H H'):Lv H H':=fun b e=>by
 cases q:H b with
 | none=>rfl
 | some o=>rw[h b o q]at e;cases e
structure PF(H H':Hp)(a r q:Addr):Prop where
 kp:∀b o,H b=some o->b≠a->b≠r->b≠q->H' b=some o
 lv:Lv H H'
theorem PF.refl(H:Hp)(a r q:Addr):PF H H a r q:=⟨fun _ _ h _ _ _=>h,Lv.refl _⟩
theorem PF.trans{H H1 H2:Hp}{a r q:Addr}(x:PF H H1 a r q)(y:PF H1 H2 a r q):PF H H2 a r q:=⟨fun b o h h1 h2 h3=>y.kp b o (x.kp b o h h1 h2 h3) h1 h2 h3,x.lv.trans y.lv⟩
theorem PF.trans'{H H1 H2:Hp}{a r r1 q:Addr}(x:PF H H1 a r q)(y:PF H1 H2 a r1 q)(h:r1=r\/H r1=none):PF H H2 a r q:=⟨fun b o hb h1 h2 h3=>y.kp b o (x.kp b o hb h1 h2 h3) h1 (by
 rcases h with z | z
 ·rw[z];exact h2
 ·exact aG hb z) h3,x.lv.trans y.lv⟩
theorem kj(l:List (Nat×Rt)):D.flats (l.map BZ):=by
 induction l with
 | nil=>simp[D.flats]
 | cons x l ih=>simp only[List.map_cons,D.flats];exact⟨by simp[BZ,D.flat,D.flats],ih⟩
theorem Let.flat(l:Let):l.d.flat:=by cases l<;>simp[Let.d,D.flat,D.flats]
theorem cY(l:List (Nat×Let)):D.flats (l.map pairD):=by
 induction l with
 | nil=>simp[D.flats]
 | cons x l ih=>simp only[List.map_cons,D.flats];exact⟨by simp only[pairD,D.flat,D.flats];exact⟨trivial,Let.flat _,trivial⟩,ih⟩
section
variable{C:Addr}{H H':Hp}{a r q:Addr}{p:Nat}{g:PG}
theorem fZ.nar(P:fZ C H a r q p g):a≠r:=by obtain⟨⟨dx,h⟩,h2,_⟩:=P;exact jq h h2 (by intro z;cases z)
theorem fZ.naq(P:fZ C H a r q p g):a≠q:=by obtain⟨⟨dx,h⟩,_,⟨vs,h2,_⟩,_⟩:=P;exact jq h h2 (by intro z;cases z)
theorem PF.tups(P:fZ C H a r q p g)(h:PF H H' a r q):b8 H H':=fun b xs e=>by
 obtain⟨⟨dx,h1⟩,h2,⟨vs,h3,_⟩,_⟩:=P
 exact h.kp b _ e (jq e h1 (by intro z;cases z)) (jq e h2 (by intro z;cases z)) (jq e h3 (by intro z;cases z))
theorem fZ.keep(P:fZ C H a r q p g)(t:b8 H H')(ha:∀o,H a=some o->H' a=some o)(hr:∀o,H r=some o->H' r=some o)(hq:∀o,H q=some o->H' q=some o):fZ C H' a r q p g:=by
 obtain⟨⟨dx,h1⟩,h2,⟨vs,h3,h4⟩,h5⟩:=P
 exact⟨⟨dx,ha _ h1⟩,hr _ h2,⟨vs,hq _ h3,h4.aX t (kj _)⟩,h5⟩
theorem fZ.same(P:fZ C H a r q p g)(h:bY H H'):fZ C H' a r q p g:=P.keep (fun b xs e=>h b _ e) (fun o e=>h _ o e) (fun o e=>h _ o e) fun o e=>h _ o e
theorem fZ.new{b:Addr}{o:HO}(P:fZ C H a r q p g)(h:H b=none):fZ C (upd H b o) a r q p g:=P.same (aB h)
theorem PF.new{b:Addr}{o:HO}(h:H b=none):PF H (upd H b o) a r q:=⟨fun c u e _ _ _=>aB h c u e,Lv.upd⟩
theorem fZ.wr{dx:Addr}{g':PG}(P:fZ C H a r q p g)(e1:g'.rd=g.rd)(e2:g'.ask=g.ask):fZ C (upd H a (.ins C dx (Av p g' r q))) a r q p g':=by
 have n1:=P.nar
 have n2:=P.naq
 obtain⟨⟨wQ,h1⟩,h2,⟨vs,h3,h4⟩,h5⟩:=P
 have t:b8 H (upd H a (.ins C dx (Av p g' r q))):=fun b xs e=>by rw[az (jq e h1 (by intro z;cases z))];exact e
 exact⟨⟨dx,aj⟩,by rw[az n1.symm,e1];exact h2,⟨vs,by rw[az n2.symm];exact h3,by rw[e2];exact h4.aX t (kj _)⟩,h5⟩
theorem PF.wr{o:HO}:PF H (upd H a o) a r q:=⟨fun b u e h1 _ _=>by rw[az h1];exact e,Lv.upd⟩
theorem PF.wrR{o:HO}:PF H (upd H r o) a r q:=⟨fun b u e _ h2 _=>by rw[az h2];exact e,Lv.upd⟩
theorem PF.wrQ{o:HO}:PF H (upd H q o) a r q:=⟨fun b u e _ _ h3=>by rw[az h3];exact e,Lv.upd⟩
theorem fZ.wrR{l:List Nat}(P:fZ C H a r q p g):fZ C (upd H r (.lst (l.map nV))) a r q p {g with rd:=l}:=by
 have n1:=P.nar
 obtain⟨⟨wQ,h1⟩,h2,⟨vs,h3,h4⟩,h5⟩:=P
 have t:b8 H (upd H r (.lst (l.map nV))):=fun b xs e=>by rw[az (jq e h2 (by intro z;cases z))];exact e
 exact⟨⟨wQ,by rw[az n1];exact h1⟩,aj,⟨vs,by rw[az h5.symm];exact h3,h4.aX t (kj _)⟩,h5⟩
theorem fZ.wrQ{l:List (Nat×Rt)}{vs:List V}(P:fZ C H a r q p g)(rp:aH H vs (l.map BZ)):fZ C (upd H q (.lst vs)) a r q p {g with ask:=l}:=by
 have n1:=P.naq
 obtain⟨⟨wQ,h1⟩,h2,⟨us,h3,h4⟩,h5⟩:=P
 have t:b8 H (upd H q (.lst vs)):=fun b xs e=>by rw[az (jq e h3 (by intro z;cases z))];exact e
 exact⟨⟨wQ,by rw[az n1];exact h1⟩,by rw[az h5];exact h2,⟨vs,aj,rp.aX t (kj _)⟩,h5⟩
theorem GZ{H:Hp}{vs:List V}{x:Nat×Rt}{l:List (Nat×Rt)}(h:aH H vs ((x::l).map BZ)):∃t us,vs=.ref t::us/\H t=some (.tup [.int x.1,.str x.2.s])/\aH H us (l.map BZ):=by
 simp only[List.map_cons,aH]at h
 obtain⟨v,us,e,rv,rl⟩:=h
 simp only[BZ,Rep,aH]at rv
 obtain⟨t,xs,e1,e2,_,_,e3,rfl,_,_,e4,rfl,e5⟩:=rv
 subst e1 e5 e4 e3
 exact⟨t,us,e,e2,rl⟩
end
def ai9(C:Addr)(H:Hp)(a r q:Addr)(p:Nat)(z:PG×List (Nat×Let))(Q:VK):Prop :=
 ∀l r' vs H',H l=none->(r'=r\/H r'=none)->l≠r'->fZ C H' a r' q p z.1->PF H H' a r q->H' l=some (.lst vs)->aH H' vs (z.2.map pairD)->Q (.ref l) H'
def PG.mu(g:PG):Nat:=g.rd.length+2*g.ask.length
theorem PG.qW(g:PG):g.lent.mu<=g.mu:=by
 unfold PG.lent PG.mu
 cases h:g.ask with
 | nil=>simp[h]
 | cons x l =>
   obtain⟨a,r⟩:=x
   dsimp only
   split
   ·simp[jr];lia
   ·simp only[ji]
    have hw:g.wr.toList.length<=1:=by cases g.wr<;>simp
    split<;>simp[List.length_append]<;>lia
def aja:Sp:=fun vs H Q _=>∃x y z,vs=[x,y,z]/\∀a,H a=none->Q (.ref a) (upd H a (.tup [.str "lend",x,y,z]))
def alB(C:Addr):Sp:=fun vs H Q _=>∃a dx,∃p:Nat,∃n:Int,vs=[.ref a,.int p,.int n]/\H a=some (.ins C dx [])/\∀r q H',H r=none->H q=none->fZ C H' a r q p ⟨n,none,[],[],0⟩->(∀b o,H b=some o->b≠a->H' b=some o)->Lv H H'->Q .non H'
def arD(C:Addr):Sp:=fun vs H Q _=>∃a r q p g,∃d:Nat,vs=[.ref a,.int d]/\fZ C H a r q p g/\g.rd.length<=1000000/\∀H',fZ C H' a r q p (ji g d)->PF H H' a r q->Q .non H'
def arE(C:Addr):Sp:=fun vs H Q _=>∃a r q p g,∃d:Nat,vs=[.ref a,.int d]/\fZ C H a r q p g/\∀r' H',H r'=none->fZ C H' a r' q p (jr g d)->PF H H' a r q->Q .non H'
def anP(C:Addr):Sp:=fun vs H Q _=>∃a r q p g d x l,vs=[.ref a]/\fZ C H a r q p g/\g.ask=(d,x)::l/\(x=.rd\/x=.wr)/\g.rd.length<=1000000/\
 ∀v r' H',(r'=r\/H r'=none)->fZ C H' a r' q p g.lent->PF H H' a r q->Rep H' v (pairD (d,.lend p x g.num))->Q v H'
def arF(C:Addr):Sp:=fun vs H Q _=>∃a r q p g d x l,vs=[.ref a]/\fZ C H a r q p g/\g.ask=(d,x)::l/\(x=.rd\/x=.wr)/\g.rd.length<=1000000/\
 ∀b us H',H b=none->bY H H'->H' b=some (.lst us)->aH H' us ((g.dD p).map pairD)->Q (.ref b) H'
def Rw(l:List (Nat×Rt)):Prop:=∀x∈l,x.2=.rd\/x.2=.wr
def anQ(C:Addr):Sp:=fun vs H Q _=>∃a r q p g,vs=[.ref a]/\fZ C H a r q p g/\Rw g.ask/\g.mu<=1000000/\ai9 C H a r q p (g.serve p) Q
def au0(C:Addr):Sp:=fun vs H Q _=>∃a r q p g x,∃d:Nat,vs=[.ref a,.int d,.str (Rt.s x)]/\fZ C H a r q p g/\(x=.rd\/x=.wr)/\Rw g.ask/\g.mu<=900000/\ai9 C H a r q p (g.take p d (.ask p x)) Q
def au1(C:Addr):Sp:=fun vs H Q _=>∃a r q p g o,∃d:Nat,vs=[.ref a,oV o]/\fZ C H a r q p g/\(g.miss - 1=0->g.ask≠[])/\Rw g.ask/\g.mu<=900000/\ai9 C H a r q p (g.take p d (.ans p o)) Q
def arG(C:Addr):Sp:=fun vs H Q _=>∃a r q p g,∃d:Nat,∃n:Int,vs=[.ref a,.int d,.int n]/\fZ C H a r q p g/\ai9 C H a r q p (g.take p d (.gave p n)) Q
end gH
namespace gH
open PySem L2
def jM{ι:Type}[DecidableEq ι](A:ι->Addr)(z:ι)(a:Addr):ι->Addr:=fun x=>if x=z then a else A x
theorem cX{ι:Type}[DecidableEq ι](A:ι->Addr)(z:ι)(a:Addr):jM A z a z=a:=by simp[jM]
theorem bI{ι:Type}[DecidableEq ι](A:ι->Addr){z x:ι}(a:Addr)(h:x≠z):jM A z a x=A x:=by simp[jM,h]
theorem V1{ι:Type}[DecidableEq ι]{A:ι->Addr}{ok ok':ι->Prop}{z:ι}{a:Addr}(hi:∀x y,ok x->ok y->A x=A y->x=y)(hn:∀x,ok x->A x≠a)(ho:∀x,ok' x->x=z\/ok x) :
 ∀x y,ok' x->ok' y->jM A z a x=jM A z a y->x=y:=by
 intro x y hx hy e
 by_cases h1:x=z
 ·by_cases h2:y=z
  ·rw[h1,h2]
  ·rw[h1,cX,bI _ _ h2]at e
   exact absurd e.symm (hn y ((ho y hy).resolve_left h2))
 ·by_cases h2:y=z
  ·rw[h2,cX,bI _ _ h1]at e
   exact absurd e (hn x ((ho x hx).resolve_left h1))
  ·rw[bI _ _ h1,bI _ _ h2]at e
   exact hi x y ((ho x hx).resolve_left h1) ((ho y hy).resolve_left h2) e
inductive Hb where
 | hall | pages | gj (p:Nat) | iM (p:Nat) | jJ (p:Nat)
 deriving DecidableEq
def Hb.ok(m:Nat):Hb->Prop
 | .hall=>True
 | .pages=>True
 | .gj p=>p<m
 | .iM p=>p<m
 | .jJ p=>p<m
def hfl(l:Addr):List (Str×V):=[("pages",.ref l)]
theorem aj5{l:Addr}:(hfl l).lookup ("pages":Str)=some (.ref l):=by kernel_rfl
theorem alC{l:Addr}:(hfl l).lookup ("take":Str)=none:=by kernel_rfl
theorem alD{l:Addr}:f9 "pages" (.ref l) []=hfl l:=by kernel_rfl
structure lF(CH CP:Addr)(H:Hp)(A:Hb->Addr)(m:Nat)(G:Nat->PG):Prop where
 inj:∀x y,x.ok m->y.ok m->A x=A y->x=y
 ob:∃dx,H (A .hall)=some (.ins CH dx (hfl (A .pages)))
 pl:H (A .pages)=some (.lst ((List.range m).map fun p=>V.ref (A (.gj p))))
 pg:∀p,p<m->fZ CP H (A (.gj p)) (A (.iM p)) (A (.jJ p)) p (G p)
structure HF(H H':Hp)(A:Hb->Addr)(m:Nat):Prop where
 kp:∀b o,H b=some o->(∀x:Hb,x.ok m->b≠A x)->H' b=some o
 lv:Lv H H'
section
variable{CH CP:Addr}{H H':Hp}{A:Hb->Addr}{m:Nat}{G:Nat->PG}
theorem lF.live(h:lF CH CP H A m G)(x:Hb)(hx:x.ok m):∃o,H (A x)=some o/\∀xs,o≠.tup xs:=by
 cases x with
 | hall=>obtain⟨dx,e⟩:=h.ob;exact⟨_,e,fun _ z=>by cases z⟩
 | pages=>exact⟨_,h.pl,fun _ z=>by cases z⟩
 | gj p=>obtain⟨⟨dx,e⟩,_⟩:=h.pg p hx;exact⟨_,e,fun _ z=>by cases z⟩
 | iM p=>exact⟨_,(h.pg p hx).rl,fun _ z=>by cases z⟩
 | jJ p=>obtain⟨vs,e,_⟩:=(h.pg p hx).al;exact⟨_,e,fun _ z=>by cases z⟩
theorem lF.keep(h:lF CH CP H A m G)(t:b8 H H')(k:∀x:Hb,x.ok m->∀o,H (A x)=some o->H' (A x)=some o):lF CH CP H' A m G:=by
 refine⟨h.inj,?_,k .pages trivial _ h.pl,fun p hp=>(h.pg p hp).keep t (k (.gj p) hp) (k (.iM p) hp) (k (.jJ p) hp)⟩
 obtain⟨dx,e⟩:=h.ob
 exact⟨dx,k .hall trivial _ e⟩
theorem HF.tups(h:lF CH CP H A m G)(f:HF H H' A m):b8 H H':=fun b xs e=>f.kp b _ e fun x hx z=>by
 obtain⟨o,e1,e2⟩:=h.live x hx
 rw[<-z,e]at e1
 exact e2 xs (Option.some.inj e1).symm
theorem lF.page{p:Nat}{g':PG}{r':Addr}(h:lF CH CP H A m G)(hp:p<m)(P:fZ CP H' (A (.gj p)) r' (A (.jJ p)) p g')(f:PF H H' (A (.gj p)) (A (.iM p)) (A (.jJ p)))(hr:r'=A (.iM p)\/H r'=none) :
 lF CH CP H' (jM A (.iM p) r') m (bL G p g')/\HF H H' A m:=by
 have tp:=f.tups (h.pg p hp)
 have kk:∀x:Hb,x.ok m->x≠.gj p->x≠.iM p->x≠.jJ p->∀o,H (A x)=some o->H' (A x)=some o:=fun x hx n1 n2 n3 o e =>
  f.kp _ o e (fun z=>n1 (h.inj _ _ hx hp z)) (fun z=>n2 (h.inj _ _ hx hp z)) fun z=>n3 (h.inj _ _ hx hp z)
 refine⟨⟨?_,?_,?_,fun j hj=>?_⟩,⟨fun b o e hn=>f.kp b o e (hn _ hp) (hn (.iM p) hp) (hn (.jJ p) hp),f.lv⟩⟩
 ·intro x y hx hy e
  by_cases h1:x=.iM p
  ·by_cases h2:y=.iM p
   ·rw[h1,h2]
   ·rw[h1,cX,bI _ _ h2]at e
    rcases hr with z | z
    ·rw[z]at e;rw[h1];exact h.inj _ _ hp hy e
    ·obtain⟨o,e1,_⟩:=h.live y hy;rw[<-e,z]at e1;cases e1
  ·by_cases h2:y=.iM p
   ·rw[h2,cX,bI _ _ h1]at e
    rcases hr with z | z
    ·rw[z]at e;rw[h2];exact h.inj _ _ hx hp e
    ·obtain⟨o,e1,_⟩:=h.live x hx;rw[e,z]at e1;cases e1
   ·rw[bI _ _ h1,bI _ _ h2]at e
    exact h.inj _ _ hx hy e
 ·obtain⟨dx,e⟩:=h.ob
  refine⟨dx,?_⟩
  rw[bI _ _ (by intro z;cases z),bI _ _ (by intro z;cases z)]
  exact kk .hall trivial (by intro z;cases z) (by intro z;cases z) (by intro z;cases z) _ e
 ·rw[bI _ _ (by intro z;cases z)]
  have e:=kk .pages trivial (by intro z;cases z) (by intro z;cases z) (by intro z;cases z) _ h.pl
  rw[e]
  congr 2
 ·by_cases e:j=p
  ·subst e
   rw[show jM A (.iM j) r' (.gj j)=A (.gj j)by simp[jM],show jM A (.iM j) r' (.jJ j)=A (.jJ j)by simp[jM],cX,aL]
   exact P
  ·rw[show jM A (.iM p) r' (.gj j)=A (.gj j)by simp[jM],show jM A (.iM p) r' (.jJ j)=A (.jJ j)by simp[jM],show jM A (.iM p) r' (.iM j)=A (.iM j)by simp[jM,e],bD _ _ e]
   exact(h.pg j hj).keep tp (kk (.gj j) hj (by intro z;cases z;exact e rfl) (by intro z;cases z) (by intro z;cases z)) (kk (.iM j) hj (by intro z;cases z) (by intro z;cases z;exact e rfl) (by intro z;cases z)) (kk (.jJ j) hj (by intro z;cases z) (by intro z;cases z) (by intro z;cases z;exact e rfl))
end
def UL.good(g:PG):UL->Prop
 | .ask _ r=>r=.rd\/r=.wr
 | .ans _ _=>g.miss - 1=0->g.ask≠[]
 | .gave _ _=>True
def ax8(CH CP:Addr)(H:Hp)(A:Hb->Addr)(m:Nat)(G:Nat->PG)(p:Nat)(z:PG×List (Nat×Let))(Q:VK):Prop :=
 ∀l A' vs H',H l=none->lF CH CP H' A' m (bL G p z.1)->HF H H' A m->(∀x:Hb,x.ok m->A' x=A x\/H (A' x)=none)->(∀x:Hb,x.ok m->l≠A' x)->A' .hall=A .hall->H' l=some (.lst vs)->aH H' vs (z.2.map pairD)->Q (.ref l) H'
def ahT(CH CP:Addr):Sp:=fun vs H Q _=>∃A m G b l,∃d:Nat,vs=[.ref (A .hall),.int d,.ref b]/\lF CH CP H A m G/\H b=some (.tup (UL.vs l))/\l.pg<m/\l.good (G l.pg)/\Rw (G l.pg).ask/\(G l.pg).mu<=900000/\
 ax8 CH CP H A m G l.pg ((G l.pg).take l.pg d l) Q
def pg0(ns:List Int)(p:Nat):PG:=⟨(ns[p]?).getD 0,none,[],[],0⟩
def ahV(CH CP:Addr):Sp:=fun vs H Q _=>∃h dx l,∃ns:List Int,vs=[.ref h,.ref l]/\H h=some (.ins CH dx [])/\H l=some (.lst (ns.map V.int))/\ns.length<=1000/\
 ∀A H',A .hall=h->(∀x:Hb,x.ok ns.length->x≠.hall->H (A x)=none)->lF CH CP H' A ns.length (pg0 ns)->(∀b o,H b=some o->b≠h->H' b=some o)->Lv H H'->Q .non H'
end gH
namespace gH
open PySem L2
structure Tf(n:Nat)(g:PG):Prop where
 w:∀x,g.wr=some x->x<n
 r:∀x∈g.rd,x<n
 q:∀x∈g.ask,x.1<n/\(x.2=.rd\/x.2=.wr)
theorem Tf.rw{n:Nat}{g:PG}(h:Tf n g):Rw g.ask:=fun x hx=>(h.q x hx).2
def Let.nice:Let->Prop
 | .lend _ r _=>r=.rd\/r=.wr
 | .back _ r=>r=.rd\/r=.no
def Let.bk(p:Nat):Let->Bool
 | .back q _=>decide (q=(p:Int))
 | .lend _ _ _=>false
def UL.an(p:Nat):UL->Bool
 | .ans q _=>decide (q=p)
 | _=>false
def Hm(n p:Nat)(ls:List (Nat×Let)):Prop:=∀q∈ls,q.1<n/\q.2.pg=(p:Int)/\q.2.nice
theorem Tf.dD{n:Nat}{g:PG}(h:Tf n g)(p:Nat):Hm n p (g.dD p)/\(g.dD p).countP (fun q=>q.2.bk p)=(g.dD p).length:=by
 have key:∀x∈g.dD p,(x.1<n/\x.2.pg=(p:Int)/\x.2.nice)/\x.2.bk p=true:=by
  intro x hx
  unfold PG.dD at hx
  split at hx
  ·cases hx
  ·rename_i a r l ha
   rcases List.mem_append.mp hx with hx | hx
   ·unfold pH at hx
    split at hx
    ·rename_i wv hw
     split at hx
     ·cases hx
     ·have this:=List.mem_singleton.mp hx
      rw[this]
      refine⟨⟨h.w wv hw,rfl,?_⟩,by simp[Let.bk]⟩
      unfold low
      split
      ·exact .inl rfl
      ·exact .inr rfl
    ·cases hx
   ·unfold pI at hx
    split at hx
    ·obtain⟨d,hd,e⟩:=List.mem_map.mp hx
     rw[<-e];exact⟨⟨h.r d (List.mem_filter.mp hd).1,rfl,.inr rfl⟩,by simp[Let.bk]⟩
    ·cases hx
 exact⟨fun x hx=>(key x hx).1,List.countP_eq_length.mpr fun x hx=>(key x hx).2⟩
theorem Tf.lent{n:Nat}{g:PG}(h:Tf n g):Tf n g.lent:=by
 unfold PG.lent
 cases e:g.ask with
 | nil=>exact h
 | cons x l =>
   obtain⟨a,r⟩:=x
   have ha:a<n:=(h.q (a,r) (by rw[e];simp)).1
   have hl:∀x∈l,x.1<n/\(x.2=.rd\/x.2=.wr):=fun x hx=>h.q x (by rw[e];exact List.mem_cons_of_mem _ hx)
   have hrs:∀x∈g.rd++g.wr.toList,x<n:=fun x hx=>by
    rcases List.mem_append.mp hx with hx | hx
    ·exact h.r x hx
    ·exact h.w x (by cases hw:g.wr with | none=>rw[hw]at hx;simp at hx | some y=>rw[hw]at hx;simp at hx;rw[hx])
   dsimp only
   split
   ·refine⟨fun x hx=>?_,fun x hx=>by simp[jr]at hx,hl⟩
    have e:a=x:=by simpa[jr] using hx
    rw[<-e];exact ha
   ·refine⟨fun x hx=>by simp[ji]at hx,fun x hx=>?_,hl⟩
    simp only[ji]at hx
    split at hx
    ·exact hrs x hx
    ·rcases List.mem_append.mp hx with hx | hx
     ·exact hrs x hx
     ·have:x=a:=by simpa using hx
      rw[this];exact ha
theorem PG.xg(g:PG):g.lent.miss=g.miss:=by
 unfold PG.lent
 cases g.ask with
 | nil=>rfl
 | cons x l=>obtain⟨a,r⟩:=x;dsimp only;split<;>rfl
theorem Tf.dO{n:Nat}{g:PG}(h:Tf n g)(p:Nat):Hm n p (g.dO p)/\(g.dO p).countP (fun q=>q.2.bk p)=0:=by
 unfold PG.dO
 cases e:g.ask with
 | nil=>exact⟨fun q hq=>by simp at hq,rfl⟩
 | cons x l =>
   obtain⟨a,r⟩:=x
   have ha:=h.q (a,r) (by rw[e];simp)
   refine⟨fun q hq=>?_,by simp[Let.bk]⟩
   have this:=List.mem_singleton.mp hq
   rw[this]
   exact⟨ha.1,rfl,ha.2⟩
theorem Hm.append{n p:Nat}{a b:List (Nat×Let)}(x:Hm n p a)(y:Hm n p b):Hm n p (a++b):=fun q hq=>(List.mem_append.mp hq).elim (x q) (y q)
theorem xj:∀(k:Nat) {n:Nat} {g:PG} (p:Nat),g.ask.length=k->Tf n g->g.miss=0->
 Tf n (g.serve p).1/\Hm n p (g.serve p).2/\((g.serve p).2.countP (fun q=>q.2.bk p):Int)=(g.serve p).1.miss/\((g.serve p).1.ask=[]↔(g.serve p).1.miss=0)
 | 0,n,g,p,hk,h,h0=>by
   have e:g.ask=[]:=List.length_eq_zero_iff.mp hk
   rw[GR e]
   exact⟨h,fun q hq=>by simp at hq,by simp[h0],by simp[e,h0]⟩
 | k+1,n,g,p,hk,h,h0=>by
   have e:g.ask≠[]:=fun z=>by rw[z]at hk;simp at hk
   by_cases hb:g.dD p=[]
   ·rw[yR e hb]
    obtain⟨i1,i2,i3,i4⟩:=xj k (n:=n) (g:=g.lent) p (by rw[PG.w6,hk];rfl) h.lent (by rw[PG.xg];exact h0)
    obtain⟨j1,j2⟩:=h.dO p
    exact⟨i1,j1.append i2,by rw[List.countP_append,j2,Nat.zero_add];exact i3,i4⟩
   ·rw[GX e hb]
    obtain⟨j1,j2⟩:=h.dD p
    refine⟨⟨h.w,h.r,h.q⟩,j1,by rw[j2],⟨fun z=>absurd z e,fun z=>?_⟩⟩
    have:(g.dD p).length=0:=by have z':((g.dD p).length:Int)=0:=z;lia
    exact absurd (List.length_eq_zero_iff.mp this) hb
theorem PG.xj{n:Nat}{g:PG}(p:Nat)(h:Tf n g)(h0:g.miss=0) :
 Tf n (g.serve p).1/\Hm n p (g.serve p).2/\((g.serve p).2.countP (fun q=>q.2.bk p):Int)=(g.serve p).1.miss/\((g.serve p).1.ask=[]↔(g.serve p).1.miss=0):=gH.xj _ p rfl h h0
theorem au2{A B C D E:Prop}(h:E)(z:A/\B/\C/\D):A/\B/\C/\D/\E:=⟨z.1,z.2.1,z.2.2.1,z.2.2.2,h⟩
theorem PG.alE{n:Nat}{g:PG}{p d:Nat}{l:UL}{c:Nat}(h:Tf n g)(ham:g.ask=[]↔g.miss=0)(hd:d<n)(hr:∀q r,l=.ask q r->r=.rd\/r=.wr)(hp:l.pg=p)(hc:((c+if l.an p then 1 else 0:Nat):Int)=g.miss) :
 Tf n (g.take p d l).1/\Hm n p (g.take p d l).2/\(((g.take p d l).2.countP (fun q=>q.2.bk p)+c:Nat):Int)=(g.take p d l).1.miss/\((g.take p d l).1.ask=[]↔(g.take p d l).1.miss=0)/\l.good g:=by
 cases l with
 | ask q r =>
   have hx:=hr q r rfl
   have hc':(c:Int)=g.miss:=by simpa[UL.an] using hc
   refine au2 hx ?_
   simp only[PG.take]
   by_cases e:g.ask=[]
   ·rw[if_pos e]
    have h0:=ham.mp e
    obtain⟨i1,i2,i3,i4⟩:=PG.xj (n:=n) (g:={g with ask:=[(d,r)]}) p ⟨h.w,h.r,fun x hx'=>by rw[List.mem_singleton.mp hx'];exact⟨hd,hx⟩⟩ h0
    have c0:c=0:=by lia
    exact⟨i1,i2,by rw[c0];exact i3,i4⟩
   ·rw[if_neg e]
    refine⟨⟨h.w,h.r,fun x hx'=>?_⟩,fun q hq=>by simp at hq,by simpa using hc',⟨fun z=>by simp at z,fun z=>absurd (ham.mpr z) e⟩⟩
    rcases List.mem_append.mp hx' with hx' | hx'
    ·exact h.q x hx'
    ·have:x=(d,r):=by simpa using hx'
     rw[this];exact⟨hd,hx⟩
 | ans q o =>
   have hq:q=p:=hp
   subst hq
   have hc':(c:Int)+1=g.miss:=by simpa[UL.an] using hc
   have hne:g.ask≠[]:=fun z=>by have:=ham.mp z;lia
   refine au2 (fun _=>hne) ?_
   simp only[PG.take]
   by_cases e:g.miss - 1=0
   ·rw[if_pos e]
    have hg:Tf n ({g with num:=o.getD g.num,miss:=g.miss - 1}:PG):=⟨h.w,h.r,h.q⟩
    generalize hg2:({g with num:=o.getD g.num,miss:=g.miss - 1}:PG)=g2 at hg
    have hm2:g2.miss=0:=by rw[<-hg2];exact e
    obtain⟨i1,i2,i3,i4⟩:=PG.xj (n:=n) (g:=g2.lent) q hg.lent (by rw[PG.xg];exact hm2)
    obtain⟨j1,j2⟩:=hg.dO q
    have c0:c=0:=by lia
    exact⟨i1,j1.append i2,by rw[c0,List.countP_append,j2,Nat.zero_add,Nat.add_zero];exact i3,i4⟩
   ·rw[if_neg e]
    refine⟨⟨h.w,h.r,h.q⟩,fun q hq=>by simp at hq,?_,⟨fun z=>absurd z hne,fun z=>absurd z e⟩⟩
    show((0+c:Nat):Int)=g.miss - 1
    lia
 | gave q x =>
   have hc':(c:Int)=g.miss:=by simpa[UL.an] using hc
   simp only[PG.take]
   refine⟨⟨fun y hy=>?_,h.r,h.q⟩,fun q hq=>by simp at hq,by simpa using hc',ham,trivial⟩
   dsimp only at hy
   split at hy
   ·cases hy
   ·exact h.w y hy
def qg(n:Nat)(f:Nat->Nat):Nat:=((List.range n).map f).sum
theorem km(n:Nat)(f:Nat->Nat):qg (n+1) f=qg n f+f n:=by unfold qg;rw[List.range_succ,List.map_append,List.sum_append];simp
theorem ahW{n:Nat}{f g:Nat->Nat}(h:∀e,e<n->f e=g e):qg n f=qg n g:=by
 induction n with
 | zero=>rfl
 | succ n ih=>rw[km,km,ih fun e he=>h e (Nat.lt_succ_of_lt he),h n (Nat.lt_succ_self n)]
theorem Wv{n d:Nat}{f g:Nat->Nat}(hd:d<n)(h:∀e,e≠d->g e=f e):qg n g+f d=qg n f+g d:=by
 induction n with
 | zero=>exact absurd hd (Nat.not_lt_zero _)
 | succ n ih =>
   rw[km,km]
   by_cases e:d=n
   ·subst e
    have:=ahW (n:=d) (f:=g) (g:=f) fun e he=>h e (Nat.ne_of_lt he)
    lia
   ·have h1:=ih (by lia)
    have h2:=h n (Ne.symm e)
    lia
def cnt(n p:Nat)(up:Nat->List UL)(dn:Nat->List Let):Nat:=qg n fun d=>(up d).countP (UL.an p)+(dn d).countP (Let.bk p)
theorem acs{n p d:Nat}{up:Nat->List UL}{dn:Nat->List Let}(hd:d<n)(l:List UL):cnt n p (bL up d l) dn+(up d).countP (UL.an p)=cnt n p up dn+l.countP (UL.an p):=by
 have:=Wv (n:=n) (d:=d) (f:=fun d=>(up d).countP (UL.an p)+(dn d).countP (Let.bk p)) (g:=fun e=>(bL up d l e).countP (UL.an p)+(dn e).countP (Let.bk p)) hd fun e he=>by simp only[bD _ _ he]
 simp only[aL]at this
 unfold cnt
 lia
theorem ahX{n p d:Nat}{up:Nat->List UL}{dn:Nat->List Let}(hd:d<n)(l:List Let):cnt n p up (bL dn d l)+(dn d).countP (Let.bk p)=cnt n p up dn+l.countP (Let.bk p):=by
 have:=Wv (n:=n) (d:=d) (f:=fun d=>(up d).countP (UL.an p)+(dn d).countP (Let.bk p)) (g:=fun e=>(up e).countP (UL.an p)+(bL dn d l e).countP (Let.bk p)) hd fun e he=>by simp only[bD _ _ he]
 simp only[aL]at this
 unfold cnt
 lia
theorem afH{n p:Nat}{up:Nat->List UL}:∀(ls:List (Nat×Let)) {dn:Nat->List Let},(∀q∈ls,q.1<n)->cnt n p up (post dn ls)=cnt n p up dn+ls.countP (fun q=>q.2.bk p)
 | [],dn,_=>by simp[post]
 | x::ls,dn,h=>by
   rw[PL,afH ls fun q hq=>h q (List.mem_cons_of_mem _ hq),List.countP_cons]
   have:=ahX (p:=p) (up:=up) (dn:=dn) (h x (by simp)) (dn x.1++[x.2])
   rw[List.countP_append]at this
   simp only[List.countP_cons,List.countP_nil]at this
   split at this<;>simp_all<;>lia
theorem alF{dn:Nat->List Let}{ls:List (Nat×Let)}{d:Nat}{l:Let}(h:l∈post dn ls d):l∈dn d\/(d,l)∈ls:=by
 induction ls generalizing dn with
 | nil=>exact .inl h
 | cons x ls ih =>
   rw[PL]at h
   rcases ih h with h | h
   ·by_cases e:d=x.1
    ·subst e
     rw[aL]at h
     rcases List.mem_append.mp h with h | h
     ·exact .inl h
     ·have:l=x.2:=by simpa using h
      exact .inr (by rw[this];exact List.mem_cons_self)
    ·rw[bD _ _ e]at h;exact .inl h
   ·exact .inr (List.mem_cons_of_mem _ h)
structure jU(n m:Nat)(S:TS):Prop where
 pn:∀p,p<m->Tf n (S.pg p)
 am:∀p,p<m->((S.pg p).ask=[]↔(S.pg p).miss=0)
 up:∀d,d<n->∀l∈S.up d,l.pg<m/\∀p r,l=.ask p r->r=.rd\/r=.wr
 dn:∀d,d<n->∀l∈S.dn d,∃p:Nat,p<m/\l.pg=(p:Int)/\l.nice
 ws:∀d,d<n->∀w,(S.ds d).ws=some w->∃p:Nat,p<m/\w.pg=(p:Int)
 ct:∀p,p<m->(cnt n p S.up S.dn:Int)=(S.pg p).miss
theorem jU.take{n m d:Nat}{S:TS}{l:UL}{r:List UL}(I:jU n m S)(hd:d<n)(e:S.up d=l::r):jU n m (S.ahR d l r)/\l.pg<m/\l.good (S.pg l.pg)/\Hm n l.pg ((S.pg l.pg).take l.pg d l).2:=by
 obtain⟨hp,hr⟩:=I.up d hd l (by rw[e];simp)
 have hcu:=acs (p:=l.pg) (up:=S.up) (dn:=S.dn) hd r
 have h1:(S.up d).countP (UL.an l.pg)=r.countP (UL.an l.pg)+if l.an l.pg then 1 else 0:=by rw[e,List.countP_cons]
 have hct:=I.ct l.pg hp
 have hcc:((cnt n l.pg (bL S.up d r) S.dn+if l.an l.pg then 1 else 0:Nat):Int)=(S.pg l.pg).miss:=by
  rw[<-hct]
  have:cnt n l.pg (bL S.up d r) S.dn+(if l.an l.pg then 1 else 0)=cnt n l.pg S.up S.dn:=by lia
  rw[this]
 obtain⟨i1,i2,i3,i4,i5⟩:=PG.alE (I.pn l.pg hp) (I.am l.pg hp) hd hr rfl hcc
 refine⟨⟨fun p h=>?_,fun p h=>?_,fun e' he l' hl=>?_,fun e' he l' hl=>?_,I.ws,fun p h=>?_⟩,hp,i5,i2⟩
 ·show Tf n (bL S.pg l.pg _ p)
  by_cases z:p=l.pg
  ·rw[z,aL];exact i1
  ·rw[bD _ _ z];exact I.pn p h
 ·show(bL S.pg l.pg _ p).ask=[]↔(bL S.pg l.pg _ p).miss=0
  by_cases z:p=l.pg
  ·rw[z,aL];exact i4
  ·rw[bD _ _ z];exact I.am p h
 ·have hl':l'∈bL S.up d r e':=hl
  by_cases z:e'=d
  ·rw[z,aL]at hl';exact I.up d hd l' (by rw[e];exact List.mem_cons_of_mem _ hl')
  ·rw[bD _ _ z]at hl';exact I.up e' he l' hl'
 ·rcases alF (show l'∈post S.dn _ e' from hl)with h | h
  ·exact I.dn e' he l' h
  ·obtain⟨_,h2,h3⟩:=i2 _ h
   exact⟨l.pg,hp,h2,h3⟩
 ·show(cnt n p (bL S.up d r) (post S.dn _):Int)=(bL S.pg l.pg _ p).miss
  rw[afH _ fun q hq=>(i2 q hq).1]
  by_cases z:p=l.pg
  ·subst z
   rw[aL,<-i3,Nat.add_comm]
  ·rw[bD _ _ z,<-I.ct p h]
   have h2:=acs (p:=p) (up:=S.up) (dn:=S.dn) hd r
   have h3:(S.up d).countP (UL.an p)=r.countP (UL.an p):=by
    rw[e,List.countP_cons]
    have:l.an p=false:=by cases l<;>simp_all [UL.an,UL.pg];lia
    rw[this];simp
   have h4:(((S.pg l.pg).take l.pg d l).2.countP fun q=>q.2.bk p)=0:=by
    rw[List.countP_eq_zero]
    intro q hq hb
    obtain⟨_,h5,_⟩:=i2 q hq
    cases hq2:q.2 with
    | lend a b c=>rw[hq2]at hb;simp[Let.bk]at hb
    | back a b =>
      rw[hq2]at hb h5
      simp only[Let.bk,decide_eq_true_eq]at hb
      have h6:a=(l.pg:Int):=h5
      lia
   rw[h4]
   have:cnt n p (bL S.up d r) S.dn=cnt n p S.up S.dn:=by lia
   rw[this];rfl
theorem jU.jx{n m d:Nat}{S:TS}{z:DS×List Ev×List UL}(I:jU n m S)(hd:d<n)(hu:∀l∈z.2.2,l.pg<m/\∀p r,l=.ask p r->r=.rd\/r=.wr)(hw:∀w,z.1.ws=some w->∃p:Nat,p<m/\w.pg=(p:Int))(ha:∀p,z.2.2.countP (UL.an p)=0):jU n m (S.jx d z):=by
 refine⟨I.pn,I.am,fun e he l hl=>?_,I.dn,fun e he w h=>?_,fun p h=>?_⟩
 ·have hl':l∈bL S.up d (S.up d++z.2.2) e:=hl
  by_cases y:e=d
  ·rw[y,aL]at hl'
   rcases List.mem_append.mp hl' with hl' | hl'
   ·exact I.up d hd l hl'
   ·exact hu l hl'
  ·rw[bD _ _ y]at hl';exact I.up e he l hl'
 ·have h':(bL S.ds d z.1 e).ws=some w:=h
  by_cases y:e=d
  ·rw[y,aL]at h';exact hw w h'
  ·rw[bD _ _ y]at h';exact I.ws e he w h'
 ·show(cnt n p (bL S.up d (S.up d++z.2.2)) S.dn:Int)=(S.pg p).miss
  rw[<-I.ct p h]
  have:=acs (p:=p) (up:=S.up) (dn:=S.dn) hd (S.up d++z.2.2)
  rw[List.countP_append,ha p]at this
  have:cnt n p (bL S.up d (S.up d++z.2.2)) S.dn=cnt n p S.up S.dn:=by lia
  rw[this]
theorem DS.acu(S:DS)(p:Int)(r:Rt)(x:Int):(S.hold p r x).ws=S.ws:=rfl
theorem DS.ajb(S:DS)(w:W):(S.done w).ws=S.ws:=by cases w<;>rfl
theorem jU.vO{n m d p:Nat}{S:TS}(I:jU n m S)(hd:d<n)(hp:p<m):jU n m (S.vO d p):=by
 refine I.jx hd ?_ (fun w h=>I.ws d hd w h) fun q=>?_
 ·intro l hl
  have hl':l∈(if(S.ds d).rt p=.wr then [UL.gave p ((S.ds d).nm p)]else []):=hl
  split at hl'
  ·have this:=List.mem_singleton.mp hl'
   rw[this];exact⟨hp,fun _ _ z=>by cases z⟩
  ·cases hl'
 ·show(if(S.ds d).rt p=.wr then [UL.gave p ((S.ds d).nm p)]else []).countP (UL.an q)=0
  split<;>simp[UL.an]
theorem W.anR(w:W):w.need=.rd\/w.need=.wr:=by cases w<;>simp[W.need]
theorem jU.want{n m d p:Nat}{S:TS}{w:W}(I:jU n m S)(hd:d<n)(hp:p<m)(hw:w.pg=(p:Int)):jU n m (S.jx d ((S.ds d).iJ w p)):=by
 unfold DS.iJ
 split
 ·refine I.jx hd (fun l hl=>by cases hl) (fun w' h=>?_) fun q=>rfl
  have h':((S.ds d).done w).ws=some w':=h
  rw[DS.ajb]at h'
  exact I.ws d hd w' h'
 ·refine I.jx hd (fun l hl=>?_) (fun w' h=>?_) fun q=>by simp[UL.an]
  ·have this:=List.mem_singleton.mp hl
   rw[this];exact⟨hp,fun q r e=>by cases e;exact w.anR⟩
  ·have h':some w=some w':=h
   cases h'
   exact⟨p,hp,hw⟩
theorem jU.Te{n m d:Nat}{S:TS}{l:Let}{r:List Let}(I:jU n m S)(hd:d<n)(e:S.dn d=l::r):jU n m (S.Te d l r):=by
 obtain⟨p,hp,hlp,hn⟩:=I.dn d hd l (by rw[e];simp)
 have hdn:∀e' ,e'<n->∀l'∈bL S.dn d r e',∃p:Nat,p<m/\l'.pg=(p:Int)/\l'.nice:=fun e' he l' hl=>by
  by_cases y:e'=d
  ·rw[y,aL]at hl;exact I.dn d hd l' (by rw[e];exact List.mem_cons_of_mem _ hl)
  ·rw[bD _ _ y]at hl;exact I.dn e' he l' hl
 cases l with
 | lend q x k =>
   have I1:jU n m {S with dn:=bL S.dn d r}:=⟨I.pn,I.am,I.up,hdn,I.ws,fun p h=>by
    show(cnt n p S.up (bL S.dn d r):Int)=_
    rw[<-I.ct p h]
    have:=ahX (p:=p) (up:=S.up) (dn:=S.dn) hd r
    rw[e,List.countP_cons]at this
    simp[Let.bk]at this
    rw[this]⟩
   refine I1.jx hd (fun l hl=>by cases hl) (fun w h=>?_) fun q=>rfl
   have h':((S.ds d).pK q x k).1.ws=some w:=h
   unfold DS.pK at h'
   cases hws:(S.ds d).ws with
   | none=>rw[hws]at h';rw[DS.acu,hws]at h';cases h'
   | some w0 =>
     rw[hws]at h'
     dsimp only at h'
     split at h'
     ·rw[DS.ajb]at h';cases h'
     ·rw[DS.acu,hws]at h';cases h';exact I.ws d hd _ hws
 | back q x =>
   have hq:q=(p:Int):=hlp
   refine⟨I.pn,I.am,fun e' he l' hl=>?_,hdn,fun e' he w h=>?_,fun p' h=>?_⟩
   ·have hl':l'∈bL S.up d (S.up d++[UL.ans q.toNat ((S.ds d).mJ q)]) e':=hl
    by_cases y:e'=d
    ·rw[y,aL]at hl'
     rcases List.mem_append.mp hl' with hl' | hl'
     ·exact I.up d hd l' hl'
     ·have this:=List.mem_singleton.mp hl'
      rw[this];exact⟨by show q.toNat<m;rw[hq];exact hp,fun _ _ z=>by cases z⟩
    ·rw[bD _ _ y]at hl';exact I.up e' he l' hl'
   ·have h':(bL S.ds d ((S.ds d).down q x) e').ws=some w:=h
    by_cases y:e'=d
    ·rw[y,aL]at h'
     refine I.ws d hd w ?_
     unfold DS.down at h'
     split at h'
     ·exact h'
     ·exact h'
    ·rw[bD _ _ y]at h';exact I.ws e' he w h'
   ·show(cnt n p' (bL S.up d (S.up d++[UL.ans q.toNat ((S.ds d).mJ q)])) (bL S.dn d r):Int)=(S.pg p').miss
    rw[<-I.ct p' h]
    have h1:=acs (p:=p') (up:=S.up) (dn:=bL S.dn d r) hd (S.up d++[UL.ans q.toNat ((S.ds d).mJ q)])
    have h2:=ahX (p:=p') (up:=S.up) (dn:=S.dn) hd r
    rw[List.countP_append]at h1
    rw[e,List.countP_cons]at h2
    have h3:[UL.ans q.toNat ((S.ds d).mJ q)].countP (UL.an p')=if(Let.back q x).bk p' then 1 else 0:=by
     rw[hq]
     simp only[List.countP_cons,List.countP_nil,UL.an,Let.bk,Int.toNat_natCast,Nat.zero_add]
     by_cases z:p=p'
     ·subst z;simp
     ·have:¬((p:Int)=(p':Int)):=by lia
      simp[z,this]
    have:cnt n p' (bL S.up d (S.up d++[UL.ans q.toNat ((S.ds d).mJ q)])) (bL S.dn d r)=cnt n p' S.up S.dn:=by lia
    rw[this]
theorem jU.step{n m:Nat}{S:TS}(I:jU n m S)(x:cG):jU n m (S.step n m x).1:=by
 cases x with
 | up d =>
   simp only[TS.step]
   split
   ·rename_i h
    have hd:d.toNat<n:=by unfold inR at h;lia
    unfold TS.upD
    cases e:S.up d.toNat with
    | nil=>exact I
    | cons l r=>exact(I.take hd e).1
   ·exact I
 | down d =>
   simp only[TS.step]
   split
   ·rename_i h
    have hd:d.toNat<n:=by unfold inR at h;lia
    unfold TS.Wt
    cases e:S.dn d.toNat with
    | nil=>exact I
    | cons l r=>exact I.Te hd e
   ·exact I
 | rest d p =>
   simp only[TS.step]
   split
   ·rename_i h
    split
    ·rename_i h2
     split
     ·exact I
     ·exact I.vO (by unfold inR at h;lia) (by unfold inR at h2;lia)
    ·exact I
   ·exact I
 | look d p =>
   simp only[TS.step]
   split
   ·rename_i h
    split
    ·rename_i h2
     unfold TS.wish
     split
     ·exact I
     ·exact I.want (by unfold inR at h;lia) (by unfold inR at h2;lia) (by show p=_;unfold inR at h2;lia)
    ·exact I
   ·exact I
 | put d p x =>
   simp only[TS.step]
   split
   ·rename_i h
    split
    ·rename_i h2
     unfold TS.wish
     split
     ·exact I
     ·exact I.want (by unfold inR at h;lia) (by unfold inR at h2;lia) (by show p=_;unfold inR at h2;lia)
    ·exact I
   ·exact I
end gH
namespace gH
open PySem L2
theorem arH(x:V)(xs:List V):Py (x::xs) 0=some x:=yL (j:=0) rfl
theorem UL.at1(l:UL):Py l.vs 1=some (.int l.pg):=by cases l<;>rfl
theorem bM{m p:Nat}{f:Nat->V}(h:p<m):Py ((List.range m).map f) (p:Int)=some (f p):=yL (by rw[List.getElem?_map,List.getElem?_range h];rfl)
theorem ap9{X:Cx}{K:PySem.W.Frag}{r:PySem.W.Frag->R2}(h:IxR X (r X.K))(e:X.K=K):IxR X (r K):=e▸h
theorem ZK{X:Cx}{K:PySem.W.Frag}(e:X.K=K):Rq X (.builtin "len") (fun xs H Q=>∃p ys,xs=[.ref p]/\(cu K H p ys\/di K H p ys)/\Q (.int ys.length) H):=by subst e;exact dU
theorem ZL{X:Cx}{K:PySem.W.Frag}(e:X.K=K):Rq X (.type "list") (fun xs H Q=>∃p ys,xs=[.ref p]/\(cu K H p ys\/di K H p ys)/\∀l,H l=none->Q (.ref l) (upd H l (.lst ys))):=by subst e;exact yM
theorem anS{X:Cx}{K:PySem.W.Frag}{e:Expr}{f:Str}{pos:Pos}{ta:TE}(hK:X.K=K)(he:PE X e ta)(hb:attributeBase e f X.env (eval e X.env)=eval e X.env):PE X (.Attribute e f pos) (ace K ta f):=by subst hK;exact cI he hb
theorem ajc{X:Cx}{K:PySem.W.Frag}{pos:Pos}{es:List Expr}{k:Nat}{t:TGs}{n:Nat}(hK:X.K=K)(hc:X.calm=true)(h:PGs X es t)
 (hn:(assignEach es X.env).length=n:=by rfl) (hst:(assignEach es X.env).findIdx? (·.1)=none:=by rfl):L2.PG X (.Tuple es k pos) (aut K n t):=by subst hK;exact Pq hc h hn hst
end gH
namespace gH
open PySem L2
inductive Mb where
 | bf | row | dF | cV | sent | rights | copies | ups | downs
 | rt (d:Nat) | cp (d:Nat) | up (d:Nat) | dn (d:Nat) | bR (p:Nat) | iM (p:Nat) | jJ (p:Nat)
 deriving DecidableEq
def Mb.ok(n m:Nat):Mb->Prop
 | .rt d=>d<n
 | .cp d=>d<n
 | .up d=>d<n
 | .dn d=>d<n
 | .bR p=>p<m
 | .iM p=>p<m
 | .jJ p=>p<m
 | _=>True
def ks(x:Str):Key:=Sum.inr x
def tkv(A:Mb->Addr):List (Key×V):=[(ks "row",.ref (A .row)),(ks "wishes",.ref (A .dF)),(ks "shelves",.ref (A .cV)),(ks "sent",.ref (A .sent)),(ks "rights",.ref (A .rights)),(ks "copies",.ref (A .copies)),(ks "ups",.ref (A .ups)),(ks "downs",.ref (A .downs))]
def wrI:Option Nat->Int
 | none => -1
 | some w=>w
def yF(g:PG)(r q:Addr):List (Key×V):=[(ks "number",.int g.num),(ks "writer",.int (wrI g.wr)),(ks "readers",.ref r),(ks "asked",.ref q),(ks "missing",.int g.miss)]
section
variable{A:Mb->Addr}{g:PG}{r q:Addr}
theorem anT:fP (tkv A) (ks "row")=some (.ref (A .row)):=by kernel_rfl
theorem lG:fP (tkv A) (ks "wishes")=some (.ref (A .dF)):=by kernel_rfl
theorem jV:fP (tkv A) (ks "shelves")=some (.ref (A .cV)):=by kernel_rfl
theorem afI:fP (tkv A) (ks "sent")=some (.ref (A .sent)):=by kernel_rfl
theorem lH:fP (tkv A) (ks "rights")=some (.ref (A .rights)):=by kernel_rfl
theorem rZ:fP (tkv A) (ks "copies")=some (.ref (A .copies)):=by kernel_rfl
theorem G8:fP (tkv A) (ks "ups")=some (.ref (A .ups)):=by kernel_rfl
theorem xm:fP (tkv A) (ks "downs")=some (.ref (A .downs)):=by kernel_rfl
theorem ahY:fP (yF g r q) (ks "number")=some (.int g.num):=by kernel_rfl
theorem su:fP (yF g r q) (ks "writer")=some (.int (wrI g.wr)):=by kernel_rfl
theorem uK:fP (yF g r q) (ks "readers")=some (.ref r):=by kernel_rfl
theorem G9:fP (yF g r q) (ks "asked")=some (.ref q):=by kernel_rfl
theorem uL:fP (yF g r q) (ks "missing")=some (.int g.miss):=by kernel_rfl
theorem Hn{n:Int}:putK (yF g r q) (ks "number") (.int n)=yF {g with num:=n} r q:=by kernel_rfl
theorem DR:putK (yF g r q) (ks "writer") (.int (-1))=yF {g with wr:=none} r q:=by kernel_rfl
theorem Ww{w:Nat}:putK (yF g r q) (ks "writer") (.int w)=yF {g with wr:=some w} r q:=by kernel_rfl
theorem Wx{r':Addr}{l:List Nat}:putK (yF g r q) (ks "readers") (.ref r')=yF {g with rd:=l} r' q:=by kernel_rfl
theorem DW{k:Int}:putK (yF g r q) (ks "missing") (.int k)=yF {g with miss:=k} r q:=by kernel_rfl
theorem uM:(yF g r q).length<sizeLine:=by show 5<sizeLine;decide
end
def MG(A:Mb->Addr)(H:Hp)(n m:Nat)(S:TS)(se:List (Nat×Let)):Mb->HO->Prop
 | .bf,o=>o=.dK (tkv A)
 | .row,o=>∃vs,o=.lst vs/\aH H vs (S.row.map RE.d)
 | .dF,o=>∃vs,o=.lst vs/\vs.length=n/\∀d,d<n->∃v,vs[d]? = some v/\rT H v (S.ds d).ws
 | .cV,o=>o=.lst ((List.range m).map fun p=>V.ref (A (.bR p)))
 | .sent,o=>∃vs,o=.lst vs/\aH H vs (se.map pairD)
 | .rights,o=>o=.lst ((List.range n).map fun d=>V.ref (A (.rt d)))
 | .copies,o=>o=.lst ((List.range n).map fun d=>V.ref (A (.cp d)))
 | .ups,o=>o=.lst ((List.range n).map fun d=>V.ref (A (.up d)))
 | .downs,o=>o=.lst ((List.range n).map fun d=>V.ref (A (.dn d)))
 | .rt d,o=>o=.lst ((List.range m).map fun p:Nat=>V.str ((S.ds d).rt p).s)
 | .cp d,o=>o=.lst ((List.range m).map fun p:Nat=>V.int ((S.ds d).nm p))
 | .up d,o=>∃vs,o=.lst vs/\aH H vs ((S.up d).map UL.d)
 | .dn d,o=>∃vs,o=.lst vs/\aH H vs ((S.dn d).map Let.d)
 | .bR p,o=>o=.dK (yF (S.pg p) (A (.iM p)) (A (.jJ p)))
 | .iM p,o=>o=.lst ((S.pg p).rd.map nV)
 | .jJ p,o=>∃vs,o=.lst vs/\aH H vs ((S.pg p).ask.map BZ)
theorem UL.flat(l:UL):l.d.flat:=by
 cases l with
 | ask p r=>simp[UL.d,D.flat,D.flats]
 | ans p o=>cases o<;>simp[UL.d,oD,D.flat,D.flats]
 | gave p n=>simp[UL.d,D.flat,D.flats]
theorem bW{α:Type}{f:α->D}(h:∀x,(f x).flat)(l:List α):D.flats (l.map f):=by
 induction l with
 | nil=>simp[D.flats]
 | cons x l ih=>simp only[List.map_cons,D.flats];exact⟨h x,ih⟩
theorem RE.flat(e:RE):e.d.flat:=by simp[RE.d,D.flat,D.flats]
theorem MG.mono{A:Mb->Addr}{H H':Hp}{n m:Nat}{S:TS}{se:List (Nat×Let)}(t:b8 H H'){x:Mb}{o:HO}(h:MG A H n m S se x o):MG A H' n m S se x o:=by
 cases x with
 | row=>obtain⟨vs,e,r⟩:=h;exact⟨vs,e,r.aX t (bW RE.flat _)⟩
 | dF=>obtain⟨vs,e,l,k⟩:=h;exact⟨vs,e,l,fun d hd=>by obtain⟨v,e1,e2⟩:=k d hd;exact⟨v,e1,e2.aX t⟩⟩
 | sent=>obtain⟨vs,e,r⟩:=h;exact⟨vs,e,r.aX t (cY _)⟩
 | up d=>obtain⟨vs,e,r⟩:=h;exact⟨vs,e,r.aX t (bW UL.flat _)⟩
 | dn d=>obtain⟨vs,e,r⟩:=h;exact⟨vs,e,r.aX t (bW Let.flat _)⟩
 | jJ p=>obtain⟨vs,e,r⟩:=h;exact⟨vs,e,r.aX t (kj _)⟩
 | _=>exact h
theorem MG.aqa{A:Mb->Addr}{H:Hp}{n m:Nat}{S:TS}{se:List (Nat×Let)}{x:Mb}{o:HO}(h:MG A H n m S se x o):∀xs,o≠.tup xs:=by
 intro xs z
 subst z
 cases x<;>first
  | (obtain⟨vs,e,_⟩:=h;cases e)
  | cases h
structure aZ(H:Hp)(A:Mb->Addr)(n m:Nat)(S:TS)(se:List (Nat×Let)):Prop where
 inj:∀x y:Mb,x.ok n m->y.ok n m->A x=A y->x=y
 at_:∀x:Mb,x.ok n m->∃o,H (A x)=some o/\MG A H n m S se x o
structure mK(H H':Hp)(A:Mb->Addr)(n m:Nat):Prop where
 kp:∀b o,H b=some o->(∀x:Mb,x.ok n m->b≠A x)->H' b=some o
 lv:Lv H H'
theorem mK.refl(H:Hp)(A:Mb->Addr)(n m:Nat):mK H H A n m:=⟨fun _ _ h _=>h,Lv.refl _⟩
def Mv(H:Hp)(A A1:Mb->Addr)(n m:Nat):Prop:=∀x:Mb,x.ok n m->A1 x=A x\/((∃p,x=.iM p)/\H (A1 x)=none)
theorem Mv.refl(H:Hp)(A:Mb->Addr)(n m:Nat):Mv H A A n m:=fun _ _=>.inl rfl
theorem mK.trans{H H1 H2:Hp}{A A1:Mb->Addr}{n m:Nat}(x:mK H H1 A n m)(y:mK H1 H2 A1 n m)(h:Mv H A A1 n m):mK H H2 A n m:=⟨fun b o hb hn=>y.kp b o (x.kp b o hb hn) fun z hz=>by
 rcases h z hz with e | ⟨_,e⟩
 ·rw[e];exact hn z hz
 ·exact aG hb e,x.lv.trans y.lv⟩
theorem Mv.trans{H H1:Hp}{A A1 A2:Mb->Addr}{n m:Nat}(x:Mv H A A1 n m)(l:Lv H H1)(y:Mv H1 A1 A2 n m):Mv H A A2 n m:=fun z hz=>by
 rcases y z hz with e | ⟨i,e⟩
 ·rw[e];exact x z hz
 ·exact .inr ⟨i,l _ e⟩
theorem Mv.bf{H:Hp}{A A1:Mb->Addr}{n m:Nat}(x:Mv H A A1 n m):A1 .bf=A .bf:=(x .bf trivial).elim id fun z=>by obtain⟨⟨p,e⟩,_⟩:=z;cases e
section
variable{H H':Hp}{A:Mb->Addr}{n m:Nat}{S S':TS}{se se':List (Nat×Let)}
theorem aZ.keep(M:aZ H A n m S se)(t:b8 H H')(k:∀x:Mb,x.ok n m->∀o,H (A x)=some o->H' (A x)=some o):aZ H' A n m S se :=
 ⟨M.inj,fun x hx=>by obtain⟨o,e,g⟩:=M.at_ x hx;exact⟨o,k x hx o e,g.mono t⟩⟩
theorem aZ.same(M:aZ H A n m S se)(s:bY H H'):aZ H' A n m S se:=M.keep (aY s) fun x _ o e=>s _ o e
theorem mK.of_same(s:bY H H'):mK H H' A n m:=⟨fun b o e _=>s b o e,Lv.same s⟩
theorem mK.tups(M:aZ H A n m S se)(f:mK H H' A n m):b8 H H':=fun b xs e=>f.kp b _ e fun x hx z=>by
 obtain⟨o,e1,g⟩:=M.at_ x hx
 rw[<-z,e]at e1
 exact g.aqa xs (Option.some.inj e1).symm
theorem aZ.tup_ne(M:aZ H A n m S se){x:Mb}(hx:x.ok n m){b:Addr}{xs:List V}(e:H b=some (.tup xs)):b≠A x:=fun z=>by
 obtain⟨o,e1,g⟩:=M.at_ x hx
 rw[<-z,e]at e1
 exact g.aqa xs (Option.some.inj e1).symm
theorem aZ.set(M:aZ H A n m S se){x:Mb}(hx:x.ok n m){o':HO}(hg:b8 H (upd H (A x) o')->MG A (upd H (A x) o') n m S' se' x o')
 (ho:∀y:Mb,y.ok n m->y≠x->∀o,MG A H n m S se y o->MG A H n m S' se' y o):aZ (upd H (A x) o') A n m S' se'/\mK H (upd H (A x) o') A n m:=by
 have t:b8 H (upd H (A x) o'):=fun b xs e=>by rw[az (M.tup_ne hx e)];exact e
 refine⟨⟨M.inj,fun y hy=>?_⟩,⟨fun b o e hn=>by rw[az (hn x hx)];exact e,Lv.upd⟩⟩
 by_cases e:y=x
 ·subst e;exact⟨o',aj,hg t⟩
 ·obtain⟨o,e1,g⟩:=M.at_ y hy
  refine⟨o,?_,(ho y hy e o g).mono t⟩
  rw[az fun z=>e (M.inj y x hy hx z)]
  exact e1
theorem aZ.DX{x:Mb}(M:aZ H A n m S se)(hx:x.ok n m){b:Addr}(h:H b=none):A x≠b:=fun z=>by
 obtain⟨o,e1,_⟩:=M.at_ x hx
 rw[z,h]at e1;cases e1
theorem aZ.bf(M:aZ H A n m S se):H (A .bf)=some (.dK (tkv A)):=by obtain⟨o,e,g⟩:=M.at_ .bf trivial;rw[e,show o=_ from g]
theorem aZ.cV(M:aZ H A n m S se):H (A .cV)=some (.lst ((List.range m).map fun p=>V.ref (A (.bR p)))):=by obtain⟨o,e,g⟩:=M.at_ .cV trivial;rw[e,show o=_ from g]
theorem aZ.rights(M:aZ H A n m S se):H (A .rights)=some (.lst ((List.range n).map fun p=>V.ref (A (.rt p)))):=by obtain⟨o,e,g⟩:=M.at_ .rights trivial;rw[e,show o=_ from g]
theorem aZ.copies(M:aZ H A n m S se):H (A .copies)=some (.lst ((List.range n).map fun p=>V.ref (A (.cp p)))):=by obtain⟨o,e,g⟩:=M.at_ .copies trivial;rw[e,show o=_ from g]
theorem aZ.ups(M:aZ H A n m S se):H (A .ups)=some (.lst ((List.range n).map fun p=>V.ref (A (.up p)))):=by obtain⟨o,e,g⟩:=M.at_ .ups trivial;rw[e,show o=_ from g]
theorem aZ.downs(M:aZ H A n m S se):H (A .downs)=some (.lst ((List.range n).map fun p=>V.ref (A (.dn p)))):=by obtain⟨o,e,g⟩:=M.at_ .downs trivial;rw[e,show o=_ from g]
theorem aZ.rt(M:aZ H A n m S se){d:Nat}(h:d<n):H (A (.rt d))=some (.lst ((List.range m).map fun p:Nat=>V.str ((S.ds d).rt p).s)):=by obtain⟨o,e,g⟩:=M.at_ (.rt d) h;rw[e,show o=_ from g]
theorem aZ.cp(M:aZ H A n m S se){d:Nat}(h:d<n):H (A (.cp d))=some (.lst ((List.range m).map fun p:Nat=>V.int ((S.ds d).nm p))):=by obtain⟨o,e,g⟩:=M.at_ (.cp d) h;rw[e,show o=_ from g]
theorem aZ.bR(M:aZ H A n m S se){p:Nat}(h:p<m):H (A (.bR p))=some (.dK (yF (S.pg p) (A (.iM p)) (A (.jJ p)))):=by obtain⟨o,e,g⟩:=M.at_ (.bR p) h;rw[e,show o=_ from g]
theorem aZ.iM(M:aZ H A n m S se){p:Nat}(h:p<m):H (A (.iM p))=some (.lst ((S.pg p).rd.map nV)):=by obtain⟨o,e,g⟩:=M.at_ (.iM p) h;rw[e,show o=_ from g]
theorem aZ.jJ(M:aZ H A n m S se){p:Nat}(h:p<m):∃vs,H (A (.jJ p))=some (.lst vs)/\aH H vs ((S.pg p).ask.map BZ):=by obtain⟨o,e,vs,g,r⟩:=M.at_ (.jJ p) h;exact⟨vs,by rw[e,g],r⟩
theorem aZ.up(M:aZ H A n m S se){d:Nat}(h:d<n):∃vs,H (A (.up d))=some (.lst vs)/\aH H vs ((S.up d).map UL.d):=by obtain⟨o,e,vs,g,r⟩:=M.at_ (.up d) h;exact⟨vs,by rw[e,g],r⟩
theorem aZ.dn(M:aZ H A n m S se){d:Nat}(h:d<n):∃vs,H (A (.dn d))=some (.lst vs)/\aH H vs ((S.dn d).map Let.d):=by obtain⟨o,e,vs,g,r⟩:=M.at_ (.dn d) h;exact⟨vs,by rw[e,g],r⟩
theorem aZ.row(M:aZ H A n m S se):∃vs,H (A .row)=some (.lst vs)/\aH H vs (S.row.map RE.d):=by obtain⟨o,e,vs,g,r⟩:=M.at_ .row trivial;exact⟨vs,by rw[e,g],r⟩
theorem aZ.sent(M:aZ H A n m S se):∃vs,H (A .sent)=some (.lst vs)/\aH H vs (se.map pairD):=by obtain⟨o,e,vs,g,r⟩:=M.at_ .sent trivial;exact⟨vs,by rw[e,g],r⟩
theorem aZ.dF(M:aZ H A n m S se):∃vs,H (A .dF)=some (.lst vs)/\vs.length=n/\∀d,d<n->∃v,vs[d]? = some v/\rT H v (S.ds d).ws:=by obtain⟨o,e,vs,g,r⟩:=M.at_ .dF trivial;exact⟨vs,by rw[e,g],r⟩
theorem aZ.alG(M:aZ H A n m S se){vs:List V}(r:aH H vs (se'.map pairD)):aZ (upd H (A .sent) (.lst vs)) A n m S se'/\mK H (upd H (A .sent) (.lst vs)) A n m :=
 M.set (x:=.sent) trivial (fun t=>⟨vs,rfl,r.aX t (cY _)⟩) fun y _ hn o h=>by cases y<;>first | exact h | exact absurd rfl hn
theorem aZ.alH(M:aZ H A n m S se){vs:List V}{l:List RE}(r:aH H vs (l.map RE.d)):aZ (upd H (A .row) (.lst vs)) A n m {S with row:=l} se/\mK H (upd H (A .row) (.lst vs)) A n m :=
 M.set (x:=.row) trivial (fun t=>⟨vs,rfl,r.aX t (bW RE.flat _)⟩) fun y _ hn o h=>by cases y<;>first | exact h | exact absurd rfl hn
theorem aZ.afJ(M:aZ H A n m S se){d:Nat}(hd:d<n){vs:List V}{l:List UL}(r:aH H vs (l.map UL.d)):aZ (upd H (A (.up d)) (.lst vs)) A n m {S with up:=bL S.up d l} se/\mK H (upd H (A (.up d)) (.lst vs)) A n m :=
 M.set (x:=.up d) hd (fun t=>⟨vs,rfl,by dsimp only;rw[aL];exact r.aX t (bW UL.flat _)⟩) fun y _ hn o h=>by
  cases y with
  | up e =>
    have hne:e≠d:=fun z=>hn (by rw[z])
    show ∃vs,o=.lst vs/\aH H vs ((bL S.up d l e).map UL.d)
    rw[bD _ _ hne]
    exact h
  | _=>exact h
theorem aZ.aj6(M:aZ H A n m S se){d:Nat}(hd:d<n){vs:List V}{l:List Let}(r:aH H vs (l.map Let.d)):aZ (upd H (A (.dn d)) (.lst vs)) A n m {S with dn:=bL S.dn d l} se/\mK H (upd H (A (.dn d)) (.lst vs)) A n m :=
 M.set (x:=.dn d) hd (fun t=>⟨vs,rfl,by dsimp only;rw[aL];exact r.aX t (bW Let.flat _)⟩) fun y _ hn o h=>by
  cases y with
  | dn e =>
    have hne:e≠d:=fun z=>hn (by rw[z])
    show ∃vs,o=.lst vs/\aH H vs ((bL S.dn d l e).map Let.d)
    rw[bD _ _ hne]
    exact h
  | _=>exact h
theorem aZ.arI(M:aZ H A n m S se){d:Nat}(hd:d<n){D':DS}(e1:D'.nm=(S.ds d).nm)(e2:D'.ws=(S.ds d).ws):aZ (upd H (A (.rt d)) (.lst ((List.range m).map fun p:Nat=>V.str (D'.rt p).s))) A n m {S with ds:=bL S.ds d D'} se/\mK H (upd H (A (.rt d)) (.lst ((List.range m).map fun p:Nat=>V.str (D'.rt p).s))) A n m :=
 M.set (x:=.rt d) hd (fun t=>by dsimp only[MG];rw[aL]) fun y hy hn o h=>by
  cases y with
  | rt e =>
    have hne:e≠d:=fun z=>hn (by rw[z])
    show o=.lst ((List.range m).map fun p:Nat=>V.str ((bL S.ds d D' e).rt p).s)
    rw[bD _ _ hne]
    exact h
  | cp e =>
    show o=.lst ((List.range m).map fun p:Nat=>V.int ((bL S.ds d D' e).nm p))
    by_cases z:e=d
    ·rw[z,aL,e1,<-z];exact h
    ·rw[bD _ _ z];exact h
  | dF =>
    obtain⟨vs,g,l,k⟩:=h
    refine⟨vs,g,l,fun e he=>?_⟩
    obtain⟨v,k1,k2⟩:=k e he
    refine⟨v,k1,?_⟩
    show rT H v (bL S.ds d D' e).ws
    by_cases z:e=d
    ·rw[z,aL,e2,<-z];exact k2
    ·rw[bD _ _ z];exact k2
  | _=>exact h
theorem aZ.au3(M:aZ H A n m S se){d:Nat}(hd:d<n){D':DS}(e1:D'.rt=(S.ds d).rt)(e2:D'.ws=(S.ds d).ws):aZ (upd H (A (.cp d)) (.lst ((List.range m).map fun p:Nat=>V.int (D'.nm p)))) A n m {S with ds:=bL S.ds d D'} se/\mK H (upd H (A (.cp d)) (.lst ((List.range m).map fun p:Nat=>V.int (D'.nm p)))) A n m :=
 M.set (x:=.cp d) hd (fun t=>by dsimp only[MG];rw[aL]) fun y hy hn o h=>by
  cases y with
  | cp e =>
    have hne:e≠d:=fun z=>hn (by rw[z])
    show o=.lst ((List.range m).map fun p:Nat=>V.int ((bL S.ds d D' e).nm p))
    rw[bD _ _ hne]
    exact h
  | rt e =>
    show o=.lst ((List.range m).map fun p:Nat=>V.str ((bL S.ds d D' e).rt p).s)
    by_cases z:e=d
    ·rw[z,aL,e1,<-z];exact h
    ·rw[bD _ _ z];exact h
  | dF =>
    obtain⟨vs,g,l,k⟩:=h
    refine⟨vs,g,l,fun e he=>?_⟩
    obtain⟨v,k1,k2⟩:=k e he
    refine⟨v,k1,?_⟩
    show rT H v (bL S.ds d D' e).ws
    by_cases z:e=d
    ·rw[z,aL,e2,<-z];exact k2
    ·rw[bD _ _ z];exact k2
  | _=>exact h
theorem aZ.alI(M:aZ H A n m S se){d:Nat}(hd:d<n){vs:List V}{v:V}{o:Option W}(hv:H (A .dF)=some (.lst vs))(hw:rT H v o) :
 aZ (upd H (A .dF) (.lst (vs.set d v))) A n m {S with ds:=bL S.ds d {S.ds d with ws:=o}} se/\mK H (upd H (A .dF) (.lst (vs.set d v))) A n m:=by
 obtain⟨us,h1,h2,h3⟩:=M.dF
 rw[hv]at h1
 cases h1
 refine M.set (x:=.dF) trivial (fun t=>⟨_,rfl,by rw[List.length_set];exact h2,fun e he=>?_⟩) fun y hy hn o' h=>?_
 ·show ∃v',(vs.set d v)[e]? = some v'/\rT _ v' (bL S.ds d {S.ds d with ws:=o} e).ws
  by_cases z:e=d
  ·subst z
   exact⟨v,by rw[List.getElem?_set_self (by lia)],by rw[aL];exact hw.aX t⟩
  ·obtain⟨v',k1,k2⟩:=h3 e he
   exact⟨v',by rw[List.getElem?_set_ne (Ne.symm z)];exact k1,by rw[bD _ _ z];exact k2.aX t⟩
 ·cases y with
  | dF=>exact absurd rfl hn
  | rt e =>
    show o'=.lst ((List.range m).map fun p:Nat=>V.str ((bL S.ds d {S.ds d with ws:=o} e).rt p).s)
    by_cases z:e=d
    ·rw[z,aL,<-z];exact h
    ·rw[bD _ _ z];exact h
  | cp e =>
    show o'=.lst ((List.range m).map fun p:Nat=>V.int ((bL S.ds d {S.ds d with ws:=o} e).nm p))
    by_cases z:e=d
    ·rw[z,aL,<-z];exact h
    ·rw[bD _ _ z];exact h
  | _=>exact h
theorem aZ.yS(M:aZ H A n m S se){p:Nat}(hp:p<m){g:PG}(e1:g.rd=(S.pg p).rd)(e2:g.ask=(S.pg p).ask):aZ (upd H (A (.bR p)) (.dK (yF g (A (.iM p)) (A (.jJ p))))) A n m {S with pg:=bL S.pg p g} se/\mK H (upd H (A (.bR p)) (.dK (yF g (A (.iM p)) (A (.jJ p))))) A n m :=
 M.set (x:=.bR p) hp (fun t=>by dsimp only[MG];rw[aL]) fun y hy hn o h=>by
  cases y with
  | bR e =>
    have hne:e≠p:=fun z=>hn (by rw[z])
    show o=.dK (yF (bL S.pg p g e) _ _)
    rw[bD _ _ hne];exact h
  | iM e =>
    show o=.lst ((bL S.pg p g e).rd.map nV)
    by_cases z:e=p
    ·rw[z,aL,e1,<-z];exact h
    ·rw[bD _ _ z];exact h
  | jJ e =>
    show ∃vs,o=.lst vs/\aH H vs ((bL S.pg p g e).ask.map BZ)
    by_cases z:e=p
    ·rw[z,aL,e2,<-z];exact h
    ·rw[bD _ _ z];exact h
  | _=>exact h
theorem aZ.aqb(M:aZ H A n m S se){p:Nat}(hp:p<m){l:List Nat}:aZ (upd H (A (.iM p)) (.lst (l.map nV))) A n m {S with pg:=bL S.pg p {S.pg p with rd:=l}} se/\mK H (upd H (A (.iM p)) (.lst (l.map nV))) A n m :=
 M.set (x:=.iM p) hp (fun t=>by dsimp only[MG];rw[aL]) fun y hy hn o h=>by
  cases y with
  | iM e =>
    have hne:e≠p:=fun z=>hn (by rw[z])
    show o=.lst ((bL S.pg p _ e).rd.map nV)
    rw[bD _ _ hne];exact h
  | bR e =>
    show o=.dK (yF (bL S.pg p _ e) _ _)
    by_cases z:e=p
    ·rw[z,aL,<-z];exact h
    ·rw[bD _ _ z];exact h
  | jJ e =>
    show ∃vs,o=.lst vs/\aH H vs ((bL S.pg p _ e).ask.map BZ)
    by_cases z:e=p
    ·rw[z,aL,<-z];exact h
    ·rw[bD _ _ z];exact h
  | _=>exact h
theorem aZ.aqc(M:aZ H A n m S se){p:Nat}(hp:p<m){vs:List V}{l:List (Nat×Rt)}(r:aH H vs (l.map BZ)):aZ (upd H (A (.jJ p)) (.lst vs)) A n m {S with pg:=bL S.pg p {S.pg p with ask:=l}} se/\mK H (upd H (A (.jJ p)) (.lst vs)) A n m :=
 M.set (x:=.jJ p) hp (fun t=>⟨vs,rfl,by dsimp only;rw[aL];exact r.aX t (kj _)⟩) fun y hy hn o h=>by
  cases y with
  | jJ e =>
    have hne:e≠p:=fun z=>hn (by rw[z])
    show ∃vs,o=.lst vs/\aH H vs ((bL S.pg p _ e).ask.map BZ)
    rw[bD _ _ hne];exact h
  | bR e =>
    show o=.dK (yF (bL S.pg p _ e) _ _)
    by_cases z:e=p
    ·rw[z,aL,<-z];exact h
    ·rw[bD _ _ z];exact h
  | iM e =>
    show o=.lst ((bL S.pg p _ e).rd.map nV)
    by_cases z:e=p
    ·rw[z,aL,<-z];exact h
    ·rw[bD _ _ z];exact h
  | _=>exact h
theorem aZ.move(M:aZ H A n m S se){x y:Mb}(hx:x.ok n m)(hy:y.ok n m)(hxy:x≠y){a:Addr}{o o':HO}(ha:H a=none)
 (gx:MG (jM A x a) H n m S' se' x o) (gy:MG (jM A x a) H n m S' se' y o')
 (ho:∀z:Mb,z.ok n m->z≠x->z≠y->∀o,MG A H n m S se z o->MG (jM A x a) H n m S' se' z o) :
 aZ (upd (upd H a o) (A y) o') (jM A x a) n m S' se'/\mK H (upd (upd H a o) (A y) o') A n m/\∀z:Mb,z.ok n m->jM A x a z=A z\/(z=x/\H (jM A x a z)=none):=by
 have na:∀z:Mb,z.ok n m->A z≠a:=fun z hz=>M.DX hz ha
 have t1:b8 H (upd H a o):=aY (aB ha)
 have t2:b8 H (upd (upd H a o) (A y) o'):=fun b xs e=>by rw[az (M.tup_ne hy e)];exact t1 b xs e
 refine⟨⟨V1 M.inj na fun z hz=>.inr hz,fun z hz=>?_⟩,⟨fun b u e hn=>?_,Lv.upd.trans Lv.upd⟩,fun z hz=>?_⟩
 ·by_cases e1:z=x
  ·subst e1
   refine⟨o,?_,gx.mono t2⟩
   rw[cX,az (na y hy).symm,aj]
  ·rw[bI _ _ e1]
   by_cases e2:z=y
   ·subst e2
    exact⟨o',aj,gy.mono t2⟩
   ·obtain⟨u,h1,h2⟩:=M.at_ z hz
    refine⟨u,?_,(ho z hz e1 e2 u h2).mono t2⟩
    rw[az fun q=>e2 (M.inj z y hz hy q),az (na z hz)]
    exact h1
 ·rw[az (hn y hy),az (aG e ha)];exact e
 ·by_cases e1:z=x
  ·rw[e1,cX];exact .inr ⟨rfl,ha⟩
  ·rw[bI _ _ e1];exact .inl rfl
theorem aZ.arJ(M:aZ H A n m S se){p:Nat}(hp:p<m){a:Addr}(ha:H a=none){l:List Nat} :
 aZ (upd (upd H a (.lst (l.map nV))) (A (.bR p)) (.dK (yF {S.pg p with rd:=l} a (A (.jJ p))))) (jM A (.iM p) a) n m {S with pg:=bL S.pg p {S.pg p with rd:=l}} se/\
 mK H (upd (upd H a (.lst (l.map nV))) (A (.bR p)) (.dK (yF {S.pg p with rd:=l} a (A (.jJ p))))) A n m/\Mv H A (jM A (.iM p) a) n m:=by
 have q:=M.move (S':={S with pg:=bL S.pg p {S.pg p with rd:=l}}) (se':=se) (x:=.iM p) (y:=.bR p) hp hp (by intro z;cases z) ha (o:=.lst (l.map nV)) (o':=.dK (yF {S.pg p with rd:=l} a (A (.jJ p)))) ?_ ?_ fun z hz n1 n2 o h=>?_
 ·exact⟨q.1,q.2.1,fun z hz=>(q.2.2 z hz).imp id fun e=>⟨⟨p,e.1⟩,e.2⟩⟩
 ·dsimp only[MG];rw[aL]
 ·dsimp only[MG];rw[aL,cX,bI _ _ (by intro z;cases z)]
 ·cases z with
  | iM e =>
    have hne:e≠p:=fun z=>n1 (by rw[z])
    show o=.lst ((bL S.pg p _ e).rd.map nV)
    rw[bD _ _ hne];exact h
  | bR e =>
    have hne:e≠p:=fun z=>n2 (by rw[z])
    show o=.dK (yF (bL S.pg p _ e) _ _)
    rw[bD _ _ hne,bI _ _ (by intro z;cases z;exact hne rfl),bI _ _ (by intro z;cases z)];exact h
  | jJ e =>
    show ∃vs,o=.lst vs/\aH H vs ((bL S.pg p _ e).ask.map BZ)
    by_cases z:e=p
    ·rw[z,aL,<-z];exact h
    ·rw[bD _ _ z];exact h
  | _=>exact h
end
end gH
namespace gH
open PySem L2
theorem abK:∀(k:Nat) (g:PG) (p:Nat),(iR k g p).1.mu<=g.mu
 | 0,g,p=>Nat.le_refl _
 | k+1,g,p=>by
   rw[iR]
   split
   ·exact Nat.le_trans (abK k g.lent p) g.qW
   ·exact Nat.le_refl _
theorem PG.afK(g:PG)(p:Nat):(g.serve p).1.mu<=g.mu:=abK _ g p
theorem ahZ(g:PG)(p d:Nat)(x:Rt):(pH g p d x).length<=1:=by
 unfold pH
 split
 ·split<;>simp
 ·simp
theorem abL(g:PG)(p:Nat):(g.dD p).length<=g.rd.length+1:=by
 unfold PG.dD
 split
 ·simp
 ·rename_i a r l _
  rw[List.length_append]
  have h1:=ahZ g p a r
  have h2:(pI g p a r).length<=g.rd.length:=by
   unfold pI
   split
   ·rw[List.length_map];exact List.length_filter_le _ _
   ·simp
  lia
theorem Wy:∀(k:Nat) (g:PG) (p:Nat),(iR k g p).2.length<=k+g.mu+1
 | 0,g,p=>by simp[iR]
 | k+1,g,p=>by
   rw[iR]
   split
   ·have:=Wy k g.lent p
    have h2:=g.qW
    have h3:(g.dO p).length<=1:=by unfold PG.dO;split<;>simp
    simp only[List.length_append]
    lia
   ·have:=abL g p
    simp only
    unfold PG.mu
    lia
theorem Wz(g:PG)(p:Nat):(g.serve p).2.length<=2*g.mu+1:=by
 have:=Wy g.ask.length g p
 unfold PG.serve
 have h2:g.ask.length<=g.mu:=by unfold PG.mu;lia
 lia
theorem PG.aje(g:PG)(p d:Nat)(l:UL):(g.take p d l).1.mu<=g.mu+2/\(g.take p d l).2.length<=2*g.mu+6:=by
 cases l with
 | ask q r =>
   simp only[PG.take]
   split
   ·rename_i e
    have e1:({g with ask:=[(d,r)]}:PG).mu=g.mu+2:=by unfold PG.mu;rw[e];simp
    have h1:=PG.afK {g with ask:=[(d,r)]} p
    have h2:=Wz {g with ask:=[(d,r)]} p
    lia
   ·refine⟨?_,by simp⟩
    unfold PG.mu;simp;lia
 | ans q o =>
   simp only[PG.take]
   split
   ·generalize hg:({g with num:=o.getD g.num,miss:=g.miss - 1}:PG)=g2
    have e1:g2.mu=g.mu:=by rw[<-hg];rfl
    have h1:=PG.afK g2.lent p
    have h2:=Wz g2.lent p
    have h3:=g2.qW
    have h4:(g2.dO p).length<=1:=by unfold PG.dO;split<;>simp
    simp only[List.length_append]
    lia
   ·refine⟨?_,by simp⟩
    show g.mu<=_;lia
 | gave q x =>
   simp only[PG.take]
   refine⟨?_,by simp⟩
   show g.mu<=_;lia
def Bt(t:Nat):Nat:=4*(t*t)+20*t
theorem ajf(t:Nat):Bt (t+1)=Bt t+8*t+24:=by
 by_cases h:True
 ·unfold Bt
  have e:(t+1)*(t+1)=t*t+2*t+1:=by rw[Nat.add_mul,Nat.mul_add];lia
  rw[e];lia
 ·exact absurd trivial h
theorem aqd{t:Nat}(h:t<=1500):Bt t<=9030000:=by
 unfold Bt
 have:t*t<=1500*1500:=Nat.mul_le_mul h h
 lia
structure Bd(t:Nat)(S:TS)(se:List (Nat×Let)):Prop where
 mu:∀p,(S.pg p).mu<=2*t
 up:∀d,(S.up d).length<=t
 row:S.row.length<=t
 dn:∀d,(S.dn d).length<=Bt t
 se:se.length<=Bt t
theorem Bd.more{t t':Nat}{S:TS}{se:List (Nat×Let)}(b:Bd t S se)(h:t<=t'):Bd t' S se:=by
 have hm:Bt t<=Bt t':=by unfold Bt;have:=Nat.mul_le_mul h h;lia
 exact⟨fun p=>Nat.le_trans (b.mu p) (by lia),fun d=>Nat.le_trans (b.up d) h,Nat.le_trans b.row h,fun d=>Nat.le_trans (b.dn d) hm,Nat.le_trans b.se hm⟩
def TS.iT(S:TS)(n:Nat):cG->List (Nat×Let)
 | .up d=>if inR d n then(match S.up d.toNat with | []=>[] | l::_=>((S.pg l.pg).take l.pg d.toNat l).2)else []
 | _=>[]
theorem Bd.jx{t d:Nat}{S:TS}{se:List (Nat×Let)}{z:DS×List Ev×List UL}(b:Bd t S se)(h1:z.2.1.length<=1)(h2:z.2.2.length<=1):Bd (t+1) (S.jx d z) se:=by
 have b':=b.more (Nat.le_succ t)
 refine⟨b'.mu,fun e=>?_,?_,b'.dn,b'.se⟩
 ·show(bL S.up d (S.up d++z.2.2) e).length<=_
  by_cases y:e=d
  ·rw[y,aL,List.length_append];have:=b.up d;lia
  ·rw[bD _ _ y];exact b'.up e
 ·show(fY S.row d z.2.1).length<=_
  unfold fY
  rw[List.length_append,List.length_map]
  have:=b.row;lia
theorem DS.ju(S:DS)(w:W)(p:Nat):(S.iJ w p).2.1.length<=1/\(S.iJ w p).2.2.length<=1:=by unfold DS.iJ;split<;>simp
theorem DS.aj7(S:DS)(p:Int)(r:Rt)(x:Int):(S.pK p r x).2.length<=1:=by
 unfold DS.pK
 split
 ·simp
 ·split<;>simp
theorem DS.xn(S:DS)(l:Let):(S.xf l).2.1.length<=1/\(S.xf l).2.2.length<=1:=by
 cases l with
 | lend p r x=>exact⟨S.aj7 p r x,by simp[DS.xf]⟩
 | back p r=>simp[DS.xf]
theorem Bd.step{t n m:Nat}{S:TS}{se:List (Nat×Let)}(b:Bd t S se)(x:cG):Bd (t+1) (S.step n m x).1 (se++S.iT n x):=by
 have b':=b.more (Nat.le_succ t)
 have bn:∀{T:TS},Bd (t+1) T se->Bd (t+1) T (se++[]):=fun {T} h=>by rw[List.append_nil];exact h
 cases x with
 | up d =>
   simp only[TS.step,TS.iT]
   split
   ·unfold TS.upD
    cases e:S.up d.toNat with
    | nil=>exact bn b'
    | cons l r =>
      obtain⟨h1,h2⟩:=(S.pg l.pg).aje l.pg d.toNat l
      have hm:=b.mu l.pg
      refine⟨fun p=>?_,fun e'=>?_,b'.row,fun e'=>?_,?_⟩
      ·show(bL S.pg l.pg _ p).mu<=_
       by_cases y:p=l.pg
       ·rw[y,aL];lia
       ·rw[bD _ _ y];exact b'.mu p
      ·show(bL S.up d.toNat r e').length<=_
       by_cases y:e'=d.toNat
       ·rw[y,aL];have:=b.up d.toNat;rw[e]at this;simp at this;lia
       ·rw[bD _ _ y];exact b'.up e'
      ·show(post S.dn _ e').length<=_
       have h3:=KZ S.dn ((S.pg l.pg).take l.pg d.toNat l).2 e'
       have h4:=b.dn e'
       rw[ajf];lia
      ·show(se++((S.pg l.pg).take l.pg d.toNat l).2).length<=_
       rw[List.length_append]
       have h4:=b.se
       rw[ajf];lia
   ·exact bn b'
 | down d =>
   simp only[TS.step,TS.iT]
   split
   ·unfold TS.Wt
    cases e:S.dn d.toNat with
    | nil=>exact bn b'
    | cons l r =>
      have b1:Bd t {S with dn:=bL S.dn d.toNat r} se:=⟨b.mu,b.up,b.row,fun e'=>by
       show(bL S.dn d.toNat r e').length<=_
       by_cases y:e'=d.toNat
       ·rw[y,aL];have:=b.dn d.toNat;rw[e]at this;simp at this;lia
       ·rw[bD _ _ y];exact b.dn e',b.se⟩
      exact bn (b1.jx (DS.xn _ _).1 (DS.xn _ _).2)
   ·exact bn b'
 | rest d p =>
   simp only[TS.step,TS.iT]
   refine bn ?_
   split
   ·split
    ·split
     ·exact b'
     ·exact b.jx (by simp) (by dsimp only;split<;>simp)
    ·exact b'
   ·exact b'
 | look d p =>
   simp only[TS.step,TS.iT]
   refine bn ?_
   split
   ·split
    ·unfold TS.wish
     split
     ·exact b'
     ·exact b.jx (DS.ju _ _ _).1 (DS.ju _ _ _).2
    ·exact b'
   ·exact b'
 | put d p y =>
   simp only[TS.step,TS.iT]
   refine bn ?_
   split
   ·split
    ·unfold TS.wish
     split
     ·exact b'
     ·exact b.jx (DS.ju _ _ _).1 (DS.ju _ _ _).2
    ·exact b'
   ·exact b'
end gH
namespace L2
open PySem
variable{X:Cx}
end L2
namespace gH
open PySem L2
theorem K7{us:List Value}(h:us.length=1):∃a0,us=[a0]:=by
 match us,h with
 | [_],_=>exact⟨_,rfl⟩
theorem jy{us:List Value}(h:us.length=2):∃a0 a1,us=[a0,a1]:=by
 match us,h with
 | [_,_],_=>exact⟨_,_,rfl⟩
theorem K8{us:List Value}(h:us.length=3):∃a0 a1 a2,us=[a0,a1,a2]:=by
 match us,h with
 | [_,_,_],_=>exact⟨_,_,_,rfl⟩
theorem arK{us:List Value}(h:us.length=4):∃a0 a1 a2 a3,us=[a0,a1,a2,a3]:=by
 match us,h with
 | [_,_,_,_],_=>exact⟨_,_,_,_,rfl⟩
end gH
namespace gH
open PySem L2
section
variable{K:PySem.W.Frag}{i j:Nat}{x y v:V}{σ:St}{H:Hp}{Q:VK}{a b:Addr}{xs:List V}{k:Int}
theorem zt(h:σ[i]? = some (some (.ref b)))(hb:di K H b xs)(hv:Py xs k=some v)(q:Q v H):Wa (ahE K) (jf i) (tC (.int k)) σ H Q:=⟨_,h,b,xs,k,v,rfl,rfl,hb,hv,q⟩
theorem zd(h:σ[i]? = some (some (.ref a)))(hd:Hg H a y (some v))(q:Q v H):Wl (jf i) (tC y) σ H Q:=⟨_,h,a,v,rfl,hd,q⟩
theorem Tg(h:σ[i]? = some (some (.ref a)))(hd:Hg H a y (some (.ref b)))(hj:σ[j]? = some (some (.int k)))(hl:cu K H b xs)(hv:Py xs k=some v)(q:Q v H):Wa (ahD K) (Wl (jf i) (tC y)) (jf j) σ H Q:=⟨_,h,a,_,rfl,hd,_,hj,b,xs,k,v,rfl,rfl,hl,hv,q⟩
theorem zl(hj:σ[j]? = some (some (.int k)))(hl:cu K H b xs)(hv:Py xs k=some v)(q:Q v H):jf j σ H (fun y H2=>ahD K (.ref b) y H2 Q):=⟨_,hj,b,xs,k,v,rfl,rfl,hl,hv,q⟩
end
end gH
namespace gH
open PySem L2
def anU(C X:Addr):Sp:=fun vs H Q E=>∃p d S c a w,vs=[.ref p,.ref a]/\cz C H p d S c/\c<=900000/\H a=some (.tup (W.vs w))/\
 match S.ws with
 | none=>∀v H',cz C H' p d (S.want w).1 (c+2)->DF H H' p d->Rep (nw H H') v (S.want w).2->Q v H'
 | some _=>E (.ref X) none H
def anV(C X:Addr):Sp:=fun vs H Q E=>∃p d S c n,vs=[.ref p,.int n]/\cz C H p d S c/\c<=900000/\
 if S.rt n=.no then E (.ref X) none H else ∀v H',cz C H' p d (S.rest n).1 (c+2)->DF H H' p d->Rep (nw H H') v (S.rest n).2->Q v H'
theorem cz.congr{C:Addr}{H:Hp}{p d:Addr}{S S':DS}{c:Nat}(D:cz C H p d S c)(e1:∀n,S'.rt n=S.rt n)(e2:∀n,S.rt n≠.no->S'.nm n=S.nm n)(e3:S'.ws=S.ws):cz C H p d S' c:=by
 obtain⟨⟨dx,v,h1,h2⟩,⟨kvs,h3,h4,h5⟩⟩:=D
 refine⟨⟨dx,v,h1,by rw[e3];exact h2⟩,⟨kvs,h3,h4,fun n=>?_⟩⟩
 have:=h5 n
 unfold rW at this ⊢
 rw[e1]
 split
 ·rename_i e;rw[if_pos e]at this;exact this
 ·rename_i e;rw[if_neg e]at this;rw[e2 n e];exact this
theorem Kept.lv{H H':Hp}(h:Kept H H'):Lv H H':=fun _ e=>h.free e
inductive Tb where
 | bf | lq | ups | downs | row | up (d:Nat) | dn (d:Nat) | dk (d:Nat) | cp (d:Nat) | h (x:Hb)
 deriving DecidableEq
def Tb.ok(n m:Nat):Tb->Prop
 | .up d=>d<n
 | .dn d=>d<n
 | .dk d=>d<n
 | .cp d=>d<n
 | .h x=>x.ok m
 | _=>True
def Th(m:Nat)(h d u o r:Addr):List (Str×V):=[("page_count",.int m),("hall",.ref h),("desks",.ref d),("roads_up",.ref u),("roads_down",.ref o),("row",.ref r)]
section
variable{m:Nat}{h d u o r:Addr}
theorem alJ:f9 "row" (.ref r) (f9 "roads_down" (.ref o) (f9 "roads_up" (.ref u) (f9 "desks" (.ref d) (f9 "hall" (.ref h) (f9 "page_count" (.int m) [])))))=Th m h d u o r:=by kernel_rfl
theorem aj8:(Th m h d u o r).lookup ("page_count":Str)=some (.int m):=by kernel_rfl
theorem alK:(Th m h d u o r).lookup ("hall":Str)=some (.ref h):=by kernel_rfl
theorem rN:(Th m h d u o r).lookup ("desks":Str)=some (.ref d):=by kernel_rfl
theorem V2:(Th m h d u o r).lookup ("roads_up":Str)=some (.ref u):=by kernel_rfl
theorem PN:(Th m h d u o r).lookup ("roads_down":Str)=some (.ref o):=by kernel_rfl
theorem anW:(Th m h d u o r).lookup ("row":Str)=some (.ref r):=by kernel_rfl
theorem arL:(Th m h d u o r).lookup ("check_desk":Str)=none:=by kernel_rfl
theorem ah0:(Th m h d u o r).lookup ("check_page":Str)=none:=by kernel_rfl
theorem arM:(Th m h d u o r).lookup ("do_deed":Str)=none:=by kernel_rfl
theorem arN:(Th m h d u o r).lookup ("look_at":Str)=none:=by kernel_rfl
theorem arO:(Th m h d u o r).lookup ("put_on":Str)=none:=by kernel_rfl
theorem arP:(Th m h d u o r).lookup ("give_up":Str)=none:=by kernel_rfl
theorem arQ:(Th m h d u o r).lookup ("bring_up":Str)=none:=by kernel_rfl
theorem arR:(Th m h d u o r).lookup ("bring_down":Str)=none:=by kernel_rfl
theorem alL:(Th m h d u o r).lookup ("first_letter":Str)=none:=by kernel_rfl
theorem ah1:(Th m h d u o r).lookup ("carry_out":Str)=none:=by kernel_rfl
end
structure C4 where
 T:Addr
 D:Addr
 H:Addr
 P:Addr
structure cD(c:C4)(H:Hp)(B:Tb->Addr)(n m:Nat)(S:TS)(k:Nat):Prop where
 inj:∀x y:Tb,x.ok n m->y.ok n m->B x=B y->x=y
 ob:∃dx,H (B .bf)=some (.ins c.T dx (Th m (B (.h .hall)) (B .lq) (B .ups) (B .downs) (B .row)))
 ds:H (B .lq)=some (.lst ((List.range n).map fun d=>V.ref (B (.dk d))))
 us:H (B .ups)=some (.lst ((List.range n).map fun d=>V.ref (B (.up d))))
 os:H (B .downs)=some (.lst ((List.range n).map fun d=>V.ref (B (.dn d))))
 row:∃vs,H (B .row)=some (.lst vs)/\aH H vs (S.row.map RE.d)
 up:∀d,d<n->∃vs,H (B (.up d))=some (.lst vs)/\aH H vs ((S.up d).map UL.d)
 dn:∀d,d<n->∃vs,H (B (.dn d))=some (.lst vs)/\aH H vs ((S.dn d).map Let.d)
 dk:∀d,d<n->cz c.D H (B (.dk d)) (B (.cp d)) (S.ds d) k
 hl:lF c.H c.P H (fun x=>B (.h x)) m S.pg
structure TF(H H':Hp)(B:Tb->Addr)(n m:Nat):Prop where
 kp:∀b o,H b=some o->(∀x:Tb,x.ok n m->b≠B x)->H' b=some o
 lv:Lv H H'
theorem TF.refl(H:Hp)(B:Tb->Addr)(n m:Nat):TF H H B n m:=⟨fun _ _ h _=>h,Lv.refl _⟩
def Tv(H:Hp)(B B1:Tb->Addr)(n m:Nat):Prop:=∀x:Tb,x.ok n m->B1 x=B x\/H (B1 x)=none
theorem Tv.refl(H:Hp)(B:Tb->Addr)(n m:Nat):Tv H B B n m:=fun _ _=>.inl rfl
theorem TF.trans{H H1 H2:Hp}{B B1:Tb->Addr}{n m:Nat}(x:TF H H1 B n m)(y:TF H1 H2 B1 n m)(h:Tv H B B1 n m):TF H H2 B n m:=⟨fun b o hb hn=>y.kp b o (x.kp b o hb hn) fun z hz=>by
 rcases h z hz with e | e
 ·rw[e];exact hn z hz
 ·exact aG hb e,x.lv.trans y.lv⟩
section
variable{c:C4}{H H':Hp}{B:Tb->Addr}{n m:Nat}{S S':TS}{k k':Nat}
theorem cD.live(T:cD c H B n m S k)(x:Tb)(hx:x.ok n m):∃o,H (B x)=some o/\∀xs,o≠.tup xs:=by
 cases x with
 | bf=>obtain⟨dx,e⟩:=T.ob;exact⟨_,e,fun _ z=>by cases z⟩
 | lq=>exact⟨_,T.ds,fun _ z=>by cases z⟩
 | ups=>exact⟨_,T.us,fun _ z=>by cases z⟩
 | downs=>exact⟨_,T.os,fun _ z=>by cases z⟩
 | row=>obtain⟨vs,e,_⟩:=T.row;exact⟨_,e,fun _ z=>by cases z⟩
 | up d=>obtain⟨vs,e,_⟩:=T.up d hx;exact⟨_,e,fun _ z=>by cases z⟩
 | dn d=>obtain⟨vs,e,_⟩:=T.dn d hx;exact⟨_,e,fun _ z=>by cases z⟩
 | dk d=>obtain⟨⟨dx,v,e,_⟩,_⟩:=T.dk d hx;exact⟨_,e,fun _ z=>by cases z⟩
 | cp d=>obtain⟨_,⟨kvs,e,_⟩⟩:=T.dk d hx;exact⟨_,e,fun _ z=>by cases z⟩
 | h x=>exact T.hl.live x hx
theorem cD.ne(T:cD c H B n m S k){x:Tb}(hx:x.ok n m){b:Addr}(h:H b=none):B x≠b:=fun z=>by
 obtain⟨o,e,_⟩:=T.live x hx
 rw[z,h]at e;cases e
theorem cD.tne(T:cD c H B n m S k){x:Tb}(hx:x.ok n m){b:Addr}{xs:List V}(h:H b=some (.tup xs)):b≠B x:=fun z=>by
 obtain⟨o,e,g⟩:=T.live x hx
 rw[<-z,h]at e;exact g xs (Option.some.inj e).symm
theorem TF.tups(T:cD c H B n m S k)(f:TF H H' B n m):b8 H H':=fun b xs e=>f.kp b _ e fun _ hx=>T.tne hx e
theorem TF.of_same(s:bY H H'):TF H H' B n m:=⟨fun b o e _=>s b o e,Lv.same s⟩
theorem cD.but(T:cD c H B n m S k)(t:b8 H H')(ch:Tb->Prop)(kp:∀x:Tb,x.ok n m->¬ch x->∀o,H (B x)=some o->H' (B x)=some o)(hk:k<=k')
 (c1:¬ch .bf) (c2:¬ch .lq) (c3:¬ch .ups) (c4:¬ch .downs)
 (row:(¬ch .row/\S'.row=S.row)\/∃vs,H' (B .row)=some (.lst vs)/\aH H' vs (S'.row.map RE.d))
 (up:∀d,d<n->(¬ch (.up d)/\S'.up d=S.up d)\/∃vs,H' (B (.up d))=some (.lst vs)/\aH H' vs ((S'.up d).map UL.d))
 (dn:∀d,d<n->(¬ch (.dn d)/\S'.dn d=S.dn d)\/∃vs,H' (B (.dn d))=some (.lst vs)/\aH H' vs ((S'.dn d).map Let.d))
 (dk:∀d,d<n->(¬ch (.dk d)/\¬ch (.cp d)/\S'.ds d=S.ds d)\/cz c.D H' (B (.dk d)) (B (.cp d)) (S'.ds d) k')
 (hl:((∀x:Hb,¬ch (.h x))/\S'.pg=S.pg)\/lF c.H c.P H' (fun x=>B (.h x)) m S'.pg):cD c H' B n m S' k':=by
 refine⟨T.inj,?_,kp .lq trivial c2 _ T.ds,kp .ups trivial c3 _ T.us,kp .downs trivial c4 _ T.os,?_,fun d hd=>?_,fun d hd=>?_,fun d hd=>?_,?_⟩
 ·obtain⟨dx,e⟩:=T.ob
  exact⟨dx,kp .bf trivial c1 _ e⟩
 ·rcases row with ⟨a,b⟩ | z
  ·obtain⟨vs,e,r⟩:=T.row
   exact⟨vs,kp .row trivial a _ e,by rw[b];exact r.aX t (bW RE.flat _)⟩
  ·exact z
 ·rcases up d hd with ⟨a,b⟩ | z
  ·obtain⟨vs,e,r⟩:=T.up d hd
   exact⟨vs,kp (.up d) hd a _ e,by rw[b];exact r.aX t (bW UL.flat _)⟩
  ·exact z
 ·rcases dn d hd with ⟨a,b⟩ | z
  ·obtain⟨vs,e,r⟩:=T.dn d hd
   exact⟨vs,kp (.dn d) hd a _ e,by rw[b];exact r.aX t (bW Let.flat _)⟩
  ·exact z
 ·rcases dk d hd with ⟨a,a',b⟩ | z
  ·rw[b]
   exact((T.dk d hd).keep t (kp (.dk d) hd a) (kp (.cp d) hd a')).mono hk
  ·exact z
 ·rcases hl with ⟨a,b⟩ | z
  ·rw[b]
   exact T.hl.keep t fun x hx=>kp (.h x) hx (a x)
  ·exact z
theorem cD.keep(T:cD c H B n m S k)(t:b8 H H')(kp:∀x:Tb,x.ok n m->∀o,H (B x)=some o->H' (B x)=some o):cD c H' B n m S k :=
 T.but t (fun _=>False) (fun x hx _=>kp x hx) (Nat.le_refl _) id id id id (.inl ⟨id,rfl⟩) (fun _ _=>.inl ⟨id,rfl⟩) (fun _ _=>.inl ⟨id,rfl⟩) (fun _ _=>.inl ⟨id,id,rfl⟩) (.inl ⟨fun _=>id,rfl⟩)
theorem cD.same(T:cD c H B n m S k)(s:bY H H'):cD c H' B n m S k:=T.keep (aY s) fun x _ o e=>s _ o e
theorem cD.new{a:Addr}{o:HO}(T:cD c H B n m S k)(h:H a=none):cD c (upd H a o) B n m S k:=T.same (aB h)
theorem cD.more(T:cD c H B n m S k)(h:k<=k'):cD c H B n m S k':={T with dk:=fun d hd=>(T.dk d hd).mono h}
theorem TF.wr{x:Tb}(hx:x.ok n m){o:HO}:TF H (upd H (B x) o) B n m:=⟨fun b u e hn=>by rw[az (hn x hx)];exact e,Lv.upd⟩
theorem cD.arS(T:cD c H B n m S k){x:Tb}(hx:x.ok n m){o:HO}:b8 H (upd H (B x) o):=fun b xs e=>by rw[az (T.tne hx e)];exact e
theorem cD.kp1(T:cD c H B n m S k){x:Tb}(hx:x.ok n m){o:HO}:∀y:Tb,y.ok n m->¬y=x->∀u,H (B y)=some u->upd H (B x) o (B y)=some u:=fun y hy hn u e=>by
 rw[az fun z=>hn (T.inj y x hy hx z)];exact e
theorem cD.alH(T:cD c H B n m S k){vs:List V}{l:List RE}(r:aH H vs (l.map RE.d)):cD c (upd H (B .row) (.lst vs)) B n m {S with row:=l} k :=
 have t:=T.arS (x:=.row) trivial
 T.but t (·=.row) (T.kp1 (x:=.row) trivial) (Nat.le_refl _) nofun nofun nofun nofun (.inr ⟨vs,aj,r.aX t (bW RE.flat _)⟩)
  (fun d _=>.inl ⟨nofun,rfl⟩) (fun d _=>.inl ⟨nofun,rfl⟩) (fun d _=>.inl ⟨nofun,nofun,rfl⟩) (.inl ⟨fun _=>nofun,rfl⟩)
theorem cD.afJ(T:cD c H B n m S k){d:Nat}(hd:d<n){vs:List V}{l:List UL}(r:aH H vs (l.map UL.d)):cD c (upd H (B (.up d)) (.lst vs)) B n m {S with up:=bL S.up d l} k :=
 have t:=T.arS (x:=.up d) hd
 T.but t (·=.up d) (T.kp1 (x:=.up d) hd) (Nat.le_refl _) nofun nofun nofun nofun (.inl ⟨nofun,rfl⟩)
  (fun e _=>by
    by_cases y:e=d
    ·subst y;exact .inr ⟨vs,aj,by dsimp only;rw[aL];exact r.aX t (bW UL.flat _)⟩
    ·exact .inl ⟨fun z=>y (by cases z;rfl),bD _ _ y⟩)
  (fun d _=>.inl ⟨nofun,rfl⟩) (fun d _=>.inl ⟨nofun,nofun,rfl⟩) (.inl ⟨fun _=>nofun,rfl⟩)
theorem cD.aj6(T:cD c H B n m S k){d:Nat}(hd:d<n){vs:List V}{l:List Let}(r:aH H vs (l.map Let.d)):cD c (upd H (B (.dn d)) (.lst vs)) B n m {S with dn:=bL S.dn d l} k :=
 have t:=T.arS (x:=.dn d) hd
 T.but t (·=.dn d) (T.kp1 (x:=.dn d) hd) (Nat.le_refl _) nofun nofun nofun nofun (.inl ⟨nofun,rfl⟩)
  (fun d _=>.inl ⟨nofun,rfl⟩)
  (fun e _=>by
    by_cases y:e=d
    ·subst y;exact .inr ⟨vs,aj,by dsimp only;rw[aL];exact r.aX t (bW Let.flat _)⟩
    ·exact .inl ⟨fun z=>y (by cases z;rfl),bD _ _ y⟩)
  (fun d _=>.inl ⟨nofun,nofun,rfl⟩) (.inl ⟨fun _=>nofun,rfl⟩)
theorem cD.jx(T:cD c H B n m S k){d:Nat}(hd:d<n){D':DS}(DA:cz c.D H' (B (.dk d)) (B (.cp d)) D' k')(f:DF H H' (B (.dk d)) (B (.cp d)))(hk:k<=k') :
 cD c H' B n m {S with ds:=bL S.ds d D'} k'/\TF H H' B n m:=by
 have t:=f.tups (T.dk d hd)
 refine⟨T.but t (fun x=>x=.dk d\/x=.cp d) (fun x hx hn o e=>f _ o e (fun z=>hn (.inl (T.inj x (.dk d) hx hd z))) fun z=>hn (.inr (T.inj x (.cp d) hx hd z))) hk (fun z=>z.elim nofun nofun) (fun z=>z.elim nofun nofun) (fun z=>z.elim nofun nofun) (fun z=>z.elim nofun nofun)
  (.inl ⟨fun z=>z.elim nofun nofun,rfl⟩) (fun e _=>.inl ⟨fun z=>z.elim nofun nofun,rfl⟩) (fun e _=>.inl ⟨fun z=>z.elim nofun nofun,rfl⟩) (fun e he=>?_) (.inl ⟨fun _ z=>z.elim nofun nofun,rfl⟩),⟨fun b o e hn=>f b o e (hn (.dk d) hd) (hn (.cp d) hd),((f.kept (T.dk d hd) DA)).lv⟩⟩
 by_cases y:e=d
 ·subst y;exact .inr (by dsimp only;rw[aL];exact DA)
 ·exact .inl ⟨fun z=>z.elim (fun z=>y (Tb.dk.inj z)) nofun,fun z=>z.elim nofun (fun z=>y (Tb.cp.inj z)),bD _ _ y⟩
def mvB(B:Tb->Addr)(A:Hb->Addr):Tb->Addr
 | .h x=>A x
 | x=>B x
theorem cD.hall(T:cD c H B n m S k){A:Hb->Addr}{G:Nat->PG}(HA:lF c.H c.P H' A m G)(f:HF H H' (fun x=>B (.h x)) m)(mv:∀x:Hb,x.ok m->A x=B (.h x)\/H (A x)=none)(eh:A .hall=B (.h .hall)) :
 cD c H' (mvB B A) n m {S with pg:=G} k/\TF H H' B n m/\Tv H B (mvB B A) n m:=by
 have t:b8 H H':=f.tups T.hl
 have kp:∀x:Tb,x.ok n m->(∀y:Hb,x≠.h y)->∀o,H (B x)=some o->H' (B x)=some o:=fun x hx hn o e=>f.kp _ o e fun y hy z=>hn y (T.inj x (.h y) hx hy z)
 refine⟨⟨fun x y hx hy e=>?_,?_,kp .lq trivial (by intro y z;cases z) _ T.ds,kp .ups trivial (by intro y z;cases z) _ T.us,kp .downs trivial (by intro y z;cases z) _ T.os,?_,fun d hd=>?_,fun d hd=>?_,fun d hd=>?_,HA⟩,⟨fun b o e hn=>f.kp b o e fun y hy=>hn (.h y) hy,f.lv⟩,fun x hx=>?_⟩
 ·have key:∀(u:Tb) (v:Hb),u.ok n m->(∀y:Hb,u≠.h y)->v.ok m->B u≠A v:=fun u v hu hn hv z=>by
   rcases mv v hv with q | q
   ·rw[q]at z;exact hn v (T.inj u (.h v) hu hv z)
   ·rw[<-z]at q;obtain⟨o,e,_⟩:=T.live u hu;rw[q]at e;cases e
  cases x with
  | h x'=>cases y with
    | h y'=>rw[HA.inj x' y' hx hy e]
    | _=>exact absurd e.symm (key _ x' hy (by intro y z;cases z) hx)
  | _=>cases y with
    | h y'=>exact absurd e (key _ y' hx (by intro y z;cases z) hy)
    | _=>exact T.inj _ _ hx hy e
 ·obtain⟨dx,e⟩:=T.ob
  refine⟨dx,?_⟩
  have:=kp .bf trivial (by intro y z;cases z) _ e
  rw[<-eh]at this
  exact this
 ·obtain⟨vs,e,r⟩:=T.row
  exact⟨vs,kp .row trivial (by intro y z;cases z) _ e,r.aX t (bW RE.flat _)⟩
 ·obtain⟨vs,e,r⟩:=T.up d hd
  exact⟨vs,kp (.up d) hd (by intro y z;cases z) _ e,r.aX t (bW UL.flat _)⟩
 ·obtain⟨vs,e,r⟩:=T.dn d hd
  exact⟨vs,kp (.dn d) hd (by intro y z;cases z) _ e,r.aX t (bW Let.flat _)⟩
 ·exact(T.dk d hd).keep t (kp (.dk d) hd (by intro y z;cases z)) (kp (.cp d) hd (by intro y z;cases z))
 ·cases x with
  | h y=>exact mv y hx
  | _=>exact .inl rfl
end
end gH
namespace gH
open PySem L2
structure Rd1(n:Nat)(g:PG):Prop where
 nd:g.rd.Nodup
 lt:∀x∈g.rd,x<n
 wr:g.wr≠none->g.rd=[]
 wl:∀x,g.wr=some x->x<n
 ak:∀x∈g.ask,x.1<n
theorem WD:∀{n:Nat} {l:List Nat},l.Nodup->(∀x∈l,x<n)->l.length<=n
 | 0,[],_,_=>Nat.le_refl _
 | 0,x::l,_,h=>absurd (h x (by simp)) (Nat.not_lt_zero _)
 | n+1,l,h1,h2=>by
   by_cases hn:n∈l
   ·have:=WD (n:=n) (h1.erase n) fun x hx=>by
     obtain⟨a,b⟩:=(h1.mem_erase_iff).mp hx
     have:=h2 x b
     lia
    rw[List.length_erase_of_mem hn]at this
    lia
   ·have:=WD (n:=n) h1 fun x hx=>by
     have:=h2 x hx
     have:x≠n:=fun e=>hn (e▸hx)
     lia
    lia
theorem Rd1.len{n:Nat}{g:PG}(h:Rd1 n g):g.rd.length<=n:=WD h.nd h.lt
theorem Rd1.dD{n:Nat}{g:PG}(h:Rd1 n g)(p:Nat):(g.dD p).length<=n+1:=by
 have:=abL g p
 have:=h.len
 lia
theorem Rd1.lent{n:Nat}{g:PG}(h:Rd1 n g):Rd1 n g.lent:=by
 unfold PG.lent
 cases e:g.ask with
 | nil=>exact h
 | cons x q =>
   obtain⟨a,r⟩:=x
   have ha:a<n:=h.ak (a,r) (by rw[e];simp)
   have hq:∀x∈q,x.1<n:=fun x hx=>h.ak x (by rw[e];simp[hx])
   dsimp only
   split
   ·exact⟨by simp[jr],by simp[jr],fun _=>rfl,fun x hx=>by simp[jr]at hx;lia,hq⟩
   ·have hb:(g.rd++g.wr.toList).Nodup/\∀x∈g.rd++g.wr.toList,x<n:=by
     cases w:g.wr with
     | none=>simpa using ⟨h.nd,h.lt⟩
     | some v =>
       have:=h.wr (by rw[w];exact nofun)
       rw[this]
       have:=h.wl v w
       simpa using this
    refine⟨?_,?_,fun z=>absurd rfl z,fun x hx=>by simp[ji]at hx,hq⟩
    ·simp only[ji]
     split
     ·exact hb.1
     ·rename_i hn
      exact List.nodup_append.mpr ⟨hb.1,by simp,fun x hx y hy e'=>by simp at hy;subst hy;subst e';exact hn hx⟩
    ·simp only[ji]
     split
     ·exact hb.2
     ·intro x hx
      rcases List.mem_append.mp hx with z | z
      ·exact hb.2 x z
      ·simp at z;lia
theorem alM(g:PG)(p:Nat):g.lent.ask.length+(g.dO p).length=g.ask.length:=by
 rw[PG.w6]
 unfold PG.dO
 cases e:g.ask with
 | nil=>simp
 | cons x q=>obtain⟨a,r⟩:=x;simp
theorem WK{n:Nat}:∀(k:Nat) {g:PG} (p:Nat),Rd1 n g->(iR k g p).1.ask.length+(iR k g p).2.length<=g.ask.length+(n+1)/\Rd1 n (iR k g p).1
 | 0,g,p,h=>⟨by simp[iR],h⟩
 | k+1,g,p,h=>by
   rw[iR]
   split
   ·obtain⟨h1,h2⟩:=WK k p h.lent
    have:=alM g p
    exact⟨by simp only[List.length_append];lia,h2⟩
   ·have:=h.dD p
    exact⟨by dsimp only;lia,⟨h.nd,h.lt,h.wr,h.wl,h.ak⟩⟩
theorem PG.arT{n:Nat}{g:PG}{p d:Nat}{l:UL}(h:Rd1 n g)(hd:d<n):(g.take p d l).1.ask.length+(g.take p d l).2.length<=g.ask.length+(n+2)/\Rd1 n (g.take p d l).1:=by
 cases l with
 | ask q r =>
   simp only[PG.take]
   split
   ·rename_i e
    have h1:Rd1 n {g with ask:=[(d,r)]}:=⟨h.nd,h.lt,h.wr,h.wl,fun x hx=>by simp at hx;subst hx;exact hd⟩
    obtain⟨a,b⟩:=WK (n:=n) 1 p h1
    have e2:PG.serve {g with ask:=[(d,r)]} p=iR 1 {g with ask:=[(d,r)]} p:=rfl
    rw[e2]
    have e3:({g with ask:=[(d,r)]}:PG).ask.length=1:=rfl
    exact⟨by lia,b⟩
   ·refine⟨by simp only[List.length_append,List.length_cons,List.length_nil];lia,⟨h.nd,h.lt,h.wr,h.wl,fun x hx=>?_⟩⟩
    rcases List.mem_append.mp hx with z | z
    ·exact h.ak x z
    ·simp at z;subst z;exact hd
 | ans q o =>
   simp only[PG.take]
   have h1:Rd1 n {g with num:=o.getD g.num,miss:=g.miss - 1}:=⟨h.nd,h.lt,h.wr,h.wl,h.ak⟩
   split
   ·generalize hg:({g with num:=o.getD g.num,miss:=g.miss - 1}:PG)=g2 at h1
    have e1:g2.ask=g.ask:=by rw[<-hg]
    obtain⟨a,b⟩:=WK (n:=n) g2.lent.ask.length p h1.lent
    have:=alM g2 p
    have e2:g2.lent.serve p=iR g2.lent.ask.length g2.lent p:=rfl
    rw[e2]
    exact⟨by simp only[List.length_append];rw[<-e1];lia,b⟩
   ·exact⟨by simp only[List.length_nil];lia,h1⟩
 | gave q x =>
   simp only[PG.take]
   refine⟨by simp only[List.length_nil];lia,⟨h.nd,h.lt,fun z=>?_,fun y hy=>?_,h.ak⟩⟩
   ·refine h.wr fun e=>z ?_
    show(if g.wr=some d then none else g.wr)=none
    rw[e];simp
   ·have hy:(if g.wr=some d then none else g.wr)=some y:=hy
    split at hy
    ·cases hy
    ·exact h.wl y hy
structure Qn(n m t:Nat)(S:TS)(se:List (Nat×Let)):Prop where
 rd:∀p,Rd1 n (S.pg p)
 ps:se.length+qg m (fun p=>(S.pg p).ask.length)<=(n+2)*t
 dn:qg n (fun d=>(S.dn d).length)<=se.length
 up:qg n (fun d=>(S.up d).length)<=t
theorem Qn.more{n m t t':Nat}{S:TS}{se:List (Nat×Let)}(q:Qn n m t S se)(h:t<=t'):Qn n m t' S se:=⟨q.rd,Nat.le_trans q.ps (Nat.mul_le_mul_left _ h),q.dn,Nat.le_trans q.up h⟩
theorem xq{α:Type}{n d:Nat}(hd:d<n)(f:Nat->α)(v:α)(g:α->Nat):qg n (fun e=>g (bL f d v e))+g (f d)=qg n (fun e=>g (f e))+g v:=by
 have:=Wv (f:=fun e=>g (f e)) (g:=fun e=>g (bL f d v e)) hd (fun e he=>by rw[bD _ _ he])
 rw[aL]at this
 exact this
theorem afL{n:Nat}:∀(ls:List (Nat×Let)) (dn:Nat->List Let),(∀q∈ls,q.1<n)->qg n (fun d=>(post dn ls d).length)=qg n (fun d=>(dn d).length)+ls.length
 | [],dn,_=>rfl
 | q::ls,dn,h=>by
   rw[afM,afL ls _ fun x hx=>h x (by simp[hx])]
   have:=xq (n:=n) (h q (by simp)) dn (dn q.1++[q.2]) List.length
   rw[List.length_append]at this
   simp only[List.length_cons,List.length_nil]at this ⊢
   lia
where
 afM {q:Nat×Let} {ls:List (Nat×Let)} {dn:Nat->List Let}:post dn (q::ls)=post (bL dn q.1 (dn q.1++[q.2])) ls:=rfl
theorem Qn.jx{n m t d:Nat}{S:TS}{se:List (Nat×Let)}{z:DS×List Ev×List UL}(q:Qn n m t S se)(hd:d<n)(h2:z.2.2.length<=1):Qn n m (t+1) (S.jx d z) se:=by
 have q':=q.more (Nat.le_succ t)
 refine⟨q.rd,q'.ps,q.dn,?_⟩
 show qg n (fun e=>(bL S.up d (S.up d++z.2.2) e).length)<=_
 have:=xq (n:=n) hd S.up (S.up d++z.2.2) List.length
 rw[List.length_append]at this
 have:=q.up
 lia
theorem Qn.step{n m t:Nat}{S:TS}{se:List (Nat×Let)}(q:Qn n m t S se)(I:jU n m S)(x:cG):Qn n m (t+1) (S.step n m x).1 (se++S.iT n x):=by
 have q':=q.more (Nat.le_succ t)
 have bn:∀{T:TS},Qn n m (t+1) T se->Qn n m (t+1) T (se++[]):=fun {T} h=>by rw[List.append_nil];exact h
 have lt:∀{d:Int},inR d n->d.toNat<n:=fun {d} h=>by unfold inR at h;lia
 cases x with
 | up d =>
   simp only[TS.step,TS.iT]
   split
   ·rename_i hin
    unfold TS.upD
    cases e:S.up d.toNat with
    | nil=>exact bn q'
    | cons l r =>
      obtain⟨_,hlp,_,hok⟩:=I.take (lt hin) e
      obtain⟨h1,h2⟩:=PG.arT (p:=l.pg) (l:=l) (q.rd l.pg) (lt hin)
      refine⟨fun p=>?_,?_,?_,?_⟩
      ·show Rd1 n (bL S.pg l.pg _ p)
       by_cases y:p=l.pg
       ·rw[y,aL];exact h2
       ·rw[bD _ _ y];exact q.rd p
      ·show(se++((S.pg l.pg).take l.pg d.toNat l).2).length+qg m (fun p=>(bL S.pg l.pg ((S.pg l.pg).take l.pg d.toNat l).1 p).ask.length)<=_
       have:=xq (n:=m) hlp S.pg ((S.pg l.pg).take l.pg d.toNat l).1 (fun g=>g.ask.length)
       have:=q.ps
       rw[List.length_append,Nat.mul_succ]
       lia
      ·show qg n (fun e=>(post S.dn ((S.pg l.pg).take l.pg d.toNat l).2 e).length)<=(se++((S.pg l.pg).take l.pg d.toNat l).2).length
       rw[afL _ _ fun x hx=>(hok x hx).1,List.length_append]
       have:=q.dn
       lia
      ·show qg n (fun e=>(bL S.up d.toNat r e).length)<=_
       have:=xq (n:=n) (lt hin) S.up r List.length
       rw[e]at this
       simp only[List.length_cons]at this
       have:=q.up
       lia
   ·exact bn q'
 | down d =>
   simp only[TS.step,TS.iT]
   split
   ·rename_i hin
    unfold TS.Wt
    cases e:S.dn d.toNat with
    | nil=>exact bn q'
    | cons l r =>
      have q1:Qn n m t {S with dn:=bL S.dn d.toNat r} se:=⟨q.rd,q.ps,by
       show qg n (fun e=>(bL S.dn d.toNat r e).length)<=_
       have:=xq (n:=n) (lt hin) S.dn r List.length
       rw[e]at this
       simp only[List.length_cons]at this
       have:=q.dn
       lia,q.up⟩
      exact bn (q1.jx (lt hin) (DS.xn _ _).2)
   ·exact bn q'
 | rest d p =>
   simp only[TS.step,TS.iT]
   refine bn ?_
   split
   ·rename_i hin
    split
    ·split
     ·exact q'
     ·exact q.jx (lt hin) (by dsimp only;split<;>simp)
    ·exact q'
   ·exact q'
 | look d p =>
   simp only[TS.step,TS.iT]
   refine bn ?_
   split
   ·rename_i hin
    split
    ·unfold TS.wish
     split
     ·exact q'
     ·exact q.jx (lt hin) (DS.ju _ _ _).2
    ·exact q'
   ·exact q'
 | put d p y =>
   simp only[TS.step,TS.iT]
   refine bn ?_
   split
   ·rename_i hin
    split
    ·unfold TS.wish
     split
     ·exact q'
     ·exact q.jx (lt hin) (DS.ju _ _ _).2
    ·exact q'
   ·exact q'
end gH
namespace gH
open PySem L2
def top(i:Nat):Stmt:=PySem.Challenge.pw_copydesks_k06_what_is_left.main.body.getD i (.Pass ⟨0,0,0,0⟩)
abbrev ajg:Stmt:=top 0
abbrev yU:Stmt:=top 12
abbrev qi:Stmt:=top 13
abbrev vP:Stmt:=top 14
abbrev vQ:Stmt:=top 15
abbrev vR:Stmt:=top 16
abbrev DY:Stmt:=top 19
abbrev sE:Stmt:=top 20
abbrev Ea:Stmt:=inClass (top 21) 0
abbrev qj:Stmt:=inClass (top 21) 1
abbrev yV:Stmt:=inClass (top 21) 2
abbrev Eb:Stmt:=inClass (top 21) 3
abbrev Ec:Stmt:=inClass (top 21) 4
abbrev Ed:Stmt:=inClass (top 21) 5
abbrev vU:Stmt:=inClass (top 21) 6
abbrev sG:Stmt:=inClass (top 21) 7
abbrev oH:Stmt:=inClass (top 21) 8
abbrev sH:Stmt:=inClass (top 21) 9
abbrev jz:Stmt:=inClass (top 21) 10
abbrev Ef:Stmt:=inClass (top 21) 11
abbrev oJ:Stmt:=inClass (top 23) 0
abbrev jW:Stmt:=inClass (top 23) 1
abbrev iU:Stmt:=inClass (top 23) 2
abbrev jA:Stmt:=inClass (top 23) 3
abbrev mL:Stmt:=inClass (top 23) 4
abbrev gJ:Stmt:=inClass (top 23) 5
abbrev oK:Stmt:=inClass (top 23) 6
abbrev jB:Stmt:=inClass (top 23) 7
abbrev jX:Stmt:=inClass (top 23) 8
abbrev Eg:Stmt:=inClass (top 24) 0
abbrev Eh:Stmt:=inClass (top 24) 1
abbrev Ei:Stmt:=inClass (top 28) 0
abbrev sI:Stmt:=inClass (top 28) 1
abbrev mO:Stmt:=inClass (top 28) 2
abbrev mQ:Stmt:=inClass (top 28) 3
abbrev sJ:Stmt:=inClass (top 28) 4
abbrev vV:Stmt:=inClass (top 28) 5
abbrev sO:Stmt:=inClass (top 28) 6
abbrev qm:Stmt:=inClass (top 28) 7
abbrev mR:Stmt:=inClass (top 28) 8
abbrev kJ:Stmt:=inClass (top 28) 9
abbrev oM:Stmt:=inClass (top 28) 10
abbrev uN:Stmt:=inClass (top 28) 11
abbrev xr:Stmt:=inClass (top 28) 12
abbrev jY:Stmt:=inClass (top 28) 13
abbrev Ej:Stmt:=top 30
abbrev yW:Stmt:=top 31
abbrev yX:Stmt:=top 32
abbrev PQ:Stmt:=top 34
abbrev ah3:Stmt:=top 35
abbrev WL:Stmt:=top 36
abbrev Ek:Stmt:=top 37
abbrev acv:Stmt:=top 38
abbrev yZ:Stmt:=top 39
abbrev PX:Stmt:=top 40
abbrev El:Stmt:=top 41
abbrev Je:Stmt:=top 42
abbrev vW:Stmt:=top 43
abbrev vX:Stmt:=top 44
abbrev sS:Stmt:=top 45
abbrev za:Stmt:=top 46
abbrev sU:Stmt:=top 47
abbrev qp:Stmt:=top 48
abbrev zb:Stmt:=top 49
abbrev alN:Stmt:=top 50
theorem ZM:bA ["page","right"] ["page","right"] (aO yU):=⟨rfl,rfl,rfl,by decide +kernel,rfl,by decide +kernel,by decide +kernel⟩
theorem P0:bA ["page","number"] ["page","number"] (aO qi):=⟨rfl,rfl,rfl,by decide +kernel,rfl,by decide +kernel,by decide +kernel⟩
theorem WM:bA ["page","number"] ["page","number"] (aO vP):=⟨rfl,rfl,rfl,by decide +kernel,rfl,by decide +kernel,by decide +kernel⟩
theorem WN:bA ["page","right","number"] ["page","right","number"] (aO vQ):=⟨rfl,rfl,rfl,by decide +kernel,rfl,by decide +kernel,by decide +kernel⟩
theorem WQ:bA ["page","right"] ["page","right"] (aO vR):=⟨rfl,rfl,rfl,by decide +kernel,rfl,by decide +kernel,by decide +kernel⟩
theorem acw:bA ["right","needed"] ["right","needed"] (aO DY):=⟨rfl,rfl,rfl,by decide +kernel,rfl,by decide +kernel,by decide +kernel⟩
theorem Ti:bA ["wish"] ["wish"] (aO sE):=⟨rfl,rfl,rfl,by decide +kernel,rfl,by decide +kernel,by decide +kernel⟩
theorem acx:bA ["self"] ["self"] (aO Ea):=⟨rfl,rfl,rfl,by decide +kernel,rfl,by decide +kernel,by decide +kernel⟩
theorem Qa:bA ["self","page"] ["self","page"] (aO qj):=⟨rfl,rfl,rfl,by decide +kernel,rfl,by decide +kernel,by decide +kernel⟩
theorem ZP:bA ["self"] ["self"] (aO yV):=⟨rfl,rfl,rfl,by decide +kernel,rfl,by decide +kernel,by decide +kernel⟩
theorem acy:bA ["self","wish"] ["self","wish"] (aO Eb):=⟨rfl,rfl,rfl,by decide +kernel,rfl,by decide +kernel,by decide +kernel⟩
theorem acz:bA ["self","letter"] ["self","letter"] (aO Ec):=⟨rfl,rfl,rfl,by decide +kernel,rfl,by decide +kernel,by decide +kernel⟩
theorem K9:bA ["self","page","number"] ["self","page"] (aO Ed):=⟨rfl,rfl,rfl,by decide +kernel,rfl,by decide +kernel,by decide +kernel⟩
theorem WR:bA ["self","wish"] ["self","wish"] (aO vU):=⟨rfl,rfl,rfl,by decide +kernel,rfl,by decide +kernel,by decide +kernel⟩
theorem Aw:bA ["self","wish","page"] ["self","wish"] (aO sG):=⟨rfl,rfl,rfl,by decide +kernel,rfl,by decide +kernel,by decide +kernel⟩
theorem uO:bA ["self","page","right","number","wish"] ["self","page","right","number"] (aO oH):=⟨rfl,rfl,rfl,by decide +kernel,rfl,by decide +kernel,by decide +kernel⟩
theorem Ax:bA ["self","page","right","number"] ["self","page","right"] (aO sH):=⟨rfl,rfl,rfl,by decide +kernel,rfl,by decide +kernel,by decide +kernel⟩
theorem zc:bA ["self","page"] ["self","page"] (aO jz):=⟨rfl,rfl,rfl,by decide +kernel,rfl,by decide +kernel,by decide +kernel⟩
theorem acA:bA ["self","page","right","number"] ["self","page","right","number"] (aO Ef):=⟨rfl,rfl,rfl,by decide +kernel,rfl,by decide +kernel,by decide +kernel⟩
theorem La:bA ["self","page","number"] ["self","page","number"] (aO oJ):=⟨rfl,rfl,rfl,by decide +kernel,rfl,by decide +kernel,by decide +kernel⟩
theorem Ca:bA ["self","desk","right"] ["self","desk","right"] (aO jW):=⟨rfl,rfl,rfl,by decide +kernel,rfl,by decide +kernel,by decide +kernel⟩
theorem vY:bA ["self","number"] ["self","number"] (aO iU):=⟨rfl,rfl,rfl,by decide +kernel,rfl,by decide +kernel,by decide +kernel⟩
theorem zf:bA ["self","desk","number"] ["self","desk","number"] (aO jA):=⟨rfl,rfl,rfl,by decide +kernel,rfl,by decide +kernel,by decide +kernel⟩
theorem lJ:bA ["self","sent","bids"] ["self"] (aO mL):=⟨rfl,rfl,rfl,by decide +kernel,rfl,by decide +kernel,by decide +kernel⟩
theorem eE:bA ["self","asking","right","bids"] ["self"] (aO gJ):=⟨rfl,rfl,rfl,by decide +kernel,rfl,by decide +kernel,by decide +kernel⟩
theorem uP:bA ["self","first"] ["self"] (aO oK):=⟨rfl,rfl,rfl,by decide +kernel,rfl,by decide +kernel,by decide +kernel⟩
theorem zg:bA ["self","desk"] ["self","desk"] (aO jB):=⟨rfl,rfl,rfl,by decide +kernel,rfl,by decide +kernel,by decide +kernel⟩
theorem Cd:bA ["self","desk"] ["self","desk"] (aO jX):=⟨rfl,rfl,rfl,by decide +kernel,rfl,by decide +kernel,by decide +kernel⟩
theorem acB:bA ["self","numbers"] ["self","numbers"] (aO Eg):=⟨rfl,rfl,rfl,by decide +kernel,rfl,by decide +kernel,by decide +kernel⟩
theorem Lb:bA ["self","desk","letter","loans"] ["self","desk","letter"] (aO Eh):=⟨rfl,rfl,rfl,by decide +kernel,rfl,by decide +kernel,by decide +kernel⟩
theorem acC:bA ["self","count","numbers"] ["self","count","numbers"] (aO Ei):=⟨rfl,rfl,rfl,by decide +kernel,rfl,by decide +kernel,by decide +kernel⟩
theorem lC:bA ["self","deed","word","desk","page"] ["self","deed"] (aO sI):=⟨rfl,rfl,rfl,by decide +kernel,rfl,by decide +kernel,by decide +kernel⟩
theorem Jf:bA ["self","desk"] ["self","desk"] (aO mO):=⟨rfl,rfl,rfl,by decide +kernel,rfl,by decide +kernel,by decide +kernel⟩
theorem Jg:bA ["self","page"] ["self","page"] (aO mQ):=⟨rfl,rfl,rfl,by decide +kernel,rfl,by decide +kernel,by decide +kernel⟩
theorem Ay:bA ["self","desk","page","done"] ["self","desk","page"] (aO sJ):=⟨rfl,rfl,rfl,by decide +kernel,rfl,by decide +kernel,by decide +kernel⟩
theorem Em:bA ["self","desk","page","number","done"] ["self","desk","page","number"] (aO vV):=⟨rfl,rfl,rfl,by decide +kernel,rfl,by decide +kernel,by decide +kernel⟩
theorem Tj:bA ["self","desk","page"] ["self","desk","page"] (aO sO):=⟨rfl,rfl,rfl,by decide +kernel,rfl,by decide +kernel,by decide +kernel⟩
theorem iV:bA ["self","desk","letter","pairs","receiver","sent"] ["self","desk"] (aO qm):=⟨rfl,rfl,rfl,by decide +kernel,rfl,by decide +kernel,by decide +kernel⟩
theorem sV:bA ["self","desk","letter"] ["self","desk"] (aO mR):=⟨rfl,rfl,rfl,by decide +kernel,rfl,by decide +kernel,by decide +kernel⟩
theorem En:bA ["self","road"] ["self","road"] (aO kJ):=⟨rfl,rfl,rfl,by decide +kernel,rfl,by decide +kernel,by decide +kernel⟩
theorem jK:bA ["self","desk","told","word","page","number"] ["self","desk","told"] (aO oM):=⟨rfl,rfl,rfl,by decide +kernel,rfl,by decide +kernel,by decide +kernel⟩
theorem Ce:bA ["self"] ["self"] (aO jY):=⟨rfl,rfl,rfl,by decide +kernel,rfl,by decide +kernel,by decide +kernel⟩
theorem acD:bA ["town","deed"] ["town","deed"] (aO Ej):=⟨rfl,rfl,rfl,by decide +kernel,rfl,by decide +kernel,by decide +kernel⟩
theorem vZ:bA ["count","numbers","deeds","town","deed"] ["count","numbers","deeds"] (aO yW):=⟨rfl,rfl,rfl,by decide +kernel,rfl,by decide +kernel,by decide +kernel⟩
theorem Ho:bA ["count","numbers","deeds","town"] ["count","numbers","deeds"] (aO yX):=⟨rfl,rfl,rfl,by decide +kernel,rfl,by decide +kernel,by decide +kernel⟩
theorem ah4:bA ["_law_found"] ["_law_found"] (aO PQ):=⟨rfl,rfl,rfl,by decide +kernel,rfl,by decide +kernel,by decide +kernel⟩
theorem anY:bA ["_law_script","_law_k"] ["_law_script","_law_k"] (aO ah3):=⟨rfl,rfl,rfl,by decide +kernel,rfl,by decide +kernel,by decide +kernel⟩
theorem xu:bA ["_law_found","_law_due","_law_left","_law_right","_law_one","_law_two"] ["_law_found","_law_due"] (aO WL):=⟨rfl,rfl,rfl,by decide +kernel,rfl,by decide +kernel,by decide +kernel⟩
theorem qX:bA ["_law_count","_law_numbers","_law_town","_law_number","_law_shelf"] ["_law_count","_law_numbers"] (aO Ek):=⟨rfl,rfl,rfl,by decide +kernel,rfl,by decide +kernel,by decide +kernel⟩
theorem pL:bA ["_law_town","_law_page","_law_shelf","_law_desk","_law_right","_law_bids","_law_one","_law_low"] ["_law_town","_law_page"] (aO acv):=⟨rfl,rfl,rfl,by decide +kernel,rfl,by decide +kernel,by decide +kernel⟩
theorem lr:bA ["_law_town","_law_page","_law_shelf","_law_desk","_law_right","_law_letter"] ["_law_town","_law_page"] (aO yZ):=⟨rfl,rfl,rfl,by decide +kernel,rfl,by decide +kernel,by decide +kernel⟩
theorem WT:bA ["_law_town","_law_page","_law_shelf"] ["_law_town","_law_page"] (aO PX):=⟨rfl,rfl,rfl,by decide +kernel,rfl,by decide +kernel,by decide +kernel⟩
theorem zj:bA ["_law_town","_law_desk","_law_letter","_law_shelf"] ["_law_town","_law_desk"] (aO El):=⟨rfl,rfl,rfl,by decide +kernel,rfl,by decide +kernel,by decide +kernel⟩
theorem afN:bA ["_law_right","_law_wish"] ["_law_right","_law_wish"] (aO Je):=⟨rfl,rfl,rfl,by decide +kernel,rfl,by decide +kernel,by decide +kernel⟩
theorem Eo:bA ["_law_town","_law_desk","_law_wish","_law_number"] ["_law_town","_law_desk","_law_wish"] (aO vW):=⟨rfl,rfl,rfl,by decide +kernel,rfl,by decide +kernel,by decide +kernel⟩
theorem gK:bA ["_law_town","_law_desk","_law_letter","_law_page","_law_held","_law_wish","_law_number"] ["_law_town","_law_desk"] (aO vX):=⟨rfl,rfl,rfl,by decide +kernel,rfl,by decide +kernel,by decide +kernel⟩
theorem Az:bA ["_law_town","_law_deed","_law_desk"] ["_law_town","_law_deed"] (aO sS):=⟨rfl,rfl,rfl,by decide +kernel,rfl,by decide +kernel,by decide +kernel⟩
theorem jw:bA ["_law_town","_law_deed","_law_word","_law_desk","_law_right","_law_wish","_law_number"] ["_law_town","_law_deed"] (aO za):=⟨rfl,rfl,rfl,by decide +kernel,rfl,by decide +kernel,by decide +kernel⟩
theorem qt:bA ["_law_cell","_law_pages","_law_far","_law_some"] ["_law_cell","_law_pages"] (aO sU):=⟨rfl,rfl,rfl,by decide +kernel,rfl,by decide +kernel,by decide +kernel⟩
theorem cT:bA ["_law_count","_law_cell","_law_last","_law_flush","_law_desk","_law_deeds"] ["_law_count","_law_cell"] (aO qp):=⟨rfl,rfl,rfl,by decide +kernel,rfl,by decide +kernel,by decide +kernel⟩
theorem cA:bA ["_law_cells","_law_count","_law_pages","_law_words","_law_asked","_law_k","_law_rest","_law_salt","_law_far","_law_word","_law_desk","_law_page","_law_odd","_law_number","_law_much"] ["_law_cells","_law_count","_law_pages"] (aO zb):=⟨rfl,rfl,rfl,by decide +kernel,rfl,by decide +kernel,by decide +kernel⟩
theorem lK:bA ["_law_script","_law_head","_law_count","_law_pages","_law_numbers","_law_asked","_law_first","_law_ones","_law_handed","_law_found","_law_town","_law_deed","_law_due"] ["_law_script"] (aO alN):=⟨rfl,rfl,rfl,by decide +kernel,rfl,by decide +kernel,by decide +kernel⟩
set_option genInjectivity false in
set_option genSizeOf false in
structure Jh where
 bu:Addr
 bc:Addr
 aW:Addr
 aM:Addr
 aV:Addr
 aJ:Addr
 bJ:Addr
 aF:Addr
 gQ:Addr
 bx:Addr
 zm:Addr
 afO:FuncData
 g8:Addr
 v5:FuncData
 fu:Addr
 oN:FuncData
 gq:Addr
 sW:FuncData
 gA:Addr
 sX:FuncData
 gB:Addr
 sY:FuncData
 jb:Addr
 zp:FuncData
 fQ:Addr
 qu:FuncData
 ie:Addr
 zq:FuncData
 dX:Addr
 oO:FuncData
 gk:Addr
 v7:FuncData
 ig:Addr
 zr:FuncData
 ik:Addr
 zu:FuncData
 il:Addr
 zx:FuncData
 fJ:Addr
 sZ:FuncData
 eQ:Addr
 qw:FuncData
 dG:Addr
 mU:FuncData
 eU:Addr
 qx:FuncData
 cJ:Addr
 jj:FuncData
 ir:Addr
 zy:FuncData
 dH:Addr
 mV:FuncData
 cN:Addr
 jC:FuncData
 cB:Addr
 iI:FuncData
 cL:Addr
 jl:FuncData
 dj:Addr
 lL:FuncData
 bV:Addr
 gn:FuncData
 dI:Addr
 mW:FuncData
 cM:Addr
 jm:FuncData
 cO:Addr
 jD:FuncData
 iu:Addr
 zz:FuncData
 iw:Addr
 zA:FuncData
 iy:Addr
 zB:FuncData
 eV:Addr
 qy:FuncData
 dm:Addr
 lM:FuncData
 dq:Addr
 lN:FuncData
 eX:Addr
 qz:FuncData
 fK:Addr
 tu:FuncData
 eY:Addr
 qC:FuncData
 dY:Addr
 oR:FuncData
 du:Addr
 lO:FuncData
 cR:Addr
 jZ:FuncData
 dJ:Addr
 mX:FuncData
 dN:Addr
 tD:FuncData
 dZ:Addr
 uQ:FuncData
 cP:Addr
 jE:FuncData
 jc:Addr
 zE:FuncData
 iz:Addr
 v8:FuncData
 iB:Addr
 v9:FuncData
 lZ:Addr
 Ji:FuncData
 Ep:Addr
 acE:FuncData
 pM:Addr
 Qc:FuncData
 jd:Addr
 zF:FuncData
 uR:Addr
 WW:FuncData
 iC:Addr
 wg:FuncData
 mj:Addr
 Jj:FuncData
 je:Addr
 zG:FuncData
 j0:Addr
 Er:FuncData
 gC:Addr
 tE:FuncData
 gD:Addr
 tG:FuncData
 fU:Addr
 qD:FuncData
 iD:Addr
 wj:FuncData
 fV:Addr
 qF:FuncData
 fB:Addr
 oU:FuncData
 iG:Addr
 wk:FuncData
 WX:Addr
 ah5:FuncData
 qY:Addr
structure Txt(K:PySem.W.Frag)(w:World)(mg:Str->Option Value)(t:Jh):Prop where
 aqe:Exc K t.bu [.type "ValueError",.type "Exception",.type "BaseException",.type "object"]
 aqf:mg "CopyError"=some (.ref t.bu)
 WY:Exc K t.bc [.ref t.bu,.type "ValueError",.type "Exception",.type "BaseException",.type "object"]
 afP:mg "NoDesk"=some (.ref t.bc)
 Ld:Exc K t.aW [.ref t.bu,.type "ValueError",.type "Exception",.type "BaseException",.type "object"]
 afQ:mg "NoPage"=some (.ref t.aW)
 xx:Exc K t.aM [.ref t.bu,.type "ValueError",.type "Exception",.type "BaseException",.type "object"]
 abM:mg "Waiting"=some (.ref t.aM)
 xF:Exc K t.aV [.ref t.bu,.type "ValueError",.type "Exception",.type "BaseException",.type "object"]
 afR:mg "NoCopy"=some (.ref t.aV)
 lQ:Exc K t.aJ [.ref t.bu,.type "ValueError",.type "Exception",.type "BaseException",.type "object"]
 W0:mg "NoLetter"=some (.ref t.aJ)
 atO:KY K t.bc
 qJ:PySem.W.kitOne K (.ref t.bc) (.ref t.bu)=some true
 eZ:t.bc≠t.bu
 xG:PySem.W.kitOne K (.ref t.bc) (.ref t.bc)=some true
 xH:PySem.W.kitOne K (.ref t.bc) (.ref t.aW)=some false
 oW:t.bc≠t.aW
 uT:PySem.W.kitOne K (.ref t.bc) (.ref t.aM)=some false
 mY:t.bc≠t.aM
 xJ:PySem.W.kitOne K (.ref t.bc) (.ref t.aV)=some false
 oX:t.bc≠t.aV
 tH:PySem.W.kitOne K (.ref t.bc) (.ref t.aJ)=some false
 lR:t.bc≠t.aJ
 pN:PySem.W.kitOne K (.ref t.bc) (.type "ValueError")=some true
 atQ:KY K t.aW
 qK:PySem.W.kitOne K (.ref t.aW) (.ref t.bu)=some true
 gb:t.aW≠t.bu
 xK:PySem.W.kitOne K (.ref t.aW) (.ref t.bc)=some false
 xM:t.aW≠t.bc
 xN:PySem.W.kitOne K (.ref t.aW) (.ref t.aW)=some true
 uU:PySem.W.kitOne K (.ref t.aW) (.ref t.aM)=some false
 mZ:t.aW≠t.aM
 xO:PySem.W.kitOne K (.ref t.aW) (.ref t.aV)=some false
 oY:t.aW≠t.aV
 tK:PySem.W.kitOne K (.ref t.aW) (.ref t.aJ)=some false
 lU:t.aW≠t.aJ
 pO:PySem.W.kitOne K (.ref t.aW) (.type "ValueError")=some true
 arU:KY K t.aM
 pP:PySem.W.kitOne K (.ref t.aM) (.ref t.bu)=some true
 iH:t.aM≠t.bu
 uV:PySem.W.kitOne K (.ref t.aM) (.ref t.bc)=some false
 uW:t.aM≠t.bc
 uX:PySem.W.kitOne K (.ref t.aM) (.ref t.aW)=some false
 uY:t.aM≠t.aW
 tL:PySem.W.kitOne K (.ref t.aM) (.ref t.aM)=some true
 uZ:PySem.W.kitOne K (.ref t.aM) (.ref t.aV)=some false
 m5:t.aM≠t.aV
 qL:PySem.W.kitOne K (.ref t.aM) (.ref t.aJ)=some false
 kO:t.aM≠t.aJ
 nR:PySem.W.kitOne K (.ref t.aM) (.type "ValueError")=some true
 atR:KY K t.aV
 qM:PySem.W.kitOne K (.ref t.aV) (.ref t.bu)=some true
 kW:t.aV≠t.bu
 xP:PySem.W.kitOne K (.ref t.aV) (.ref t.bc)=some false
 xQ:t.aV≠t.bc
 xR:PySem.W.kitOne K (.ref t.aV) (.ref t.aW)=some false
 xU:t.aV≠t.aW
 u0:PySem.W.kitOne K (.ref t.aV) (.ref t.aM)=some false
 u6:t.aV≠t.aM
 xV:PySem.W.kitOne K (.ref t.aV) (.ref t.aV)=some true
 tM:PySem.W.kitOne K (.ref t.aV) (.ref t.aJ)=some false
 lV:t.aV≠t.aJ
 pQ:PySem.W.kitOne K (.ref t.aV) (.type "ValueError")=some true
 aqg:KY K t.aJ
 nT:PySem.W.kitOne K (.ref t.aJ) (.ref t.bu)=some true
 nU:t.aJ≠t.bu
 tO:PySem.W.kitOne K (.ref t.aJ) (.ref t.bc)=some false
 tQ:t.aJ≠t.bc
 tR:PySem.W.kitOne K (.ref t.aJ) (.ref t.aW)=some false
 tU:t.aJ≠t.aW
 qN:PySem.W.kitOne K (.ref t.aJ) (.ref t.aM)=some false
 qO:t.aJ≠t.aM
 tV:PySem.W.kitOne K (.ref t.aJ) (.ref t.aV)=some false
 tW:t.aJ≠t.aV
 pR:PySem.W.kitOne K (.ref t.aJ) (.ref t.aJ)=some true
 m6:PySem.W.kitOne K (.ref t.aJ) (.type "ValueError")=some true
 dB:Cls K t.bJ
 acF:Mk K t.bJ t.ie
 arV:mg "Desk"=some (.ref t.bJ)
 dR:gP K t.bJ "copies"
 jn:gP K t.bJ "wish"
 aQ:Cls K t.aF
 zH:Mk K t.aF t.dH
 afS:mg "PageLoans"=some (.ref t.aF)
 fX:gP K t.aF "page"
 fc:gP K t.aF "number"
 cj:gP K t.aF "writer"
 cW:gP K t.aF "readers"
 cZ:gP K t.aF "asked"
 d9:gP K t.aF "awaited"
 ah6:Cls K t.gQ
 acG:Mk K t.gQ t.iu
 arW:mg "Hall"=some (.ref t.gQ)
 pD:gP K t.gQ "pages"
 dC:Cls K t.bx
 acH:Mk K t.bx t.iy
 arX:mg "Town"=some (.ref t.bx)
 jo:gP K t.bx "page_count"
 qZ:gP K t.bx "hall"
 fL:gP K t.bx "desks"
 fG:gP K t.bx "roads_up"
 fH:gP K t.bx "roads_down"
 u9:gP K t.bx "row"
 awY:jN K "_wall" "_wall" ajg t.zm t.afO
 awZ:Binds K t.afO ["k"] []
 aw0:mg "_wall"=some (.ref t.zm)
 Le:jN K "ask_letter" "ask_letter" yU t.g8 t.v5
 acI:Binds K t.v5 ["page","right"] []
 acJ:mg "ask_letter"=some (.ref t.g8)
 Ba:jN K "answer_letter" "answer_letter" qi t.fu t.oN
 Tn:Binds K t.oN ["page","number"] []
 Tp:mg "answer_letter"=some (.ref t.fu)
 Hq:jN K "gave_letter" "gave_letter" vP t.gq t.sW
 ZQ:Binds K t.sW ["page","number"] []
 ZR:mg "gave_letter"=some (.ref t.gq)
 Hr:jN K "lend_letter" "lend_letter" vQ t.gA t.sX
 ZS:Binds K t.sX ["page","right","number"] []
 ZV:mg "lend_letter"=some (.ref t.gA)
 wu:jN K "back_letter" "back_letter" vR t.gB t.sY
 Ht:Binds K t.sY ["page","right"] []
 Hu:mg "back_letter"=some (.ref t.gB)
 Es:jN K "is_enough" "is_enough" DY t.jb t.zp
 Ry:Binds K t.zp ["right","needed"] []
 Rz:mg "is_enough"=some (.ref t.jb)
 tX:jN K "right_needed" "right_needed" sE t.fQ t.qu
 Et:Binds K t.qu ["wish"] []
 Eu:mg "right_needed"=some (.ref t.fQ)
 afT:jN K "__init__" "Desk.__init__" Ea t.ie t.zq
 afU:Binds K t.zq ["self"] []
 Tq:jN K "right_of" "Desk.right_of" qj t.dX t.oO
 jt:Binds K t.oO ["self","page"] []
 iW:Meth K t.bJ "right_of" t.dX
 acK:jN K "waits" "Desk.waits" yV t.gk t.v7
 Lf:Binds K t.v7 ["self"] []
 Hv:Meth K t.bJ "waits" t.gk
 afV:jN K "want" "Desk.want" Eb t.ig t.zr
 RB:Binds K t.zr ["self","wish"] []
 Lg:Meth K t.bJ "want" t.ig
 afW:jN K "take" "Desk.take" Ec t.ik t.zu
 afX:Binds K t.zu ["self","letter"] []
 acL:Meth K t.bJ "take" t.ik
 afY:jN K "rest" "Desk.rest" Ed t.il t.zx
 afZ:Binds K t.zx ["self","page"] []
 acM:Meth K t.bJ "rest" t.il
 ZW:jN K "may_do" "Desk.may_do" vU t.fJ t.sZ
 Hw:Binds K t.sZ ["self","wish"] []
 Ew:Meth K t.bJ "may_do" t.fJ
 W2:jN K "do_wish" "Desk.do_wish" sG t.eQ t.qw
 Ex:Binds K t.qw ["self","wish"] []
 Bb:Meth K t.bJ "do_wish" t.eQ
 Qd:jN K "take_loan" "Desk.take_loan" oH t.dG t.mU
 Qe:Binds K t.mU ["self","page","right","number"] []
 Lh:Meth K t.bJ "take_loan" t.dG
 W3:jN K "go_down" "Desk.go_down" sH t.eU t.qx
 W4:Binds K t.qx ["self","page","right"] []
 Tr:Meth K t.bJ "go_down" t.eU
 Cg:jN K "number_to_tell" "Desk.number_to_tell" jz t.cJ t.jj
 nW:Binds K t.jj ["self","page"] []
 m7:Meth K t.bJ "number_to_tell" t.cJ
 af0:jN K "hold" "Desk.hold" Ef t.ir t.zy
 vd:Binds K t.zy ["self","page","right","number"] []
 rm:Meth K t.bJ "hold" t.ir
 Qf:jN K "__init__" "PageLoans.__init__" oJ t.dH t.mV
 Qg:Binds K t.mV ["self","page","number"] []
 Ey:jN K "take_ask" "PageLoans.take_ask" jW t.cN t.jC
 Ez:Binds K t.jC ["self","desk","right"] []
 Ci:Meth K t.aF "take_ask" t.cN
 xW:jN K "take_answer" "PageLoans.take_answer" iU t.cB t.iI
 xX:Binds K t.iI ["self","number"] []
 wy:Meth K t.aF "take_answer" t.cB
 Cj:jN K "take_gave" "PageLoans.take_gave" jA t.cL t.jl
 Ck:Binds K t.jl ["self","desk","number"] []
 zJ:Meth K t.aF "take_gave" t.cL
 Li:jN K "serve" "PageLoans.serve" mL t.dj t.lL
 vf:Binds K t.lL ["self"] []
 tY:Meth K t.aF "serve" t.dj
 tZ:jN K "bids_for_first" "PageLoans.bids_for_first" gJ t.bV t.gn
 t7:Binds K t.gn ["self"] []
 rn:Meth K t.aF "bids_for_first" t.bV
 Qh:jN K "lend" "PageLoans.lend" oK t.dI t.mW
 xY:Binds K t.mW ["self"] []
 vg:Meth K t.aF "lend" t.dI
 Cm:jN K "let_write" "PageLoans.let_write" jB t.cM t.jm
 Cp:Binds K t.jm ["self","desk"] []
 zK:Meth K t.aF "let_write" t.cM
 EY:jN K "let_read" "PageLoans.let_read" jX t.cO t.jD
 Fb:Binds K t.jD ["self","desk"] []
 Cq:Meth K t.aF "let_read" t.cO
 af1:jN K "__init__" "Hall.__init__" Eg t.iu t.zz
 af2:Binds K t.zz ["self","numbers"] []
 af3:jN K "take" "Hall.take" Eh t.iw t.zA
 af4:Binds K t.zA ["self","desk","letter"] []
 acN:Meth K t.gQ "take" t.iw
 af5:jN K "__init__" "Town.__init__" Ei t.iy t.zB
 af6:Binds K t.zB ["self","count","numbers"] []
 W5:jN K "do_deed" "Town.do_deed" sI t.eV t.qy
 W6:Binds K t.qy ["self","deed"] []
 Tt:Meth K t.bx "do_deed" t.eV
 Lj:jN K "check_desk" "Town.check_desk" mO t.dm t.lM
 Lk:Binds K t.lM ["self","desk"] []
 Jk:Meth K t.bx "check_desk" t.dm
 Ln:jN K "check_page" "Town.check_page" mQ t.dq t.lN
 Lp:Binds K t.lN ["self","page"] []
 Jl:Meth K t.bx "check_page" t.dq
 W7:jN K "look_at" "Town.look_at" sJ t.eX t.qz
 W8:Binds K t.qz ["self","desk","page"] []
 Tu:Meth K t.bx "look_at" t.eX
 ZX:jN K "put_on" "Town.put_on" vV t.fK t.tu
 ZZ:Binds K t.tu ["self","desk","page","number"] []
 W9:Meth K t.bx "put_on" t.fK
 Xa:jN K "give_up" "Town.give_up" sO t.eY t.qC
 Xb:Binds K t.qC ["self","desk","page"] []
 Tw:Meth K t.bx "give_up" t.eY
 Tz:jN K "bring_up" "Town.bring_up" qm t.dY t.oR
 TJ:Binds K t.oR ["self","desk"] []
 Qi:Meth K t.bx "bring_up" t.dY
 Lq:jN K "bring_down" "Town.bring_down" mR t.du t.lO
 Lr:Binds K t.lO ["self","desk"] []
 Jm:Meth K t.bx "bring_down" t.du
 Hh:jN K "first_letter" "Town.first_letter" kJ t.cR t.jZ
 qP:Binds K t.jZ ["self","road"] []
 pU:Meth K t.bx "first_letter" t.cR
 Qj:jN K "carry_out" "Town.carry_out" oM t.dJ t.mX
 oZ:Binds K t.mX ["self","desk","told"] []
 m8:Meth K t.bx "carry_out" t.dJ
 ajh:jN K "all_rights" "Town.all_rights" uN t.dN t.tD
 aji:Binds K t.tD ["self"] []
 ah7:Meth K t.bx "all_rights" t.dN
 aj9:jN K "rights_of" "Town.rights_of" xr t.dZ t.uQ
 aka:Binds K t.uQ ["self","desk"] []
 ajj:Meth K t.bx "rights_of" t.dZ
 Fd:jN K "waiting_desks" "Town.waiting_desks" jY t.cP t.jE
 Fe:Binds K t.jE ["self"] []
 Cr:Meth K t.bx "waiting_desks" t.cP
 RC:jN K "answer_of" "answer_of" Ej t.jc t.zE
 af7:Binds K t.zE ["town","deed"] []
 af8:mg "answer_of"=some (.ref t.jc)
 Ls:jN K "town_after" "town_after" yW t.iz t.v8
 acO:Binds K t.v8 ["count","numbers","deeds"] []
 acP:mg "town_after"=some (.ref t.iz)
 Lw:jN K "left_after" "left_after" yX t.iB t.v9
 acQ:Binds K t.v9 ["count","numbers","deeds"] []
 acR:mg "left_after"=some (.ref t.iB)
 abN:jN K "_law_whole" "_law_whole" PQ t.lZ t.Ji
 akb:Binds K t.Ji ["_law_found"] []
 akc:mg "_law_whole"=some (.ref t.lZ)
 Jo:jN K "_law_at" "_law_at" ah3 t.Ep t.acE
 Qk:Binds K t.acE ["_law_script","_law_k"] []
 Ql:mg "_law_at"=some (.ref t.Ep)
 Lx:jN K "_law_same" "_law_same" WL t.pM t.Qc
 Xc:Binds K t.Qc ["_law_found","_law_due"] []
 Xd:mg "_law_same"=some (.ref t.pM)
 RD:jN K "_law_town_of" "_law_town_of" Ek t.jd t.zF
 af9:Binds K t.zF ["_law_count","_law_numbers"] []
 aga:mg "_law_town_of"=some (.ref t.jd)
 ajk:jN K "_law_bid" "_law_bid" acv t.uR t.WW
 anZ:Binds K t.WW ["_law_town","_law_page"] []
 an0:mg "_law_bid"=some (.ref t.uR)
 zL:jN K "_law_lend_out" "_law_lend_out" yZ t.iC t.wg
 Ly:Binds K t.wg ["_law_town","_law_page"] []
 Lz:mg "_law_lend_out"=some (.ref t.iC)
 Qm:jN K "_law_serve" "_law_serve" PX t.mj t.Jj
 abO:Binds K t.Jj ["_law_town","_law_page"] []
 abP:mg "_law_serve"=some (.ref t.mj)
 RG:jN K "_law_came_up" "_law_came_up" El t.je t.zG
 agb:Binds K t.zG ["_law_town","_law_desk"] []
 agc:mg "_law_came_up"=some (.ref t.je)
 Jp:jN K "_law_enough" "_law_enough" Je t.j0 t.Er
 Xe:Binds K t.Er ["_law_right","_law_wish"] []
 Xf:mg "_law_enough"=some (.ref t.j0)
 wz:jN K "_law_fulfilled" "_law_fulfilled" vW t.gC t.tE
 Hx:Binds K t.tE ["_law_town","_law_desk","_law_wish"] []
 Hy:mg "_law_fulfilled"=some (.ref t.gC)
 Hz:jN K "_law_came_down" "_law_came_down" vX t.gD t.tG
 Z0:Binds K t.tG ["_law_town","_law_desk"] []
 aaa:mg "_law_came_down"=some (.ref t.gD)
 Ff:jN K "_law_refusal_of" "_law_refusal_of" sS t.fU t.qD
 Xg:Binds K t.qD ["_law_town","_law_deed"] []
 Xh:mg "_law_refusal_of"=some (.ref t.fU)
 LC:jN K "_law_answered" "_law_answered" za t.iD t.wj
 acS:Binds K t.wj ["_law_town","_law_deed"] []
 acT:mg "_law_answered"=some (.ref t.iD)
 Fg:jN K "_law_numbers_of" "_law_numbers_of" sU t.fV t.qF
 Xi:Binds K t.qF ["_law_cell","_law_pages"] []
 Xj:mg "_law_numbers_of"=some (.ref t.fV)
 Bc:jN K "_law_first_deeds" "_law_first_deeds" qp t.fB t.oU
 TQ:Binds K t.oU ["_law_count","_law_cell"] []
 TV:mg "_law_first_deeds"=some (.ref t.fB)
 LK:jN K "_law_asked_of" "_law_asked_of" zb t.iG t.wk
 acU:Binds K t.wk ["_law_cells","_law_count","_law_pages"] []
 acV:mg "_law_asked_of"=some (.ref t.iG)
 au4:jN K "law" "law" alN t.WX t.ah5
 azC:Binds K t.ah5 ["_law_script"] []
 azD:mg "law"=some (.ref t.WX)
 Qo:∃u,mg "NONE"=some (.str "none" u)
 ah8:∃u,mg "READ"=some (.str "read" u)
 V3:∃u,mg "WRITE"=some (.str "write" u)
 ajl:mg "RANKS"=some (.ref t.qY)
 ajm:KDict K w t.qY [("none",V.int 0),("read",V.int 1),("write",V.int 2)]
 alO:∃u,mg "DONE"=some (.str "done" u)
 ajn:∃u,mg "WAITS"=some (.str "waits" u)
 Be:mg "len"=none
 RJ:mg "enumerate"=none
 lD:mg "range"=none
 fM:mg "isinstance"=none
 LQ:mg "int"=none
 arY:mg "bool"=none
 Qp:mg "list"=none
 V4:mg "tuple"=none
 aqh:mg "str"=none
end gH
namespace gH
open PySem L2
theorem agd(r:Rt):([("none",V.int 0),("read",V.int 1),("write",V.int 2)]:List (Str×V)).lookup r.s=some (.int r.k):=by cases r<;>rfl
theorem akd{kvs:List (Key×V)}{k j:Key}:fP (wW kvs k) j=if j=k then none else fP kvs j:=by
 induction kvs with
 | nil=>simp[wW,fP]
 | cons p r ih =>
   by_cases e:p.1=k
   ·rw[ajZ e,ih]
    by_cases ej:j=k
    ·rw[if_pos ej,if_pos ej]
    ·rw[if_neg ej,if_neg ej]
     have:p.1≠j:=fun z=>ej (z.symm.trans e)
     simp[fP,List.find?_cons,this]
   ·rw[aj0 e]
    by_cases ej:j=k
    ·rw[if_pos ej]
     subst ej
     rw[if_pos rfl]at ih
     simp only[fP,List.find?_cons,e,decide_false]at ih ⊢
     exact ih
    ·rw[if_neg ej]at ih ⊢
     by_cases ep:p.1=j
     ·simp[fP,List.find?_cons,ep]
     ·simp only[fP,List.find?_cons,ep,decide_false]at ih ⊢
      exact ih
section
variable{P:Program}{w:World}{K:PySem.W.Frag}{mg:Str->Option Value}{base:Heap}{t:Jh}
theorem aab(T:Txt K w mg t):c7 P w K mg base nP 1 t.g8 t.v5 ["page","right"] (afD "ask"):=by
 refine T.Le.ok ZM (fun vs H Q E h=>?_) (fun cdv A outer s H vs Q E hr h=>?_)
 ·obtain⟨x,y,rfl,_⟩:=h;rfl
 ·obtain⟨x,y,rfl,k⟩:=h
  refine⟨_,(aC (bw (bZ (aa aD (aa (pv 0) (aa (pv 1) aq)))))),?_⟩
  try dsimp only[dw,Cx.kI]
  exact⟨_,rfl,_,rfl,Zy,fun a ha=>k a ha⟩
theorem Qq(T:Txt K w mg t):c7 P w K mg base nP 1 t.fu t.oN ["page","number"] (afD "answer"):=by
 refine T.Ba.ok P0 (fun vs H Q E h=>?_) (fun cdv A outer s H vs Q E hr h=>?_)
 ·obtain⟨x,y,rfl,_⟩:=h;rfl
 ·obtain⟨x,y,rfl,k⟩:=h
  refine⟨_,(aC (bw (bZ (aa aD (aa (pv 0) (aa (pv 1) aq)))))),?_⟩
  try dsimp only[dw,Cx.kI]
  exact⟨_,rfl,_,rfl,Zy,fun a ha=>k a ha⟩
theorem Xk(T:Txt K w mg t):c7 P w K mg base nP 1 t.gq t.sW ["page","number"] (afD "gave"):=by
 refine T.Hq.ok WM (fun vs H Q E h=>?_) (fun cdv A outer s H vs Q E hr h=>?_)
 ·obtain⟨x,y,rfl,_⟩:=h;rfl
 ·obtain⟨x,y,rfl,k⟩:=h
  refine⟨_,(aC (bw (bZ (aa aD (aa (pv 0) (aa (pv 1) aq)))))),?_⟩
  try dsimp only[dw,Cx.kI]
  exact⟨_,rfl,_,rfl,Zy,fun a ha=>k a ha⟩
theorem LR(T:Txt K w mg t):c7 P w K mg base nP 1 t.jb t.zp ["right","needed"] alw:=by
 refine T.Es.ok acw (fun vs H Q E h=>?_) (fun cdv A outer s H vs Q E hr h=>?_)
 ·obtain⟨x,y,rfl,_⟩:=h;rfl
 ·obtain⟨r,n,rfl,k⟩:=h
  refine⟨_,(aC (bw (mC Wb (ai2 (by rfl) T.ajl T.ajm (pv 0) (fun _ _=>rfl)) (ai2 (by rfl) T.ajl T.ajm (pv 1) (fun _ _=>rfl)) (bj _)))),?_⟩
  try dsimp only[dw,Cx.kI]
  exact⟨_,rfl,_,_,rfl,agd r,_,rfl,_,_,rfl,agd n,_,_,rfl,rfl,k⟩
theorem Bf(T:Txt K w mg t):c7 P w K mg base nP 1 t.fQ t.qu ["wish"] (arl K):=by
 refine T.tX.ok Ti (fun vs H Q E h=>?_) (fun cdv A outer s H vs Q E hr h=>?_)
 ·obtain⟨x,y,rfl,_⟩:=h;rfl
 ·obtain⟨a,w,rfl,ha,k⟩:=h
  refine⟨_,(aC (bw (pF (aU cQ (aN bz (pv 0) aA (fun _ _=>rfl)) aD (bj _)) (gZ (by rfl) T.V3) (gZ (by rfl) T.ah8)))),?_⟩
  try dsimp only[dw,Cx.kI]
  cases w with
  | look p =>
    refine zt rfl (di.of ha) rfl ⟨rfl,_,rfl,?_⟩
    rw[dh (by decide +kernel)]
    exact uB k
  | put p n =>
    refine zt rfl (di.of ha) rfl ⟨rfl,_,rfl,?_⟩
    rw[fD]
    exact mG k
theorem acW(T:Txt K w mg t):c7 P w K mg base nP 1 t.ie t.zq ["self"] (arn t.bJ):=by
 refine T.afT.ok acx (fun vs H Q E h=>?_) (fun cdv A outer s H vs Q E hr h=>?_)
 ·obtain⟨x,y,rfl,_⟩:=h;rfl
 ·obtain⟨p,dx,rfl,hp,k⟩:=h
  refine⟨_,(ao (gh (pv 0) ale (by rfl))
   (aC (gh (pv 0) rP (by rfl)))),?_⟩
  try dsimp only[dw,Cx.kI]
  show let Z1:L2.TS:=_;let Z2:L2.TS:=_;let D0:Ends:=_;(aR Z1 (Z2)) D0 _ _
  intro Z1 Z2 D0
  intro d hd
  have npd:p≠d:=aG hp hd
  refine⟨_,rfl,p,t.bJ,dx,[],rfl,(by rw[az npd];exact hp),T.dB,T.dR,(by show 0<1000;decide),_,rfl,p,t.bJ,dx,_,rfl,aj,T.dB,T.jn,(by show 1<1000;decide),?_⟩
  refine k d _ hd ⟨⟨dx,.non,aj,rfl⟩,⟨[],by rw[az npd.symm,az npd.symm,aj],Nat.le_refl _,fun n=>rfl⟩⟩ fun b o e hb=>?_
  rw[az hb,az hb,az (aG e hd)]
  exact e
theorem iY(T:Txt K w mg t):c7 P w K mg base nP 1 t.dX t.oO ["self","page"] (anJ t.bJ):=by
 refine T.Tq.ok Qa (fun vs H Q E h=>?_) (fun cdv A outer s H vs Q E hr h=>?_)
 ·obtain⟨p,d,S,c,n,rfl,_⟩:=h;rfl
 ·obtain⟨p,d,S,c,n,rfl,DA,k⟩:=h
  have hu:=kZ hr
  obtain⟨⟨dx,v,h1,_⟩,⟨kvs,h2,h3,h4⟩⟩:=id DA
  refine⟨_,(aC (bw (pF (rQ (aq1 hu (pv 1) (cI (pv 0) (by rfl)))) (aN bz (bG hu (cI (pv 0) (by rfl)) (pv 1) (fun _ _=>rfl)) aA (fun _ _=>rfl)) (gZ (by rfl) T.Qo)))),?_⟩
  try dsimp only[dw,Cx.kI]
  refine⟨_,rfl,_,rfl,p,_,dx,_,_,rfl,h1,T.dB,T.dR,jR _ _,d,_,rfl,Hg.k (k:=Sum.inl n) h2,_,rfl,?_⟩
  have h5:=h4 n
  unfold rW at h5
  split at h5
  ·rename_i e
   rw[h5]
   refine uB ?_
   rw[e]at k
   exact k
  ·rename_i e
   obtain⟨tt,e1,e2⟩:=h5
   rw[e1]
   refine mG ?_
   exact⟨_,rfl,p,_,dx,_,_,rfl,h1,T.dB,T.dR,jR _ _,_,rfl,d,.ref tt,rfl,(by rw[<-e1];exact Hg.k (k:=Sum.inl n) h2),tt,_,0,_,rfl,rfl,di.of e2,rfl,k⟩
theorem W.at1(w:W):Py w.vs 1=some (.int w.pg):=by cases w<;>rfl
theorem W.at0(w:W):Py w.vs 0=some (.str w.tag):=by cases w<;>rfl
theorem Fi(T:Txt K w mg t):c7 P w K mg base nP 2 t.fJ t.sZ ["self","wish"] (auX t.bJ):=by
 refine T.ZW.ok WR (fun vs H Q E h=>?_) (fun cdv A outer s H vs Q E hr h=>?_)
 ·obtain⟨p,d,S,c,a,w,rfl,_⟩:=h;rfl
 ·obtain⟨p,d,S,c,a,w,rfl,DA,ha,k⟩:=h
  have hu:=kZ hr
  obtain⟨⟨dx,v,h1,_⟩,_⟩:=id DA
  refine⟨_,(aC (bw (cC (LR T) (hr.mono (by decide):bQ 1 _) (by rfl) T.Rz T.Es.kp T.Ry .nil bU (aa (cF (pv 0) T.dB T.iW (iY T) (hr.mono (by decide):bQ 1 _) T.jt .nil bU (aa (aN bz (pv 1) aA (fun _ _=>rfl)) aq)) (aa (cC (Bf T) (hr.mono (by decide):bQ 1 _) (by rfl) T.Eu T.tX.kp T.Et .nil bU (aa (pv 1) aq)) aq))))),?_⟩
  try dsimp only[dw,Cx.kI]
  exact⟨_,rfl,p,dx,_,rfl,h1,eO _ _ (by decide +kernel) (by decide +kernel),zt rfl (di.of ha) (W.at1 w) ⟨p,d,S,c,w.pg,rfl,DA,_,rfl,a,w,rfl,ha,S.rt w.pg,w.need,rfl,k⟩⟩
theorem m9(T:Txt K w mg t):c7 P w K mg base nP 2 t.cJ t.jj ["self","page"] (aro t.bJ):=by
 refine T.Cg.ok zc (fun vs H Q E h=>?_) (fun cdv A outer s H vs Q E hr h=>?_)
 ·obtain⟨p,d,S,c,n,rfl,_⟩:=h;rfl
 ·obtain⟨p,d,S,c,n,rfl,DA,k⟩:=h
  have hu:=kZ hr
  obtain⟨⟨dx,v,h1,_⟩,⟨kvs,h2,h3,h4⟩⟩:=id DA
  refine⟨_,(aC (bw (pF (aU cQ (cF (pv 0) T.dB T.iW (iY T) (hr.mono (by decide):bQ 1 _) T.jt .nil bU (aa (pv 1) aq)) (gZ (by rfl) T.V3) (bj _)) (aN bz (bG hu (cI (pv 0) (by rfl)) (pv 1) (fun _ _=>rfl)) aA (fun _ _=>rfl)) rP))),?_⟩
  try dsimp only[dw,Cx.kI]
  refine⟨_,rfl,p,dx,_,rfl,h1,eO _ _ (by decide +kernel) (by decide +kernel),_,rfl,p,d,S,c,n,rfl,DA,rfl,_,rfl,?_⟩
  unfold DS.tell at k
  by_cases e:S.rt n=.wr
  ·have h5:=h4 n
   unfold rW at h5
   rw[e,if_neg (by intro z;cases z)]at h5
   rw[if_pos e]at k
   rw[e]
   obtain⟨tt,e1,e2⟩:=h5
   refine mG ?_
   exact⟨_,rfl,p,_,dx,_,_,rfl,h1,T.dB,T.dR,jR _ _,_,rfl,d,.ref tt,rfl,(by rw[<-e1];exact Hg.k (k:=Sum.inl n) h2),tt,_,1,_,rfl,rfl,di.of e2,rfl,k⟩
  ·rw[if_neg e]at k
   exact aP (nQ (x:="write") (q:=.wr) rfl e) k
theorem rA(T:Txt K w mg t):c7 P w K mg base nP 1 t.ir t.zy ["self","page","right","number"] (arp t.bJ):=by
 refine T.af0.ok acA (fun vs H Q E h=>?_) (fun cdv A outer s H vs Q E hr h=>?_)
 ·obtain⟨p,d,S,c,n,r,k,v,rfl,_⟩:=h;rfl
 ·obtain⟨p,d,S,c,n,r,z,v,rfl,DA,hc,hv,k⟩:=h
  have hu:=kZ hr
  have npd:=DA.npd
  obtain⟨⟨dx,u,h1,hw⟩,⟨kvs,h2,h3,h4⟩⟩:=id DA
  refine⟨_,(aC (cg (aU cQ (pv 2) (gZ (by rfl) T.Qo) (bj _)) (aC (bO (alf (cI (pv 0) (by rfl)) (pv 1) rP ⟨rfl,rfl,rfl,rfl⟩))) (aC (lz hu (cI (pv 0) (by rfl)) (pv 1) (bZ (aa (pv 2) (aa (pv 3) aq))) (by rfl))))),?_⟩
  try dsimp only[dw,Cx.kI]
  show let Z1:L2.TS:=_;let Z2:L2.TS:=_;let Z3:L2.TS:=dg _ Z1 Z2;let D0:Ends:=_;(Z3) D0 _ _
  intro Z1 Z2 Z3 D0
  refine⟨_,rfl,rfl,_,rfl,?_⟩
  by_cases e:r=.no
  ·subst e
   refine mG ?_
   have fin:∀kvs',kvs'.length<=c->(∀j:Int,fP kvs' (Sum.inl j:Key)=if(Sum.inl j:Key)=Sum.inl n then none else fP kvs (Sum.inl j:Key))->Q V.non (upd H d (.dK kvs')):=fun kvs' hl hval=>by
    have ts:b8 H (upd H d (.dK kvs')):=fun b xs e=>by rw[az (jq e h2 (by intro z;cases z))];exact e
    refine k _ ⟨⟨dx,u,by rw[az npd];exact h1,hw.aX ts⟩,⟨kvs',aj,Nat.le_succ_of_le hl,fun j=>?_⟩⟩ fun b o e hp hd=>by rw[az hd];exact e
    rw[hval j]
    by_cases ej:j=n
    ·subst ej
     rw[DS.acp,DS.ai4,if_pos rfl]
     unfold rW
     rw[if_pos rfl]
    ·have:=(h4 j).aX ts
     rw[if_neg (fun z=>ej (Sum.inl.inj z)),DS.afz _ _ _ ej,DS.afA _ _ _ ej]
     exact this
   refine⟨_,rfl,p,_,dx,_,_,rfl,h1,T.dB,T.dR,jR _ _,d,rfl,.inl ⟨kvs,.inl h2⟩,_,rfl,kvs,Sum.inl n,h2,rfl,fun v' hv'=>?_,fun hn=>?_⟩
   ·exact fin _ (Nat.le_trans (afn _ _) h3) fun j=>akd
   ·have q:=fin kvs h3 fun j=>by
     by_cases ej:(Sum.inl j:Key)=Sum.inl n
     ·rw[if_pos ej,ej];exact hn
     ·rw[if_neg ej]
    have eq:upd H d (.dK kvs)=H:=by
     funext b
     by_cases hb:b=d
     ·rw[hb,aj,h2]
     ·rw[az hb]
    rw[eq]at q
    exact q
  ·refine aP (nQ (x:="none") (q:=.no) rfl e) ?_
   have hv':v=.int z:=hv.resolve_left e
   subst hv'
   refine⟨_,rfl,_,rfl,uA,fun tt htt=>?_⟩
   have ntd:d≠tt:=aG h2 htt
   have ntp:p≠tt:=aG h1 htt
   refine⟨_,rfl,p,_,dx,_,_,rfl,(by rw[az ntp];exact h1),T.dB,T.dR,jR _ _,_,rfl,d,_,rfl,ahI.k (k:=Sum.inl n) (by rw[az ntd];exact h2) (Nat.lt_of_le_of_lt (Nat.le_trans h3 hc) (by decide)),?_⟩
   have ts:b8 H (upd (upd H tt (.tup [.str r.s,.int z])) d (.dK (putK kvs (Sum.inl n) (.ref tt)))):=fun b xs e=>by
    rw[az (jq e h2 (by intro z;cases z)),az (aG e htt)]
    exact e
   refine k _ ⟨⟨dx,u,by rw[az npd,az ntp];exact h1,hw.aX ts⟩,⟨_,aj,Nat.le_trans (uE _ _ _) (Nat.succ_le_succ h3),fun j=>?_⟩⟩ fun b o e hp hd=>by rw[az hd,az (aG e htt)];exact e
   rw[alc]
   by_cases ej:j=n
   ·subst ej
    rw[DS.acp,DS.ai4,if_pos rfl]
    unfold rW
    rw[if_neg e]
    exact⟨tt,rfl,by rw[az ntd.symm,aj]⟩
   ·have:=(h4 j).aX ts
    rw[if_neg (fun z=>ej (Sum.inl.inj z)),DS.afz _ _ _ ej,DS.afA _ _ _ ej]
    exact this
end
end gH
namespace gH
open PySem L2
section
variable{P:Program}{w:World}{K:PySem.W.Frag}{mg:Str->Option Value}{base:Heap}{t:Jh}
theorem cz.new{C:Addr}{H:Hp}{p d a:Addr}{o:HO}{S:DS}{c:Nat}(D:cz C H p d S c)(h:H a=none):cz C (upd H a o) p d S c:=D.same (aB h)
theorem cz.copy{C:Addr}{H:Hp}{p d:Addr}{S:DS}{c:Nat}(D:cz C H p d S c){n:Int}(h:S.rt n≠.no):∃kvs tt,H d=some (.dK kvs)/\fP kvs (Sum.inl n:Key)=some (.ref tt)/\H tt=some (.tup [.str (S.rt n).s,.int (S.nm n)]):=by
 obtain⟨_,⟨kvs,h2,_,h4⟩⟩:=D
 have h5:=h4 n
 unfold rW at h5
 rw[if_neg h]at h5
 obtain⟨tt,e1,e2⟩:=h5
 exact⟨kvs,tt,h2,e1,e2⟩
theorem DS.au5{S:DS}{w:W}(h:S.ok w):S.rt w.pg≠.no:=fun e=>by
 unfold DS.ok at h
 rw[e]at h
 cases w<;>simp[W.need,Rt.k]at h
theorem DS.an1(S:DS)(w:W)(q:Int):(S.done w).rt q=S.rt q:=by
 cases w with
 | look p=>rfl
 | put p n=>show(if q=p then S.rt p else S.rt q)=S.rt q;split<;>simp_all
theorem DS.an2(S:DS)(w:W):(S.done w).nm w.pg=S.num w:=by
 cases w with
 | look p=>rfl
 | put p n=>show(if p=p then n else S.nm p)=n;rw[if_pos rfl]
theorem Bg(T:Txt K w mg t):c7 P w K mg base nP 2 t.eQ t.qw ["self","wish"] (ax7 t.bJ):=by
 refine T.W2.ok Aw (fun vs H Q E h=>?_) (fun cdv A outer s H vs Q E hr h=>?_)
 ·obtain⟨p,d,S,c,a,w,rfl,_⟩:=h;rfl
 ·obtain⟨p,d,S,c,a,w,rfl,DA,hc,ha,hok,k⟩:=h
  have hu:=kZ hr
  obtain⟨⟨dx,v,h1,_⟩,_⟩:=id DA
  refine⟨_,(ao (bh (i:=2) Aw.nd rfl (Or.inl rfl) (aN bz (pv 1) aA (fun _ _=>rfl)))
   (ao (cg (aU cQ (aN bz (pv 1) aA (fun _ _=>rfl)) aD (bj _)) (aC (bO (cF (pv 0) T.dB T.rm (rA T) (hr.mono (by decide):bQ 1 _) T.vd .nil bU (aa (pv 2) (aa (cF (pv 0) T.dB T.iW (iY T) (hr.mono (by decide):bQ 1 _) T.jt .nil bU (aa (pv 2) aq)) (aa (aN bz (pv 1) aA (fun _ _=>rfl)) aq)))))) bC)
   (aC (bw (bZ (aa (aN bz (pv 1) aA (fun _ _=>rfl)) (aa (pv 2) (aa (aN bz (bG hu (cI (pv 0) (by rfl)) (pv 2) (fun _ _=>rfl)) aA (fun _ _=>rfl)) aq)))))))),?_⟩
  try dsimp only[dw,Cx.kI]
  show let Z1:L2.TS:=_;let Z2:L2.TS:=_;let Z3:L2.TS:=dg _ Z2 bK;let Z4:L2.TS:=_;let D0:Ends:=_;(aR Z1 (aR Z3 (Z4))) D0 _ _
  intro Z1 Z2 Z3 Z4 D0
  refine zt rfl (di.of ha) (W.at1 w) (zt rfl (di.of ha) (W.at0 w) ⟨rfl,_,rfl,?_⟩)
  have fin:∀H1:Hp,cz t.bJ H1 p d (S.done w) (c+1)->DF H H1 p d->
   (aqI (ak2 (lX (Wa (ahE K) (jf 1) (tC (.int 0))) (lX (jf 2) (lX (Wa (ahE K) (Wl (ace K (jf 0) "copies") (jf 2)) (tC (.int 1))) Hf)))))
     {nx:=fun _ H'=>Q .non H',rt:=Q} [some (.ref p),some (.ref a),some (.int w.pg)] H1:=fun H1 D1 f1=>by
   have ha1:=(f1.tups DA) a _ ha
   obtain⟨⟨wQ,v1,g1,_⟩,_⟩:=id D1
   have hno:(S.done w).rt w.pg≠.no:=by rw[DS.an1];exact DS.au5 hok
   obtain⟨kvs,tt,h2,e1,e2⟩:=D1.copy hno
   refine zt rfl (di.of ha1) (W.at0 w) ⟨_,rfl,_,rfl,p,_,wQ,_,_,rfl,g1,T.dB,T.dR,jR _ _,_,rfl,d,.ref tt,rfl,(by rw[<-e1];exact Hg.k (k:=Sum.inl w.pg) h2),tt,_,1,.int (S.num w),rfl,rfl,di.of e2,(by rw[DS.an2];rfl),Zy,fun u hu=>?_⟩
   exact k u _ (D1.new hu) (f1.trans (DF.new hu)) aj
  cases w with
  | look q =>
    refine aP (dh (show("look":Str)≠"put" by decide +kernel)) ?_
    exact fin H (DA.mono (Nat.le_succ _)) (DF.refl _ _ _)
  | put q n =>
    refine bH fD ?_
    refine⟨_,rfl,p,dx,_,rfl,h1,eO _ _ (by decide +kernel) (by decide +kernel),_,rfl,_,rfl,p,dx,_,rfl,h1,eO _ _ (by decide +kernel) (by decide +kernel),_,rfl,p,d,S,c,q,rfl,DA,zt rfl (di.of ha) rfl ⟨p,d,S,c,q,S.rt q,n,.int n,rfl,DA,hc,.inr rfl,fun H1 D1 f1=>?_⟩⟩
    exact fin H1 D1 f1
theorem Ma(T:Txt K w mg t):c7 P w K mg base nP 3 t.dG t.mU ["self","page","right","number"] (arq t.bJ):=by
 refine T.Qd.ok uO (fun vs H Q E h=>?_) (fun cdv A outer s H vs Q E hr h=>?_)
 ·obtain⟨p,d,S,c,n,r,z,rfl,_⟩:=h;rfl
 ·obtain⟨p,d,S,c,n,r,z,rfl,DA,hc,k⟩:=h
  have hu:=kZ hr
  obtain⟨⟨dx,v,h1,_⟩,_⟩:=id DA
  refine⟨_,(ao (bO (cF (pv 0) T.dB T.rm (rA T) (hr.mono (by decide):bQ 1 _) T.vd .nil bU (aa (pv 1) (aa (pv 2) (aa (pv 3) aq)))))
   (ao (bh (i:=4) uO.nd rfl (Or.inl rfl) (cI (pv 0) (by rfl)))
   (ao (cg (PW.pt (wU (rQ (ahq (pv 4))) (wU (aU Ao (aN bz (pv 4) aA (fun _ _=>rfl)) (pv 1) (bj _)) (qe (IW (oG (cF (pv 0) T.dB T.Ew (Fi T) (hr.mono (by decide):bQ 2 _) T.Hw .nil bU (aa (pv 4) aq)))))))) (aC (bw (bN aq))) bC)
   (ao (gh (pv 0) rP (by rfl))
   (aC (bw (bN (aa (cF (pv 0) T.dB T.Bb (Bg T) (hr.mono (by decide):bQ 2 _) T.Ex .nil bU (aa (pv 4) aq)) aq)))))))),?_⟩
  try dsimp only[dw,Cx.kI]
  show let Z1:L2.TS:=_;let Z2:L2.TS:=_;let Z3:L2.TS:=_;let Z4:L2.TS:=dg _ Z3 bK;let Z5:L2.TS:=_;let Z6:L2.TS:=_;let D0:Ends:=_;(aR Z1 (aR Z2 (aR Z4 (aR Z5 (Z6))))) D0 _ _
  intro Z1 Z2 Z3 Z4 Z5 Z6 D0
  refine⟨_,rfl,p,dx,_,rfl,h1,eO _ _ (by decide +kernel) (by decide +kernel),_,rfl,_,rfl,_,rfl,p,d,S,c,n,r,z,.int z,rfl,DA,by lia,.inr rfl,fun H1 D1 f1=>?_⟩
  obtain⟨⟨wQ,v1,g1,gw⟩,⟨aya,g2,g3,g4⟩⟩:=id D1
  have npd:=D1.npd
  refine⟨_,rfl,p,_,wQ,_,_,rfl,g1,T.dB,T.jn,abH _ _,?_⟩
  have gw':rT H1 v1 S.ws:=gw
  have none_:(S.gj n r z).2=[]->(S.gj n r z).1=S.hold n r z->∀l,H1 l=none->Q (.ref l) (upd H1 l (.lst [])):=fun e1 e2 l hl=>by
   refine k _ _ ?_ (f1.trans (DF.new hl)) ?_
   ·rw[e2];exact(D1.new hl).mono (Nat.le_succ _)
   ·rw[e1];exact jT ((f1.kept DA D1).free hl) hl (by simp only[aH])
  cases hws:S.ws with
  | none =>
    rw[hws]at gw'
    have ev:v1=.non:=gw'
    subst ev
    have e:S.gj n r z=(S.hold n r z,[]):=by unfold DS.gj;rw[hws]
    refine⟨_,rfl,_,rfl,?_⟩
    refine bH rfl (mG ?_)
    exact⟨Dw,fun l hl=>none_ (by rw[e]) (by rw[e]) l hl⟩
  | some w =>
    rw[hws]at gw'
    obtain⟨a,ev,ha⟩:=gw'
    subst ev
    refine⟨_,rfl,_,rfl,?_⟩
    refine aP (decide_eq_false fun z=>by cases z) ?_
    refine zt rfl (di.of ha) (W.at1 w) ⟨_,rfl,rfl,_,rfl,?_⟩
    by_cases epg:w.pg=n
    ·refine aP (by rw[epg];simp) ?_
     refine⟨_,rfl,p,wQ,_,rfl,g1,eO _ _ (by decide +kernel) (by decide +kernel),_,rfl,p,d,_,_,a,w,rfl,D1,ha,_,rfl,?_⟩
     by_cases hok:(S.hold n r z).ok w
     ·refine aP (by rw[decide_eq_true hok];rfl) ?_
      refine⟨_,rfl,p,_,wQ,_,rfl,g1,T.dB,T.jn,(by rw[afC];show 2<1000;decide),?_⟩
      rw[afB]
      have D2:cz t.bJ (upd H1 p (.ins t.bJ wQ (BX d .non))) p d ({S.hold n r z with ws:=none}) (c+1):=by
       have ts:b8 H1 (upd H1 p (.ins t.bJ wQ (BX d .non))):=fun b xs e=>by rw[az (jq e g1 (by intro z;cases z))];exact e
       exact⟨⟨wQ,.non,aj,rfl⟩,⟨aya,by rw[az npd.symm];exact g2,g3,fun j=>(g4 j).aX ts⟩⟩
      have f2:DF H1 (upd H1 p (.ins t.bJ wQ (BX d .non))) p d:=fun b o e hp hd=>by rw[az hp];exact e
      have ha2:=(f2.tups D1) a _ ha
      obtain⟨⟨dx2,v2,k1,_⟩,_⟩:=id D2
      refine⟨_,rfl,p,dx2,_,rfl,k1,eO _ _ (by decide +kernel) (by decide +kernel),_,rfl,p,d,_,_,a,w,rfl,D2,by lia,ha2,hok,fun u H3 D3 f3 hu3=>?_⟩
      refine⟨zz1,fun l hl=>?_⟩
      have e:S.gj n r z=(({S.hold n r z with ws:=none}:DS).done w,[.t [.s w.tag,.i w.pg,.i ((S.hold n r z).num w)]]):=by
       unfold DS.gj
       rw[hws]
       dsimp only
       rw[if_pos ⟨epg,hok⟩]
      refine k _ _ ?_ ((f1.trans f2).trans (f3.trans (DF.new hl))) ?_
      ·rw[e];exact D3.new hl
      ·rw[e]
       have k3:=((f1.trans f2).trans f3).kept DA D3
       refine jT (k3.free hl) hl ?_
       simp only[aH,Rep]
       refine⟨_,_,rfl,⟨u,_,rfl,Wr hu3 (k3.tup hu3),_,_,rfl,rfl,_,_,rfl,rfl,_,_,rfl,?_,rfl⟩,rfl⟩
       cases w<;>rfl
     ·refine bH (by rw[decide_eq_false hok];rfl) ?_
      have e:S.gj n r z=(S.hold n r z,[]):=by
       unfold DS.gj
       rw[hws]
       dsimp only
       rw[if_neg fun q=>hok q.2]
      exact⟨Dw,fun l hl=>none_ (by rw[e]) (by rw[e]) l hl⟩
    ·refine bH (by rw[decide_eq_false fun z=>epg (V.int.inj z)];rfl) (mG ?_)
     have e:S.gj n r z=(S.hold n r z,[]):=by
      unfold DS.gj
      rw[hws]
      dsimp only
      rw[if_neg fun q=>epg q.1]
     exact⟨Dw,fun l hl=>none_ (by rw[e]) (by rw[e]) l hl⟩
end
end gH
namespace gH
open PySem L2
section
variable{P:Program}{w:World}{K:PySem.W.Frag}{mg:Str->Option Value}{base:Heap}{t:Jh}
theorem alP(H:Hp)(S:DS)(n:Int):Rep H (S.tell n) (Ws (S.tell n)):=by
 unfold DS.tell
 split<;>simp[Rep,Ws]
theorem TX(T:Txt K w mg t):c7 P w K mg base nP 3 t.eU t.qx ["self","page","right"] (ars t.bJ):=by
 refine T.W3.ok Ax (fun vs H Q E h=>?_) (fun cdv A outer s H vs Q E hr h=>?_)
 ·obtain⟨p,d,S,c,n,r,rfl,_⟩:=h;rfl
 ·obtain⟨p,d,S,c,n,r,rfl,DA,hc,k⟩:=h
  have hu:=kZ hr
  obtain⟨⟨dx,v,h1,_⟩,_⟩:=id DA
  refine⟨_,(ao (bh (i:=3) Ax.nd rfl (Or.inl rfl) (cF (pv 0) T.dB T.m7 (m9 T) (hr.mono (by decide):bQ 2 _) T.nW .nil bU (aa (pv 1) aq)))
   (ao (cg (IW (oG (cC (LR T) (hr.mono (by decide):bQ 1 _) (by rfl) T.Rz T.Es.kp T.Ry .nil bU (aa (pv 2) (aa (cF (pv 0) T.dB T.iW (iY T) (hr.mono (by decide):bQ 1 _) T.jt .nil bU (aa (pv 1) aq)) aq))))) (aC (bO (cF (pv 0) T.dB T.rm (rA T) (hr.mono (by decide):bQ 1 _) T.vd .nil bU (aa (pv 1) (aa (pv 2) (aa (aN bz (bG hu (cI (pv 0) (by rfl)) (pv 1) (fun _ _=>rfl)) aA (fun _ _=>rfl)) aq)))))) bC)
   (aC (bw (cC (Qq T) (hr.mono (by decide):bQ 1 _) (by rfl) T.Tp T.Ba.kp T.Tn .nil bU (aa (pv 1) (aa (pv 3) aq))))))),?_⟩
  try dsimp only[dw,Cx.kI]
  show let Z1:L2.TS:=_;let Z2:L2.TS:=_;let Z3:L2.TS:=dg _ Z2 bK;let Z4:L2.TS:=_;let D0:Ends:=_;(aR Z1 (aR Z3 (Z4))) D0 _ _
  intro Z1 Z2 Z3 Z4 D0
  refine⟨_,rfl,p,dx,_,rfl,h1,eO _ _ (by decide +kernel) (by decide +kernel),_,rfl,p,d,S,c,n,rfl,DA,?_⟩
  refine⟨_,rfl,_,rfl,p,dx,_,rfl,h1,eO _ _ (by decide +kernel) (by decide +kernel),_,rfl,p,d,S,c,n,rfl,DA,r,S.rt n,rfl,_,rfl,?_⟩
  have fin:∀H1:Hp,cz t.bJ H1 p d (S.down n r) (c+1)->DF H H1 p d->∀a,H1 a=none->Q (.ref a) (upd H1 a (.tup [.str "answer",.int n,S.tell n])):=fun H1 D1 f1 a ha=>by
   refine k _ _ ((D1.new ha).mono (Nat.le_succ _)) (f1.trans (DF.new ha)) (anI ha ?_)
   simp only[aH]
   exact⟨_,_,rfl,by simp only[Rep],_,_,rfl,by simp only[Rep],_,_,rfl,alP _ _ _,rfl⟩
  by_cases e:(S.rt n).k<=r.k
  ·refine aP (by rw[decide_eq_true e];rfl) ?_
   exact⟨_,rfl,_,rfl,_,_,rfl,fin H (by unfold DS.down;rw[if_pos e];exact DA.mono (Nat.le_succ _)) (DF.refl _ _ _)⟩
  ·refine bH (by rw[decide_eq_false e];rfl) ?_
   have hno:S.rt n≠.no:=fun z=>by rw[z]at e;cases r<;>simp[Rt.k]at e
   obtain⟨kvs,tt,h2,e1,e2⟩:=DA.copy hno
   refine⟨_,rfl,p,dx,_,rfl,h1,eO _ _ (by decide +kernel) (by decide +kernel),_,rfl,_,rfl,_,rfl,p,_,dx,_,_,rfl,h1,T.dB,T.dR,jR _ _,_,rfl,d,.ref tt,rfl,(by rw[<-e1];exact Hg.k (k:=Sum.inl n) h2),tt,_,1,_,rfl,rfl,di.of e2,rfl,p,d,S,c,n,r,S.nm n,.int (S.nm n),rfl,DA,by lia,.inr rfl,fun H1 D1 f1=>?_⟩
   exact⟨_,rfl,_,rfl,_,_,rfl,fin H1 (by unfold DS.down;rw[if_neg e];exact D1) f1⟩
theorem acX(T:Txt K w mg t):c7 P w K mg base nP 4 t.ik t.zu ["self","letter"] (art t.bJ):=by
 refine T.afW.ok acz (fun vs H Q E h=>?_) (fun cdv A outer s H vs Q E hr h=>?_)
 ·obtain⟨p,d,S,c,a,l,rfl,_⟩:=h;rfl
 ·obtain⟨p,d,S,c,a,l,rfl,DA,hc,ha,k⟩:=h
  have hu:=kZ hr
  obtain⟨⟨dx,v,h1,_⟩,_⟩:=id DA
  refine⟨_,(ao (cg (aU cQ (aN bz (pv 1) aA (fun _ _=>rfl)) aD (bj _)) (aC (bw (bZ (aa (cF (pv 0) T.dB T.Lh (Ma T) (hr.mono (by decide):bQ 3 _) T.Qe .nil bU (aa (aN bz (pv 1) aA (fun _ _=>rfl)) (aa (aN bz (pv 1) aA (fun _ _=>rfl)) (aa (aN bz (pv 1) aA (fun _ _=>rfl)) aq)))) (aa (bN aq) aq))))) bC)
   (aC (bw (bZ (aa (bN aq) (aa (bN (aa (cF (pv 0) T.dB T.Tr (TX T) (hr.mono (by decide):bQ 3 _) T.W4 .nil bU (aa (aN bz (pv 1) aA (fun _ _=>rfl)) (aa (aN bz (pv 1) aA (fun _ _=>rfl)) aq))) aq)) aq)))))),?_⟩
  try dsimp only[dw,Cx.kI]
  show let Z1:L2.TS:=_;let Z2:L2.TS:=dg _ Z1 bK;let Z3:L2.TS:=_;let D0:Ends:=_;(aR Z2 (Z3)) D0 _ _
  intro Z1 Z2 Z3 D0
  cases l with
  | lend n r z =>
    refine zt rfl (di.of ha) rfl ⟨rfl,_,rfl,?_⟩
    refine bH fD ?_
    refine⟨_,rfl,p,dx,_,rfl,h1,eO _ _ (by decide +kernel) (by decide +kernel),zt rfl (di.of ha) rfl (zt rfl (di.of ha) rfl (zt rfl (di.of ha) rfl ⟨p,d,S,c,n,r,z,rfl,DA,hc,fun v H1 D1 f1 r1=>?_⟩))⟩
    refine⟨Dw,fun l hl=>⟨uA,fun u hu=>?_⟩⟩
    refine k _ _ ((D1.new hl).new hu) (f1.trans ((DF.new hl).trans (DF.new hu))) ?_
    have k1:=f1.kept DA D1
    refine wZ ((k1.new hl).free hu) hu ?_
    simp only[aH]
    exact⟨_,_,rfl,r1.mono (uH (uG hl)),_,_,rfl,jT (k1.free hl) hl (by simp only[aH]),rfl⟩
  | back n r =>
    refine zt rfl (di.of ha) rfl ⟨rfl,_,rfl,?_⟩
    refine aP (dh (by decide +kernel)) ?_
    refine⟨Dw,fun l hl=>?_⟩
    have D0:=DA.new (o:=.lst []) hl
    obtain⟨⟨dx0,v0,h10,_⟩,_⟩:=id D0
    have ha0:upd H l (.lst []) a=some (.tup (Let.vs (.back n r))):=acr hl a _ ha
    refine⟨_,rfl,p,dx0,_,rfl,h10,eO _ _ (by decide +kernel) (by decide +kernel),zt rfl (di.of ha0) rfl (zt rfl (di.of ha0) rfl ⟨p,d,S,c,n,r,rfl,D0,hc,fun v H1 D1 f1 r1=>?_⟩)⟩
    refine⟨zz1,fun l2 hl2=>⟨uA,fun u hu=>?_⟩⟩
    refine k _ _ ((D1.new hl2).new hu) ((DF.new hl).trans (f1.trans ((DF.new hl2).trans (DF.new hu)))) ?_
    have k0:Kept H (upd H l (.lst [])):=(Kept.refl H).new hl
    have k1:Kept H H1:=((DF.new hl).trans f1).kept DA D1
    refine wZ ((k1.new hl2).free hu) hu ?_
    simp only[aH]
    have rl:Rep (nw H (upd H l (.lst []))) (.ref l) (.l []):=jT hl hl (by simp only[aH])
    refine⟨_,_,rfl,(rl.mono (uH (f1.seqs D0))).mono (uH (uG hl2)),_,_,rfl,jT (k1.free hl2) hl2 ?_,rfl⟩
    simp only[aH]
    refine⟨_,_,rfl,?_,rfl⟩
    simp only[Rep,aH]at r1 ⊢
    obtain⟨b,xs,e1,e2,e3⟩:=r1
    refine⟨b,xs,e1,Wr e2 (k1.tup e2),?_⟩
    obtain⟨v1,q1,e4,e5,v2,q2,e6,e7,v3,q3,e8,e9,e10⟩:=e3
    refine⟨v1,q1,e4,e5,v2,q2,e6,e7,v3,q3,e8,?_,e10⟩
    unfold DS.tell at e9 ⊢
    split
    ·rename_i z;rw[if_pos z]at e9;simpa only[Ws,Rep] using e9
    ·rename_i z;rw[if_neg z]at e9;simpa only[Ws,Rep] using e9
theorem HB(T:Txt K w mg t):c7 P w K mg base nP 1 t.gk t.v7 ["self"] (anK t.bJ):=by
 refine T.acK.ok ZP (fun vs H Q E h=>?_) (fun cdv A outer s H vs Q E hr h=>?_)
 ·obtain⟨p,d,S,c,rfl,_⟩:=h;rfl
 ·obtain⟨p,d,S,c,rfl,DA,k⟩:=h
  have hu:=kZ hr
  obtain⟨⟨dx,v,h1,hw⟩,_⟩:=id DA
  refine⟨_,(aC (bw (akX (qT (cI (pv 0) (by rfl)))))),?_⟩
  try dsimp only[dw,Cx.kI]
  refine⟨_,rfl,p,_,dx,_,_,rfl,h1,T.dB,T.jn,abH _ _,?_⟩
  have e:(!decide (v=V.non))=S.ws.isSome:=by
   cases hws:S.ws with
   | none=>rw[hws]at hw;have e:v=.non:=hw;rw[e];rfl
   | some w'=>rw[hws]at hw;obtain⟨a,e,_⟩:=hw;rw[e];rfl
  rw[<-e]at k
  exact k
theorem Mf(T:Txt K w mg t):c7 P w K mg base (CX1 P w) 3 t.ig t.zr ["self","wish"] (anU t.bJ t.aM):=by
 refine T.afV.okX acy (fun vs H Q E h=>?_) (fun cdv A outer s H vs Q E hr h=>?_)
 ·obtain⟨p,d,S,c,a,w,rfl,_⟩:=h;rfl
 ·obtain⟨p,d,S,c,a,w,rfl,DA,hc,ha,k⟩:=h
  have hu:=kZ hr
  obtain⟨⟨dx,v,h1,hw⟩,⟨kvs,h2,h3,h4⟩⟩:=id DA
  have npd:=DA.npd
  refine⟨_,(ao (cg (oG (pG (pv 0) T.dB T.Hv (HB T) (hr.mono (by decide):bQ 1 _) T.Lf .nil bU)) (aC (DK T.xx (by rfl) T.abM rfl KN (aa aD aq))) bC)
   (ao (cg (oG (cF (pv 0) T.dB T.Ew (Fi T) (hr.mono (by decide):bQ 2 _) T.Hw .nil bU (aa (pv 1) aq))) (aC (bw (bZ (aa (bN (aa (cF (pv 0) T.dB T.Bb (Bg T) (hr.mono (by decide):bQ 2 _) T.Ex .nil bU (aa (pv 1) aq)) aq)) (aa (bN aq) aq))))) bC)
   (ao (gh (pv 0) (pv 1) (by rfl))
   (aC (bw (bZ (aa (bN aq) (aa (bN (aa (cC (aab T) (hr.mono (by decide):bQ 1 _) (by rfl) T.acJ T.Le.kp T.acI .nil bU (aa (aN bz (pv 1) aA (fun _ _=>rfl)) (aa (cC (Bf T) (hr.mono (by decide):bQ 1 _) (by rfl) T.Eu T.tX.kp T.Et .nil bU (aa (pv 1) aq)) aq))) aq)) aq)))))))),?_⟩
  try dsimp only[dw,Cx.kI]
  show let Z1:L2.TS:=_;let Z2:L2.TS:=dg _ Z1 bK;let Z3:L2.TS:=_;let Z4:L2.TS:=dg _ Z3 bK;let Z5:L2.TS:=_;let Z6:L2.TS:=_;let D0:Ends:=_;(aR Z2 (aR Z4 (aR Z5 (Z6)))) D0 _ _
  intro Z1 Z2 Z3 Z4 Z5 Z6 D0
  refine⟨_,rfl,p,dx,_,rfl,h1,eO _ _ (by decide +kernel) (by decide +kernel),p,d,S,c,rfl,DA,_,rfl,?_⟩
  cases hws:S.ws with
  | some w' =>
    rw[hws]at hw k
    obtain⟨a',ev,_⟩:=hw
    subst ev
    refine mG ?_
    exact⟨zz1,k⟩
  | none =>
    rw[hws]at hw k
    have ev:v=.non:=hw
    subst ev
    refine uB ?_
    refine⟨_,rfl,p,dx,_,rfl,h1,eO _ _ (by decide +kernel) (by decide +kernel),_,rfl,p,d,S,c,a,w,rfl,DA,ha,_,rfl,?_⟩
    by_cases hok:S.ok w
    ·refine bH (decide_eq_true hok) ?_
     refine⟨_,rfl,p,dx,_,rfl,h1,eO _ _ (by decide +kernel) (by decide +kernel),_,rfl,p,d,S,c,a,w,rfl,DA,by lia,ha,hok,fun u H1 D1 f1 hu1=>?_⟩
     refine⟨zz1,fun l hl=>⟨Dw,fun l2 hl2=>⟨uA,fun z hz=>?_⟩⟩⟩
     refine k _ _ ?_ (f1.trans ((DF.new hl).trans ((DF.new hl2).trans (DF.new hz)))) ?_
     ·unfold DS.want;rw[if_pos hok];exact(((D1.new hl).new hl2).new hz).mono (Nat.le_succ _)
     ·unfold DS.want
      rw[if_pos hok]
      have k1:=f1.kept DA D1
      refine wZ (((k1.new hl).new hl2).free hz) hz ?_
      simp only[aH]
      refine⟨_,_,rfl,(jT (k1.free hl) hl ?_).mono (uH (uG hl2)),_,_,rfl,jT ((k1.new hl).free hl2) hl2 (by simp only[aH]),rfl⟩
      simp only[aH,Rep]
      exact⟨_,_,rfl,⟨u,_,rfl,Wr hu1 (k1.tup hu1),_,_,rfl,rfl,_,_,rfl,rfl,_,_,rfl,rfl,rfl⟩,rfl⟩
    ·refine aP (decide_eq_false hok) ?_
     refine⟨_,rfl,_,rfl,p,_,dx,_,rfl,h1,T.dB,T.jn,(by rw[afC];show 2<1000;decide),?_⟩
     rw[afB]
     have ts:b8 H (upd H p (.ins t.bJ dx (BX d (.ref a)))):=fun b xs e=>by rw[az (jq e h1 (by intro z;cases z))];exact e
     have ha1:=ts a _ ha
     have D1:cz t.bJ (upd H p (.ins t.bJ dx (BX d (.ref a)))) p d {S with ws:=some w} c :=
      ⟨⟨dx,.ref a,aj,a,rfl,ha1⟩,⟨kvs,by rw[az npd.symm];exact h2,h3,fun j=>(h4 j).aX ts⟩⟩
     have f1:DF H (upd H p (.ins t.bJ dx (BX d (.ref a)))) p d:=fun b o e hp hd=>by rw[az hp];exact e
     refine⟨Dw,fun l hl=>?_⟩
     have ha2:upd (upd H p (.ins t.bJ dx (BX d (.ref a)))) l (.lst []) a=some (.tup w.vs):=acr hl a _ ha1
     refine zt rfl (di.of ha2) (W.at1 w) ⟨_,rfl,a,w,rfl,ha2,_,_,rfl,fun z hz=>?_⟩
     refine⟨zz1,fun l2 hl2=>⟨uA,fun y hy=>?_⟩⟩
     refine k _ _ ?_ (f1.trans ((DF.new hl).trans ((DF.new hz).trans ((DF.new hl2).trans (DF.new hy))))) ?_
     ·unfold DS.want;rw[if_neg hok];exact((((D1.new hl).new hz).new hl2).new hy).mono (by lia)
     ·unfold DS.want
      rw[if_neg hok]
      have k1:=f1.kept DA D1
      refine wZ ((((k1.new hl).new hz).new hl2).free hy) hy ?_
      simp only[aH]
      refine⟨_,_,rfl,((jT (k1.free hl) hl (by simp only[aH])).mono (uH (uG hz))).mono (uH (uG hl2)),_,_,rfl,jT (((k1.new hl).new hz).free hl2) hl2 ?_,rfl⟩
      simp only[aH]
      refine⟨_,_,rfl,wZ ((k1.new hl).free hz) hz ?_,rfl⟩
      simp only[aH,Rep]
      exact⟨_,_,rfl,rfl,_,_,rfl,rfl,_,_,rfl,rfl,rfl⟩
theorem acY(T:Txt K w mg t):c7 P w K mg base (CX1 P w) 3 t.il t.zx ["self","page"] (anV t.bJ t.aV):=by
 refine T.afY.okX K9 (fun vs H Q E h=>?_) (fun cdv A outer s H vs Q E hr h=>?_)
 ·obtain⟨p,d,S,c,n,rfl,_⟩:=h;rfl
 ·obtain⟨p,d,S,c,n,rfl,DA,hc,k⟩:=h
  have hu:=kZ hr
  obtain⟨⟨dx,v,h1,_⟩,_⟩:=id DA
  refine⟨_,(ao (cg (aU cQ (cF (pv 0) T.dB T.iW (iY T) (hr.mono (by decide):bQ 1 _) T.jt .nil bU (aa (pv 1) aq)) (gZ (by rfl) T.Qo) (bj _)) (aC (DK T.xF (by rfl) T.afR rfl KN (aa aD aq))) bC)
   (ao (bh (i:=2) K9.nd rfl (Or.inl rfl) (cF (pv 0) T.dB T.m7 (m9 T) (hr.mono (by decide):bQ 2 _) T.nW .nil bU (aa (pv 1) aq)))
   (ao (bO (cF (pv 0) T.dB T.rm (rA T) (hr.mono (by decide):bQ 1 _) T.vd .nil bU (aa (pv 1) (aa (gZ (by rfl) T.Qo) (aa rP aq)))))
   (aC (bw (pF (rQ (ahq (pv 2))) (bN aq) (bN (aa (cC (Xk T) (hr.mono (by decide):bQ 1 _) (by rfl) T.ZR T.Hq.kp T.ZQ .nil bU (aa (pv 1) (aa (pv 2) aq))) aq)))))))),?_⟩
  try dsimp only[dw,Cx.kI]
  show let Z1:L2.TS:=_;let Z2:L2.TS:=dg _ Z1 bK;let Z3:L2.TS:=_;let Z4:L2.TS:=_;let Z5:L2.TS:=_;let D0:Ends:=_;(aR Z2 (aR Z3 (aR Z4 (Z5)))) D0 _ _
  intro Z1 Z2 Z3 Z4 Z5 D0
  refine⟨_,rfl,p,dx,_,rfl,h1,eO _ _ (by decide +kernel) (by decide +kernel),_,rfl,p,d,S,c,n,rfl,DA,rfl,_,rfl,?_⟩
  by_cases e:S.rt n=.no
  ·rw[if_pos e]at k
   rw[e]
   refine mG ?_
   exact⟨zz1,k⟩
  ·rw[if_neg e]at k
   refine aP (nQ (x:="none") (q:=.no) rfl e) ?_
   refine⟨_,rfl,p,dx,_,rfl,h1,eO _ _ (by decide +kernel) (by decide +kernel),_,rfl,p,d,S,c,n,rfl,DA,?_⟩
   refine⟨_,rfl,p,dx,_,rfl,h1,eO _ _ (by decide +kernel) (by decide +kernel),_,rfl,p,d,S,c,n,.no,S.nm n,.non,rfl,DA,by lia,.inl rfl,fun H1 D1 f1=>?_⟩
   refine⟨_,rfl,_,rfl,?_⟩
   by_cases ew:S.rt n=.wr
   ·have et:S.tell n=.int (S.nm n):=by unfold DS.tell;rw[if_pos ew]
    rw[et]
    refine uB ?_
    refine⟨_,rfl,_,rfl,_,_,rfl,fun z hz=>⟨zz1,fun l hl=>?_⟩⟩
    refine k _ _ (((D1.new hz).new hl).mono (Nat.le_succ _)) (f1.trans ((DF.new hz).trans (DF.new hl))) ?_
    unfold DS.rest
    rw[if_pos ew]
    have k1:=f1.kept DA D1
    refine jT ((k1.new hz).free hl) hl ?_
    simp only[aH]
    refine⟨_,_,rfl,wZ (k1.free hz) hz ?_,rfl⟩
    simp only[aH,Rep]
    exact⟨_,_,rfl,rfl,_,_,rfl,rfl,_,_,rfl,rfl,rfl⟩
   ·have et:S.tell n=.non:=by unfold DS.tell;rw[if_neg ew]
    rw[et]
    refine mG ?_
    refine⟨Dw,fun l hl=>?_⟩
    refine k _ _ ((D1.new hl).mono (Nat.le_succ _)) (f1.trans (DF.new hl)) ?_
    unfold DS.rest
    rw[if_neg ew]
    exact jT ((f1.kept DA D1).free hl) hl (by simp only[aH])
end
end gH
namespace gH
open PySem L2
section
variable{P:Program}{w:World}{K:PySem.W.Frag}{mg:Str->Option Value}{base:Heap}{t:Jh}
theorem Fj(T:Txt K w mg t):c7 P w K mg base nP 1 t.gB t.sY ["page","right"] (afD "back"):=by
 refine T.wu.ok WQ (fun vs H Q E h=>?_) (fun cdv A outer s H vs Q E hr h=>?_)
 ·obtain⟨x,y,rfl,_⟩:=h;rfl
 ·obtain⟨x,y,rfl,k⟩:=h
  refine⟨_,(aC (bw (bZ (aa aD (aa (pv 0) (aa (pv 1) aq)))))),?_⟩
  try dsimp only[dw,Cx.kI]
  exact⟨_,rfl,_,rfl,Zy,fun a ha=>k a ha⟩
theorem Xl(T:Txt K w mg t):c7 P w K mg base nP 1 t.gA t.sX ["page","right","number"] aja:=by
 refine T.Hr.ok WN (fun vs H Q E h=>?_) (fun cdv A outer s H vs Q E hr h=>?_)
 ·obtain⟨x,y,z,rfl,_⟩:=h;rfl
 ·obtain⟨x,y,z,rfl,k⟩:=h
  refine⟨_,(aC (bw (bZ (aa aD (aa (pv 0) (aa (pv 1) (aa (pv 2) aq))))))),?_⟩
  try dsimp only[dw,Cx.kI]
  exact⟨_,rfl,_,rfl,_,rfl,zz4,fun a ha=>k a ha⟩
theorem Mg(T:Txt K w mg t):c7 P w K mg base nP 1 t.dH t.mV ["self","page","number"] (alB t.aF):=by
 refine T.Qf.ok La (fun vs H Q E h=>?_) (fun cdv A outer s H vs Q E hr h=>?_)
 ·obtain⟨x,y,p,n,rfl,_⟩:=h;rfl
 ·obtain⟨a,dx,p,n,rfl,hp,k⟩:=h
  refine⟨_,(ao (gh (pv 0) (pv 1) (by rfl))
   (ao (gh (pv 0) (pv 2) (by rfl))
   (ao (gh (pv 0) rP (by rfl))
   (ao (gh (pv 0) (bN aq) (by rfl))
   (ao (gh (pv 0) (bN aq) (by rfl))
   (aC (gh (pv 0) aA (by rfl)))))))),?_⟩
  try dsimp only[dw,Cx.kI]
  show let Z1:L2.TS:=_;let Z2:L2.TS:=_;let Z3:L2.TS:=_;let Z4:L2.TS:=_;let Z5:L2.TS:=_;let Z6:L2.TS:=_;let D0:Ends:=_;(aR Z1 (aR Z2 (aR Z3 (aR Z4 (aR Z5 (Z6)))))) D0 _ _
  intro Z1 Z2 Z3 Z4 Z5 Z6 D0
  refine⟨_,rfl,_,rfl,a,t.aF,dx,[],rfl,hp,T.aQ,T.fX,(by show 0<1000;decide),?_⟩
  refine⟨_,rfl,_,rfl,a,t.aF,dx,_,rfl,aj,T.aQ,T.fc,(by show 1<1000;decide),?_⟩
  refine⟨_,rfl,a,t.aF,dx,_,rfl,aj,T.aQ,T.cj,(by show 2<1000;decide),?_⟩
  rw[aiK,aiK]
  refine⟨Dw,fun r hr1=>?_⟩
  have nra:a≠r:=fun z=>by rw[z,aj]at hr1;cases hr1
  have hr0:H r=none:=by rw[<-hr1,az nra.symm]
  refine⟨_,rfl,a,t.aF,dx,_,rfl,(by rw[az nra];exact aj),T.aQ,T.cW,(by show 3<1000;decide),?_⟩
  refine⟨Dw,fun q hq1=>?_⟩
  have nqa:a≠q:=fun z=>by rw[z,aj]at hq1;cases hq1
  have nqr:r≠q:=fun z=>by rw[z,az nqa.symm,aj]at hq1;cases hq1
  have hq0:H q=none:=by rw[<-hq1,az nqa.symm,az nqr.symm,az nqa.symm]
  refine⟨_,rfl,a,t.aF,dx,_,rfl,(by rw[az nqa];exact aj),T.aQ,T.cZ,(by show 4<1000;decide),?_⟩
  refine⟨_,rfl,a,t.aF,dx,_,rfl,aj,T.aQ,T.d9,(by show 5<1000;decide),?_⟩
  rw[alz]
  refine k r q _ hr0 hq0 ⟨⟨dx,aj⟩,?_,⟨[],?_,by simp[aH]⟩,nqr⟩ (fun b o e hb=>?_) ?_
  ·rw[az nra.symm,az nra.symm,az nqr,az nra.symm,aj];rfl
  ·rw[az nqa.symm,az nqa.symm,aj]
  ·rw[az hb,az hb,az (aG e hq0),az hb,az (aG e hr0),az hb];exact e
  ·exact Lv.upd.trans (Lv.upd.trans (Lv.upd.trans (Lv.upd.trans (Lv.upd.trans Lv.upd))))
theorem zM(T:Txt K w mg t):c7 P w K mg base nP 1 t.cM t.jm ["self","desk"] (arE t.aF):=by
 refine T.Cm.ok zg (fun vs H Q E h=>?_) (fun cdv A outer s H vs Q E hr h=>?_)
 ·obtain⟨a,r,q,p,g,d,rfl,_⟩:=h;rfl
 ·obtain⟨a,r,q,p,g,d,rfl,PA,k⟩:=h
  have nar:=PA.nar
  have naq:=PA.naq
  obtain⟨⟨dx,h1⟩,h2,⟨vs,h3,h4⟩,h5⟩:=id PA
  refine⟨_,(ao (gh (pv 0) (pv 1) (by rfl))
   (aC (gh (pv 0) (bN aq) (by rfl)))),?_⟩
  try dsimp only[dw,Cx.kI]
  show let Z1:L2.TS:=_;let Z2:L2.TS:=_;let D0:Ends:=_;(aR Z1 (Z2)) D0 _ _
  intro Z1 Z2 D0
  refine⟨_,rfl,_,rfl,a,_,dx,_,rfl,h1,T.aQ,T.cj,uJ,?_⟩
  rw[anO]
  refine⟨Dw,fun r' hr1=>?_⟩
  have nra:a≠r':=fun z=>by rw[z,aj]at hr1;cases hr1
  have hr0:H r'=none:=by rw[<-hr1,az nra.symm]
  refine⟨_,rfl,a,_,dx,_,rfl,(by rw[az nra];exact aj),T.aQ,T.cW,uJ,?_⟩
  rw[arv (l:=[])]
  have nqr:q≠r':=aG h3 hr0
  refine k r' _ hr0 ⟨⟨dx,aj⟩,?_,⟨vs,?_,?_⟩,nqr.symm⟩ ⟨fun b o e ha hb hq=>?_,Lv.upd.trans (Lv.upd.trans Lv.upd)⟩
  ·rw[az nra.symm,aj];rfl
  ·rw[az naq.symm,az nqr,az naq.symm];exact h3
  ·refine h4.aX (fun b xs e=>?_) (kj _)
   have hb:b≠a:=jq e h1 (by intro z;cases z)
   rw[az hb,az (aG e hr0),az hb];exact e
  ·rw[az ha,az (aG e hr0),az ha];exact e
theorem ajo(d:Nat)(l:List Nat):inV (.int d) (l.map nV)=decide (d∈l):=by
 unfold inV
 induction l with
 | nil=>rfl
 | cons x l ih =>
   rw[List.map_cons,List.any_cons,ih]
   show((x:Int) == (d:Int) || _)=_
   by_cases e:d=x
   ·subst e;simp
   ·have:((x:Int) == (d:Int))=false:=by simp;lia
    rw[this];simp[e]
theorem age(l:List Nat):(l.map nV).all Hk=true:=by simp[Hk,nV]
theorem Cu(T:Txt K w mg t):c7 P w K mg base nP 1 t.cO t.jD ["self","desk"] (arD t.aF):=by
 refine T.EY.ok Cd (fun vs H Q E h=>?_) (fun cdv A outer s H vs Q E hr h=>?_)
 ·obtain⟨a,r,q,p,g,d,rfl,_⟩:=h;rfl
 ·obtain⟨a,r,q,p,g,d,rfl,PA,hl,k⟩:=h
  have sl:sizeLine=16777216:=by decide
  refine⟨_,(ao (cg (rQ (qT (cI (pv 0) (by rfl)))) (ao (bO (fj PySem.F.plainAttrs_list PySem.F.slot_list_append PySem.F.type_list_append cH (cI (pv 0) (by rfl)) (aa (cI (pv 0) (by rfl)) aq)))
   (aC (gh (pv 0) rP (by rfl)))) bC)
   (aC (cg (aU KC (pv 1) (cI (pv 0) (by rfl)) (by rfl)) (aC (bO (fj PySem.F.plainAttrs_list PySem.F.slot_list_append PySem.F.type_list_append cH (cI (pv 0) (by rfl)) (aa (pv 1) aq)))) bC))),?_⟩
  try dsimp only[dw,Cx.kI]
  show let Z1:L2.TS:=_;let Z2:L2.TS:=_;let Z3:L2.TS:=aR Z1 (Z2);let Z4:L2.TS:=dg _ Z3 bK;let Z5:L2.TS:=_;let Z6:L2.TS:=dg _ Z5 bK;let D0:Ends:=_;(aR Z4 (Z6)) D0 _ _
  intro Z1 Z2 Z3 Z4 Z5 Z6 D0
  have fin:∀H1,fZ t.aF H1 a r q p {g with wr:=none,rd:=g.rd++g.wr.toList}->PF H H1 a r q->
   (dg (afh (Wa (rIn K true) (jf 1) (ace K (jf 0) "readers"))) (aiM (tBM K "list" KD (ace K (jf 0) "readers") (lX (jf 1) Hf))) bK) {nx:=fun _ H'=>Q .non H',rt:=Q} [some (.ref a),some (.int d)] H1:=fun H1 P1 f1=>by
   obtain⟨⟨dx,h1⟩,h2,_,_⟩:=id P1
   refine⟨_,rfl,_,rfl,a,_,dx,_,_,rfl,h1,T.aQ,T.cW,uI,r,_,rfl,.inl (cu.of h2),rfl,age _,_,rfl,?_⟩
   have e0:(if true=true then !inV (.int d) ((g.rd++g.wr.toList).map nV)else inV (.int d) ((g.rd++g.wr.toList).map nV)) = !decide (d∈g.rd++g.wr.toList):=by rw[if_pos rfl,ajo]
   rw[e0]
   by_cases e:d∈g.rd++g.wr.toList
   ·refine aP (by rw[decide_eq_true e];rfl) ?_
    refine k H1 ?_ f1
    unfold ji
    rw[if_pos e]
    exact P1
   ·refine bH (by rw[decide_eq_false e];rfl) ?_
    refine⟨_,rfl,a,_,dx,_,_,rfl,h1,T.aQ,T.cW,uI,.inl ⟨rfl,_,cu.of h2⟩,_,rfl,r,_,_,rfl,rfl,h2,?_,?_⟩
    ·have hw:g.wr.toList.length<=1:=by cases g.wr<;>simp
     rw[List.length_map,List.length_append];lia
    ·refine k _ ?_ (f1.trans PF.wrR)
     have:=P1.wrR (l:=g.rd++g.wr.toList++[d])
     unfold ji
     rw[if_neg e]
     rw[List.map_append (l₂:=[d])]at this
     exact this
  obtain⟨⟨dx,h1⟩,h2,⟨vs,h3,h4⟩,h5⟩:=id PA
  refine⟨_,rfl,a,_,dx,_,_,rfl,h1,T.aQ,T.cj,rY,_,rfl,?_⟩
  cases hw:g.wr with
  | none =>
    refine aP rfl ?_
    refine fin H ?_ (PF.refl _ _ _ _)
    have e:({g with wr:=none,rd:=g.rd++g.wr.toList}:PG)=g:=by rw[hw];cases g;simp_all
    rw[e];exact PA
  | some x =>
    refine bH rfl ?_
    have l1:(Av p g r q).lookup ("writer":Str)=some (.int x):=by rw[rY,hw];rfl
    refine⟨_,rfl,a,_,dx,_,_,rfl,h1,T.aQ,T.cW,uI,.inl ⟨rfl,_,cu.of h2⟩,_,rfl,a,_,dx,_,_,rfl,h1,T.aQ,T.cj,l1,r,_,_,rfl,rfl,h2,(by rw[List.length_map];lia),?_⟩
    have P1:=PA.wrR (l:=g.rd++[x])
    rw[List.map_append]at P1
    obtain⟨⟨wQ,g1⟩,_⟩:=id P1
    refine⟨_,rfl,a,_,wQ,_,rfl,g1,T.aQ,T.cj,uJ,?_⟩
    rw[ai8]
    refine fin _ ?_ (PF.trans PF.wrR PF.wr)
    rw[hw]
    exact P1.wr rfl rfl
theorem vh(T:Txt K w mg t):c7 P w K mg base nP 2 t.dI t.mW ["self"] (anP t.aF):=by
 refine T.Qh.ok uP (fun vs H Q E h=>?_) (fun cdv A outer s H vs Q E hr h=>?_)
 ·obtain⟨a,r,q,p,g,d,x,l,rfl,_⟩:=h;rfl
 ·obtain⟨a,r,q,p,g,d,x,l,rfl,PA,ha,hx,hl,k⟩:=h
  refine⟨_,(ao (bh (i:=1) uP.nd rfl (Or.inl rfl) (fj PySem.F.plainAttrs_list PySem.F.slot_list_pop PySem.F.type_list_pop DG (cI (pv 0) (by rfl)) (aa aA aq)))
   (ao (cg (aU cQ (aN bz (pv 1) aA (fun _ _=>rfl)) (gZ (by rfl) T.V3) (bj _)) (aC (bO (cF (pv 0) T.aQ T.zK (zM T) (hr.mono (by decide):bQ 1 _) T.Cp .nil bU (aa (aN bz (pv 1) aA (fun _ _=>rfl)) aq)))) (aC (bO (cF (pv 0) T.aQ T.Cq (Cu T) (hr.mono (by decide):bQ 1 _) T.Fb .nil bU (aa (aN bz (pv 1) aA (fun _ _=>rfl)) aq)))))
   (aC (bw (bZ (aa (aN bz (pv 1) aA (fun _ _=>rfl)) (aa (cC (Xl T) (hr.mono (by decide):bQ 1 _) (by rfl) T.ZV T.Hr.kp T.ZS .nil bU (aa (cI (pv 0) (by rfl)) (aa (aN bz (pv 1) aA (fun _ _=>rfl)) (aa (cI (pv 0) (by rfl)) aq)))) aq))))))),?_⟩
  try dsimp only[dw,Cx.kI]
  show let Z1:L2.TS:=_;let Z2:L2.TS:=_;let Z3:L2.TS:=_;let Z4:L2.TS:=dg _ Z2 Z3;let Z5:L2.TS:=_;let D0:Ends:=_;(aR Z1 (aR Z4 (Z5))) D0 _ _
  intro Z1 Z2 Z3 Z4 Z5 D0
  obtain⟨⟨dx,h1⟩,h2,⟨vs,h3,h4⟩,h5⟩:=id PA
  rw[ha]at h4
  obtain⟨tt,us,rfl,h6,h7⟩:=GZ h4
  refine⟨_,rfl,a,_,dx,_,_,rfl,h1,T.aQ,T.cZ,rM,.inl ⟨rfl,_,cu.of h3⟩,q,_,0,0,_,rfl,rfl,h3,(by decide),(by decide),aly _ _,rfl,?_⟩
  have P1:=PA.wrQ (l:=l) (vs:=us) h7
  have t1:(upd H q (.lst us)) tt=some (.tup [.int d,.str x.s]):=by rw[az (jq h6 h3 (by intro z;cases z))];exact h6
  have fin:∀r' H1,(r'=r\/H r'=none)->fZ t.aF H1 a r' q p g.lent->PF H H1 a r q->g.lent.num=g.num->
   (aqI (ak2 (lX (Wa (ahE K) (jf 1) (tC (.int 0))) (lX (ak3 aja [] E0 (lX (ace K (jf 0) "page") (lX (Wa (ahE K) (jf 1) (tC (.int 1))) (lX (ace K (jf 0) "number") Hf)))) Hf)))) {nx:=fun _ H'=>Q .non H',rt:=Q} [some (.ref a),some (.ref tt)] H1:=fun r' H1 hr' P2 f2 en=>by
   have t2:=(f2.tups PA) tt _ h6
   obtain⟨⟨dx2,g1⟩,_⟩:=id P2
   refine zt rfl (di.of t2) rfl ⟨_,rfl,a,_,dx2,_,_,rfl,g1,T.aQ,T.fX,Wu,zt rfl (di.of t2) rfl ⟨_,rfl,a,_,dx2,_,_,rfl,g1,T.aQ,T.fc,ahS,_,_,_,rfl,fun b hb=>?_⟩⟩
   refine⟨uA,fun c hc=>?_⟩
   refine k _ r' _ hr' ((P2.new hb).new hc) (f2.trans' ((PF.new hb).trans (PF.new hc)) hr') ?_
   simp only[pairD,Let.d,Rep,aH]
   refine⟨c,_,rfl,aj,_,_,rfl,rfl,_,_,rfl,⟨b,[.str "lend",.int p,.str x.s,.int g.lent.num],rfl,?_,_,_,rfl,rfl,_,_,rfl,rfl,_,_,rfl,rfl,_,_,rfl,?_,rfl⟩,rfl⟩
   ·rw[az,aj];intro z;rw[z,aj]at hc;cases hc
   ·rw[en]
  have xZ:g.lent=if x=.wr then jr {g with ask:=l} d else ji {g with ask:=l} d:=by unfold PG.lent;rw[ha]
  obtain⟨⟨wQ,g1⟩,_⟩:=id P1
  refine zt rfl (di.of t1) rfl ⟨rfl,_,rfl,?_⟩
  rcases hx with hx | hx
  ·subst hx
   refine aP (nQ (x:="write") (q:=.wr) rfl (by intro z;cases z)) ?_
   refine⟨_,rfl,a,wQ,_,rfl,g1,arx,zt rfl (di.of t1) rfl ⟨a,r,q,p,_,d,rfl,P1,hl,fun H2 P2 f2=>?_⟩⟩
   refine fin r H2 (.inl rfl) ?_ (PF.wrQ.trans f2) (by rw[xZ];rfl)
   rw[xZ,if_neg (by intro z;cases z)]
   exact P2
  ·subst hx
   refine bH fD ?_
   refine⟨_,rfl,a,wQ,_,rfl,g1,arw,zt rfl (di.of t1) rfl ⟨a,r,q,p,_,d,rfl,P1,fun r' H2 hr' P2 f2=>?_⟩⟩
   have nq:r'≠q:=by intro z;rw[z,aj]at hr';cases hr'
   refine fin r' H2 (.inr (by rw[<-hr',az nq])) ?_ (PF.wrQ.trans f2) (by rw[xZ];rfl)
   rw[xZ,if_pos rfl]
   exact P2
end
end gH
namespace gH
open PySem L2
section
variable{P:Program}{w:World}{K:PySem.W.Frag}{mg:Str->Option Value}{base:Heap}{t:Jh}
theorem Jq{H:Hp}{b c:Addr}{d p:Nat}{x:Rt}{vs:List V}(hc:H c=some (.tup [.int d,.ref b]))(hb:H b=some (.tup [.str "back",.int p,.str x.s])):Rep H (.ref c) (pairD (d,.back p x)):=by
 simp only[pairD,Let.d,Rep,aH]
 exact⟨c,_,rfl,hc,_,_,rfl,rfl,_,_,rfl,⟨b,_,rfl,hb,_,_,rfl,rfl,_,_,rfl,rfl,_,_,rfl,rfl,rfl⟩,rfl⟩
theorem Xm{g:PG}{p d:Nat}{x:Rt}(h:g.wr=none):pH g p d x=[]:=by unfold pH;rw[h]
theorem abQ{g:PG}{p d:Nat}{x:Rt}(h:g.wr=some d):pH g p d x=[]:=by unfold pH;rw[h];simp
theorem RK{g:PG}{p d wv:Nat}{x:Rt}(h:g.wr=some wv)(hn:wv≠d):pH g p d x=[(wv,.back p (low x))]:=by unfold pH;rw[h];simp[hn]
theorem rB(T:Txt K w mg t):c7 P w K mg base nP 2 t.bV t.gn ["self"] (arF t.aF):=by
 refine T.tZ.ok eE (fun vs H Q E h=>?_) (fun cdv A outer s H vs Q E hr h=>?_)
 ·obtain⟨a,r,q,p,g,d,x,l,rfl,_⟩:=h;rfl
 ·obtain⟨a,r,q,p,g,d,x,l,rfl,PA,ha,hx,hl,k⟩:=h
  refine⟨_,(ao (bh (i:=1) eE.nd rfl (Or.inr rfl) (aN bz (aN bB (cI (pv 0) (by rfl)) aA (fun _ _=>rfl)) aA (fun _ _=>rfl)))
   (ao (bh (i:=2) eE.nd rfl (Or.inl rfl) (aN bz (aN bB (cI (pv 0) (by rfl)) aA (fun _ _=>rfl)) aA (fun _ _=>rfl)))
   (ao (bh (i:=3) eE.nd rfl (Or.inl rfl) (bN aq))
   (ao (cg (PW.pt (Pn (rQ (qT (cI (pv 0) (by rfl)))) (Ks (aU Ao (cI (pv 0) (by rfl)) (pv 1) (bj _))))) (aC (bO (fj PySem.F.plainAttrs_list PySem.F.slot_list_append PySem.F.type_list_append cH (pv 3) (aa (bZ (aa (cI (pv 0) (by rfl)) (aa (cC (Fj T) (hr.mono (by decide):bQ 1 _) (by rfl) T.Hu T.wu.kp T.Ht .nil bU (aa (cI (pv 0) (by rfl)) (aa (pF (aU cQ (pv 2) (gZ (by rfl) T.ah8) (bj _)) (gZ (by rfl) T.ah8) (gZ (by rfl) T.Qo)) aq))) aq))) aq)))) bC)
   (ao (cg (aU cQ (pv 2) (gZ (by rfl) T.V3) (bj _)) (aC (bO (fj PySem.F.plainAttrs_list PySem.F.slot_list_extend PySem.F.type_list_extend lE (pv 3) (aa (lA (gF (xs:=["desk"]) (ys:=["self","asking"]) (js:=[0,1]) rfl (by decide +kernel) (by decide +kernel) (by decide +kernel) (by rfl) ⟨⟨rfl,Or.inl rfl⟩,⟨⟨rfl,Or.inl rfl⟩,trivial⟩⟩) rfl (uD (cI (pv 0) (by rfl))) (fun _ _ _ _ _=>(cU (i:=0) (show List.Nodup ((["desk"]:List Str)++(["self","asking"]:List Str):List Str)by decide +kernel) rfl (Or.inl rfl))) (fun _ _ _ _ _=>(V0 (aU Ao (pv 0) (pv 2) (bj _)))) (fun _ _ _ _ _=>(bZ (aa (pv 0) (aa (cC (Fj T) (hr.mono (by decide):bQ 1 _) (by rfl) T.Hu T.wu.kp T.Ht .nil bU (aa (anS (K:=K) rfl (pv 1) (by rfl)) (aa (gZ (by rfl) T.Qo) aq))) aq))))) aq)))) bC)
   (aC (bw (pv 3)))))))),?_⟩
  try dsimp only[dw,Cx.kI]
  show let Z1:L2.TS:=_;let Z2:L2.TS:=_;let Z3:L2.TS:=_;let Z4:L2.TS:=_;let Z5:L2.TS:=dg _ Z4 bK;let Z6:L2.TS:=_;let Z7:L2.TS:=dg _ Z6 bK;let Z8:L2.TS:=_;let D0:Ends:=_;(aR Z1 (aR Z2 (aR Z3 (aR Z5 (aR Z7 (Z8)))))) D0 _ _
  intro Z1 Z2 Z3 Z4 Z5 Z6 Z7 Z8 D0
  have sl:sizeLine=16777216:=by decide
  obtain⟨⟨dx,h1⟩,h2,⟨vs,h3,h4⟩,h5⟩:=id PA
  rw[ha]at h4
  obtain⟨tt,us,rfl,h6,h7⟩:=GZ h4
  refine⟨_,rfl,a,_,dx,_,_,rfl,h1,T.aQ,T.cZ,rM,q,_,0,_,rfl,rfl,cu.of h3,arH _ _,tt,_,0,_,rfl,rfl,di.of h6,rfl,?_⟩
  refine⟨_,rfl,a,_,dx,_,_,rfl,h1,T.aQ,T.cZ,rM,q,_,0,_,rfl,rfl,cu.of h3,arH _ _,tt,_,1,_,rfl,rfl,di.of h6,rfl,?_⟩
  refine⟨Dw,fun bl hb=>?_⟩
  have hbl:g.dD p=pH g p d x++pI g p d x:=by unfold PG.dD;rw[ha]
  have s0:=aB (o:=.lst []) hb
  try dsimp only
  refine fW (fun σ' H'=>σ'=[some (.ref a),some (.int d),some (.str x.s),some (.ref bl)]/\bY H H'/\∃us,H' bl=some (.lst us)/\us.length<=1/\aH H' us ((pH g p d x).map pairD)) (fun N hN=>?_) ?_
  ·have l0:=s0 a _ h1
   refine⟨_,rfl,a,_,dx,_,_,rfl,l0,T.aQ,T.cj,rY,_,rfl,?_⟩
   cases hw:g.wr with
   | none =>
     refine aP rfl (uB ?_)
     exact hN _ _ ⟨rfl,s0,[],aj,Nat.zero_le _,by rw[Xm hw];simp[aH]⟩
   | some wv =>
     have l1:(Av p g r q).lookup ("writer":Str)=some (.int wv):=by rw[rY,hw];rfl
     refine bH rfl ?_
     refine⟨_,rfl,a,_,dx,_,_,rfl,l0,T.aQ,T.cj,l1,_,rfl,rfl,_,rfl,?_⟩
     by_cases e:wv=d
     ·subst e
      refine aP (by simp) ?_
      exact hN _ _ ⟨rfl,s0,[],aj,Nat.zero_le _,by rw[abQ hw];simp[aH]⟩
     ·refine bH (by rw[decide_eq_false fun z=>e (by have:=V.int.inj z;lia)];rfl) ?_
      have go:∀c,(∀z:Rt,z=low x->c=V.str z.s)->(tBM K "list" KD (jf 3) (lX (ak2 (lX (ace K (jf 0) "writer") (lX (ak3 (afD "back") [] E0 (lX (ace K (jf 0) "page") (lX (tC c) Hf))) Hf))) Hf)) [some (.ref a),some (.int d),some (.str x.s),some (.ref bl)] (upd H bl (.lst [])) fun _ H'=>N [some (.ref a),some (.int d),some (.str x.s),some (.ref bl)] H':=fun c hcc=>by
       obtain rfl:=hcc _ rfl
       refine⟨_,rfl,.inl ⟨rfl,_,cu.of aj⟩,_,rfl,a,_,dx,_,_,rfl,l0,T.aQ,T.cj,l1,_,rfl,a,_,dx,_,_,rfl,l0,T.aQ,T.fX,Wu,_,_,rfl,fun b hb1=>?_⟩
       refine⟨uA,fun cc hc1=>?_⟩
       have nb:bl≠b:=fun z=>by rw[<-z,aj]at hb1;cases hb1
       have nc:bl≠cc:=fun z=>by rw[<-z,az nb,aj]at hc1;cases hc1
       have ncb:b≠cc:=fun z=>by rw[z,aj]at hc1;cases hc1
       refine⟨bl,[],_,rfl,rfl,(by rw[az nc,az nb,aj]),(by show 0<sizeLine;decide),?_⟩
       refine hN _ _ ⟨rfl,?_,_,aj,Nat.le_refl _,?_⟩
       ·exact fC ((s0.trans (aB hb1)).trans (aB hc1)) hb
       ·rw[RK hw e]
        simp only[List.map_cons,List.map_nil,aH]
        refine⟨_,_,rfl,Jq (b:=b) (vs:=[]) (by rw[az nc.symm,aj]) (by rw[az nb.symm,az ncb,aj]),rfl⟩
      rcases hx with hx | hx
      ·subst hx
       have:=go (.str "read") (fun z hz=>by rw[hz];rfl)
       obtain⟨v0,e0,ty,a1⟩:=this
       refine⟨v0,e0,ty,?_⟩
       obtain⟨v1,e1,a',C',dx',fs',v',a2⟩:=a1
       obtain⟨i1,i2,i3,i4,i5,v2,e2,a'',C'',arZ,ar0,v'',j1,j2,j3,j4,j5,a3⟩:=a2
       refine⟨v1,e1,a',C',dx',fs',v',i1,i2,i3,i4,i5,v2,e2,a'',C'',arZ,ar0,v'',j1,j2,j3,j4,j5,?_⟩
       refine⟨_,rfl,rfl,_,rfl,?_⟩
       exact bH fD a3
      ·subst hx
       have:=go (.str "none") (fun z hz=>by rw[hz];rfl)
       obtain⟨v0,e0,ty,a1⟩:=this
       refine⟨v0,e0,ty,?_⟩
       obtain⟨v1,e1,a',C',dx',fs',v',a2⟩:=a1
       obtain⟨i1,i2,i3,i4,i5,v2,e2,a'',C'',arZ,ar0,v'',j1,j2,j3,j4,j5,a3⟩:=a2
       refine⟨v1,e1,a',C',dx',fs',v',i1,i2,i3,i4,i5,v2,e2,a'',C'',arZ,ar0,v'',j1,j2,j3,j4,j5,?_⟩
       refine⟨_,rfl,rfl,_,rfl,?_⟩
       exact aP (nQ (r:=.wr) (x:="read") (q:=.rd) rfl (by intro z;cases z)) a3
  ·rintro σ' H1 ⟨rfl,s1,us1,hb1,hl1,rp1⟩
   have l0:=s1 a _ h1
   try dsimp only
   refine fW (fun σ' H'=>σ'=[some (.ref a),some (.int d),some (.str x.s),some (.ref bl)]/\bY H H'/\∃us,H' bl=some (.lst us)/\aH H' us ((g.dD p).map pairD)) (fun N hN=>?_) ?_
   ·refine⟨_,rfl,rfl,_,rfl,?_⟩
    rcases hx with hx | hx
    ·subst hx
     refine aP (nQ (x:="write") (q:=.wr) rfl (by intro z;cases z)) ?_
     refine hN _ _ ⟨rfl,s1,us1,hb1,?_⟩
     rw[hbl]
     have:pI g p d .rd=[]:=by unfold pI;rw[if_neg (by intro z;cases z)]
     rw[this,List.append_nil]
     exact rp1
    ·subst hx
     refine bH fD ?_
     refine⟨_,rfl,.inl ⟨rfl,_,cu.of hb1⟩,?_⟩
     refine⟨_,rfl,a,_,dx,_,_,rfl,l0,T.aQ,T.cW,uI,r,rfl,⟨_,cu.of (s1 _ _ h2)⟩,fun acc hacc=>?_⟩
     have nbl:bl≠acc:=aG hb1 hacc
     have aye:bY H1 (upd H1 acc (.lst [])):=aB hacc
     let PV1:Nat->List V->St->Hp->Prop:=fun i zs σ' H'=>(∃o,σ'=[o,some (.ref a),some (.int d)])/\bY H1 H'/\H' acc=some (.lst zs)/\zs.length<=i/\aH H' zs ((((g.rd.take i).filter fun e=>decide (e≠d)).map fun e=>(e,Let.back p .no)).map pairD)
     refine abF (xs:=g.rd.map nV) PV1 ?_ ?_ ?_ ?_
     ·exact⟨⟨_,rfl⟩,aye,aj,Nat.le_refl _,by simp[aH]⟩
     ·rintro i zs σ' H' _ ⟨_,s',ha',_⟩
      exact⟨cu.of (s' _ _ (s1 _ _ h2)),ha'⟩
     ·rintro i y zs σ' H' hy hi ⟨⟨o,rfl⟩,s',ha',hz,rp⟩
      rw[List.length_map]at hi
      have hy':y=.int (g.rd[i]:Nat):=by
       rw[List.getElem?_map,List.getElem?_eq_getElem hi]at hy
       exact(Option.some.inj hy).symm
      subst hy'
      have htk:g.rd.take (i+1)=g.rd.take i++[g.rd[i]]:=by rw[List.take_add_one,List.getElem?_eq_getElem hi];rfl
      refine⟨_,rfl,_,rfl,rfl,_,rfl,?_⟩
      by_cases e:g.rd[i]=d
      ·refine aP (by rw[e];simp) (KR.mk (by rw[List.length_map];exact hi) ?_)
       refine⟨⟨_,rfl⟩,s',ha',by lia,?_⟩
       rw[htk,List.filter_append,List.filter_cons_of_neg (by simp[e])]
       simpa using rp
      ·refine bH (by rw[decide_eq_false fun z=>e (by have:=V.int.inj z;lia)];rfl) ?_
       refine⟨_,rfl,_,rfl,a,_,dx,_,_,rfl,s' _ _ l0,T.aQ,T.fX,Wu,_,_,rfl,fun b hb2=>?_⟩
       refine⟨uA,fun cc hc2=>?_⟩
       have nb:acc≠b:=aG ha' hb2
       have nc:acc≠cc:=fun z=>by rw[<-z,az nb]at hc2;rw[hc2]at ha';cases ha'
       have ncb:b≠cc:=fun z=>by rw[z,aj]at hc2;cases hc2
       have h6':upd (upd H' b (.tup [.str "back",.int p,.str "none"])) cc (.tup [.int (g.rd[i]:Nat),.ref b]) acc=some (.lst zs):=by rw[az nc,az nb];exact ha'
       have hz2:zs.length<sizeLine:=by lia
       refine wY.mk (by rw[List.length_map];exact hi) h6' hz2 ?_
       have sup:bY H' (upd (upd H' b (.tup [.str "back",.int p,.str "none"])) cc (.tup [.int (g.rd[i]:Nat),.ref b])):=(aB hb2).trans (aB hc2)
       refine⟨⟨_,rfl⟩,?_,aj,by rw[List.length_append];simp;lia,?_⟩
       ·exact fC (s'.trans sup) hacc
       ·rw[htk,List.filter_append,List.filter_cons_of_pos (by simp[e]),List.filter_nil,List.map_append,List.map_append]
        have tm:=lB (vs:=zs++[.ref cc]) h6'
        refine aH.snoc ((rp.aX (aY sup) (cY _)).aX tm (cY _)) ?_
        exact Jq (b:=b) (x:=.no) (vs:=[]) (by rw[az nc.symm,aj]) (by rw[az nb.symm,az ncb,aj];rfl)
     ·rintro zs σ' H' ⟨_,s',ha',hz,rp⟩
      rw[List.length_map]at hz rp
      rw[List.take_length]at rp
      have hb':=s' _ _ hb1
      refine⟨bl,acc,us1,zs,rfl,rfl,hb',.inl (cu.of ha'),by lia,?_⟩
      have hbn:H bl=none:=hb
      refine hN _ _ ⟨rfl,fC (s1.trans s') hbn,_,aj,?_⟩
      have tm:=lB (vs:=us1++zs) hb'
      have hrb:pI g p d .wr=(g.rd.filter fun e=>decide (e≠d)).map fun e=>(e,Let.back p .no):=by unfold pI;rw[if_pos rfl]
      rw[hbl,List.map_append,hrb]
      exact aH.append ((rp1.aX (aY s') (cY _)).aX tm (cY _)) (rp.aX tm (cY _))
   ·rintro σ' H2 ⟨rfl,s2,us2,hb2,rp2⟩
    exact⟨_,rfl,k bl us2 H2 hb s2 hb2 rp2⟩
end
end gH
namespace gH
open PySem L2
section
variable{P:Program}{w:World}{K:PySem.W.Frag}{mg:Str->Option Value}{base:Heap}{t:Jh}
theorem aH.cons_inv{H:Hp}{vs:List V}{d:D}{ds:List D}(h:aH H vs (d::ds)):∃v r,vs=v::r/\Rep H v d/\aH H r ds:=by simpa only[aH] using h
theorem aH.nil_inv{H:Hp}{vs:List V}(h:aH H vs []):vs=[]:=by simpa only[aH] using h
theorem aH.isEmpty{H:Hp}{vs:List V}{ds:List D}(h:aH H vs ds):vs.isEmpty=ds.isEmpty:=by
 have:=h.length
 cases vs<;>cases ds<;>simp_all
theorem fZ.DX{C:Addr}{H:Hp}{a r q l:Addr}{p:Nat}{g:PG}{vs:List V}(PA:fZ C H a r q p g)(h:H l=some (.lst vs)):l≠a:=by
 obtain⟨⟨dx,h1⟩,_⟩:=PA
 exact jq h h1 (by intro z;cases z)
theorem fZ.wrL{C:Addr}{H:Hp}{a r q l:Addr}{p:Nat}{g:PG}{us vs:List V}(PA:fZ C H a r q p g)(h:H l=some (.lst us))(nr:l≠r)(nq:l≠q):fZ C (upd H l (.lst vs)) a r q p g :=
 PA.keep (lB h) (fun o e=>by rw[az (PA.DX h).symm];exact e) (fun o e=>by rw[az nr.symm];exact e) fun o e=>by rw[az nq.symm];exact e
theorem ake(g:PG)(p d:Nat)(x:Rt):(pH g p d x).length<=1:=by
 unfold pH
 split
 ·split<;>simp
 ·simp
theorem Xn(g:PG)(p:Nat):(g.dD p).length<=g.rd.length+1:=by
 unfold PG.dD
 split
 ·simp
 ·rename_i a r l _
  rw[List.length_append]
  have h1:=ake g p a r
  have h2:(pI g p a r).length<=g.rd.length:=by
   unfold pI
   split
   ·rw[List.length_map];exact List.length_filter_le _ _
   ·simp
  lia
theorem yc:∀(k:Nat) (g:PG) (p:Nat),(iR k g p).2.length<=k+g.mu+1
 | 0,g,p=>by simp[iR]
 | k+1,g,p=>by
   rw[iR]
   split
   ·have:=yc k g.lent p
    have h2:=g.qW
    have h3:(g.dO p).length<=1:=by unfold PG.dO;split<;>simp
    simp only[List.length_append]
    lia
   ·have:=Xn g p
    simp only
    unfold PG.mu
    lia
theorem PG.yc(g:PG)(p:Nat):(g.serve p).2.length<=2*g.mu+1:=by
 have:=gH.yc g.ask.length g p
 unfold PG.serve
 have h2:g.ask.length<=g.mu:=by unfold PG.mu;lia
 lia
theorem t8(T:Txt K w mg t):c7 P w K mg base nP 3 t.dj t.lL ["self"] (anQ t.aF):=by
 refine T.Li.ok lJ (fun vs H Q E h=>?_) (fun cdv A outer s H vs Q E hr h=>?_)
 ·obtain⟨a,r,q,p,g,rfl,_⟩:=h;rfl
 ·obtain⟨a,r,q,p,g0,rfl,PA,hrw,hmu,k⟩:=h
  have sl:sizeLine=16777216:=by decide
  refine⟨_,(ao (bh (i:=1) lJ.nd rfl (Or.inl rfl) (bN aq))
   (ao (V8 PassesOwn.never (Dz (cI (pv 0) (by rfl)) (fun _=>rfl)) (ao (bh (i:=2) lJ.nd rfl (Or.inl rfl) (pG (pv 0) T.aQ T.rn (rB T) (hr.mono (by decide):bQ 2 _) T.t7 .nil bU))
   (ao (cg (Dz (pv 2) (fun _=>rfl)) (ao (gh (pv 0) (dM dU (by rfl) T.Be PySem.boot_len (aa (pv 2) aq)) (by rfl))
   (aC (bw (bF mD (pv 1) (pv 2))))) bC)
   (aC (bO (fj PySem.F.plainAttrs_list PySem.F.slot_list_append PySem.F.type_list_append cH (pv 1) (aa (pG (pv 0) T.aQ T.vg (vh T) (hr.mono (by decide):bQ 2 _) T.xY .nil bU) aq)))))))
   (aC (bw (pv 1))))),?_⟩
  try dsimp only[dw,Cx.kI]
  show let Z1:L2.TS:=_;let Z2:L2.TS:=_;let Z3:L2.TS:=_;let Z4:L2.TS:=_;let Z5:L2.TS:=aR Z3 (Z4);let Z6:L2.TS:=dg _ Z5 bK;let Z7:L2.TS:=_;let Z8:L2.TS:=aR Z2 (aR Z6 (Z7));let Z9:L2.TS:=acb _ Z8;let Bh:L2.TS:=_;let D0:Ends:=_;(aR Z1 (aR Z9 (Bh))) D0 _ _
  intro Z1 Z2 Z3 Z4 Z5 Z6 Z7 Z8 Z9 Bh D0
  refine⟨Dw,fun l hl=>?_⟩
  have nlr:l≠r:=(aG PA.rl hl).symm
  have nlq:l≠q:=by obtain⟨_,_,⟨vs,h3,_⟩,_⟩:=PA;exact(aG h3 hl).symm
  refine⟨fun m σ H1=>∃o g r1 vs acc,σ=[some (.ref a),some (.ref l),o]/\(r1=r\/H r1=none)/\l≠r1/\fZ t.aF H1 a r1 q p g/\PF H H1 a r q/\H1 l=some (.lst vs)/\aH H1 vs (acc.map pairD)/\Rw g.ask/\g.mu<=1000000/\acc.length+g.ask.length<=g0.ask.length/\
   (g0.serve p).1=(g.serve p).1/\(g0.serve p).2=acc++(g.serve p).2/\m=g.ask.length,⟨_,none,g0,r,[],[],rfl,.inl rfl,nlr,PA.new hl,PF.new hl,aj,by simp[aH],hrw,hmu,by simp,rfl,by simp,rfl⟩,?_⟩
  rintro m σ H1 ⟨o,g,r1,vs,acc,rfl,hr1,nl1,P1,f1,hl1,rp,rw1,mu1,K7,se1,se2,rfl⟩
  have azJ:g0.ask.length<=1000000:=by unfold PG.mu at hmu;lia
  have hvl:vs.length=acc.length:=by rw[rp.length,List.length_map]
  obtain⟨⟨dx,h1⟩,h2,⟨us,h3,h4⟩,h5⟩:=id P1
  refine⟨_,rfl,a,_,dx,_,_,rfl,h1,T.aQ,T.cZ,rM,_,.inl ⟨us,cu.of h3,rfl⟩,?_⟩
  cases wA:g.ask with
  | nil =>
    rw[wA]at h4
    have:=aH.nil_inv (by simpa using h4)
    subst this
    refine aP rfl ?_
    refine⟨_,rfl,k l r1 vs H1 hl hr1 nl1 ?_ f1 hl1 ?_⟩
    ·rw[se1,GR wA];exact P1
    ·rw[se2,GR wA,List.append_nil];exact rp
  | cons x0 q0 =>
    obtain⟨d,x⟩:=x0
    have hx:x=.rd\/x=.wr:=rw1 (d,x) (by rw[wA];simp)
    have hne:g.ask≠[]:=by rw[wA];simp
    have hlen:us.length=g.ask.length:=by rw[h4.length,List.length_map]
    have alR:g.rd.length<=1000000:=by unfold PG.mu at mu1;lia
    refine bH (by cases us with | nil=>rw[wA]at hlen;simp at hlen | cons _ _=>rfl) ?_
    refine⟨fun σ' H'=>∃m',m'<q0.length+1/\∃o g r1 vs acc,σ'=[some (.ref a),some (.ref l),o]/\(r1=r\/H r1=none)/\l≠r1/\fZ t.aF H' a r1 q p g/\PF H H' a r q/\H' l=some (.lst vs)/\aH H' vs (acc.map pairD)/\Rw g.ask/\g.mu<=1000000/\acc.length+g.ask.length<=g0.ask.length/\
     (g0.serve p).1=(g.serve p).1/\(g0.serve p).2=acc++(g.serve p).2/\m'=g.ask.length,fun σ' H' z=>z,?_⟩
    refine⟨_,rfl,a,dx,_,rfl,h1,alA,a,r1,q,p,g,d,x,q0,rfl,P1,wA,hx,alR,fun b bs H2 hb s2 hb2 rpb=>?_⟩
    have P2:=P1.same s2
    have hl2:=s2 _ _ hl1
    have nbl:b≠l:=(aG hl1 hb).symm
    obtain⟨⟨dx2,g1⟩,_⟩:=id P2
    have hbl:bs.length=(g.dD p).length:=by rw[rpb.length,List.length_map]
    refine⟨_,rfl,_,.inl ⟨bs,cu.of hb2,rfl⟩,?_⟩
    by_cases he:g.dD p=[]
    ·have e0:bs=[]:=by rw[he]at hbl;exact List.length_eq_zero_iff.mp hbl
     subst e0
     refine aP rfl ?_
     refine⟨_,rfl,.inl ⟨rfl,_,cu.of hl2⟩,_,rfl,a,dx2,_,rfl,g1,afG,a,r1,q,p,g,d,x,q0,rfl,P2,wA,hx,alR,fun v r2 H3 hr2 P3 f3 rv=>?_⟩
     have nq:l≠q:=nlq
     have hl3:H3 l=some (.lst vs):=f3.kp l _ hl2 (P2.DX hl2) nl1 nq
     have nl2:l≠r2:=by
      rcases hr2 with z | z
      ·rw[z];exact nl1
      ·exact aG hl2 z
     have t3:=f3.tups P2
     refine⟨l,vs,v,rfl,rfl,hl3,by lia,?_⟩
     refine⟨_,?_,_,g.lent,r2,vs++[v],acc++[(d,.lend p x g.num)],rfl,?_,nl2,P3.wrL hl3 nl2 nq,?_,aj,?_,?_,Nat.le_trans g.qW mu1,?_,?_,?_,rfl⟩
     ·rw[PG.w6,wA];simp
     ·rcases hr2 with z | z
      ·rw[z];exact hr1
      ·exact .inr (f1.lv _ (Lv.same s2 _ z))
     ·refine⟨fun b' o' e' h1' h2' h3'=>?_,f1.lv.trans ((Lv.same s2).trans (f3.lv.trans Lv.upd))⟩
      have e2':=s2 _ _ (f1.kp b' o' e' h1' h2' h3')
      have e3':=f3.kp b' o' e2' h1' (by
       rcases hr1 with z | z
       ·rw[z];exact h2'
       ·exact aG e' z) h3'
      rw[az (aG e' hl)]
      exact e3'
     ·rw[List.map_append]
      exact aH.snoc (((rp.aX (aY s2) (cY _)).aX t3 (cY _)).aX (lB hl3) (cY _)) (rv.aX (lB hl3) (by simp[pairD,D.flat,D.flats];exact Let.flat _))
     ·have:g.lent.ask=q0:=by unfold PG.lent;rw[wA];dsimp only;split<;>rfl
      rw[this]
      intro y hy
      exact rw1 y (by rw[wA];exact List.mem_cons_of_mem _ hy)
     ·rw[PG.w6,wA,List.length_append]
      rw[wA]at K7
      simp at K7 ⊢
      lia
     ·rw[se1,yR hne he]
     ·rw[se2,yR hne he]
      have:g.dO p=[(d,.lend p x g.num)]:=by unfold PG.dO;rw[wA]
      rw[this,List.append_assoc]
    ·refine bH (by cases bs with | nil=>exact absurd (List.length_eq_zero_iff.mp hbl.symm) he | cons _ _=>rfl) ?_
     refine⟨_,rfl,b,bs,rfl,.inl (cu.of hb2),_,rfl,a,_,dx2,_,rfl,g1,T.aQ,T.d9,uJ,?_⟩
     rw[afF]
     have P3:=P2.wr (dx:=dx2) (g':={g with miss:=(bs.length:Int)}) rfl rfl
     have hl3:upd H2 a (.ins t.aF dx2 (Av p {g with miss:=(bs.length:Int)} r1 q)) l=some (.lst vs):=by rw[az (P2.DX hl2)];exact hl2
     have hb3:upd H2 a (.ins t.aF dx2 (Av p {g with miss:=(bs.length:Int)} r1 q)) b=some (.lst bs):=by rw[az (P2.DX hb2)];exact hb2
     have t3:b8 H2 (upd H2 a (.ins t.aF dx2 (Av p {g with miss:=(bs.length:Int)} r1 q))):=fun b' xs e=>by rw[az (jq e g1 (by intro z;cases z))];exact e
     have bl2:=Xn g p
     refine⟨_,rfl,_,rfl,l,b,vs,bs,rfl,rfl,hl3,hb3,by lia,fun c hc=>?_⟩
     have hcl:H c=none:=f1.lv _ (Lv.same s2 _ (Lv.upd _ hc))
     refine k c r1 (vs++bs) _ hcl hr1 ?_ ?_ ?_ aj ?_
     ·exact(aG P3.rl hc).symm
     ·rw[se1,GX hne he,<-hbl];exact P3.new hc
     ·refine⟨fun b' o' e' h1' h2' h3'=>?_,f1.lv.trans ((Lv.same s2).trans (Lv.upd.trans Lv.upd))⟩
      have e2':=s2 _ _ (f1.kp b' o' e' h1' h2' h3')
      rw[az (aG e' hcl),az h1']
      exact e2'
     ·rw[se2,GX hne he,List.map_append]
      have tc:=aY (aB (o:=.lst (vs++bs)) hc)
      exact aH.append (((rp.aX (aY s2) (cY _)).aX t3 (cY _)).aX tc (cY _)) ((rpb.aX t3 (cY _)).aX tc (cY _))
theorem zN(T:Txt K w mg t):c7 P w K mg base nP 1 t.cL t.jl ["self","desk","number"] (arG t.aF):=by
 refine T.Cj.ok zf (fun vs H Q E h=>?_) (fun cdv A outer s H vs Q E hr h=>?_)
 ·obtain⟨a,r,q,p,g,d,n,rfl,_⟩:=h;rfl
 ·obtain⟨a,r,q,p,g,d,n,rfl,PA,k⟩:=h
  refine⟨_,(ao (gh (pv 0) (pv 2) (by rfl))
   (ao (cg (aU cQ (cI (pv 0) (by rfl)) (pv 1) (bj _)) (aC (gh (pv 0) rP (by rfl))) bC)
   (aC (bw (bN aq))))),?_⟩
  try dsimp only[dw,Cx.kI]
  show let Z1:L2.TS:=_;let Z2:L2.TS:=_;let Z3:L2.TS:=dg _ Z2 bK;let Z4:L2.TS:=_;let D0:Ends:=_;(aR Z1 (aR Z3 (Z4))) D0 _ _
  intro Z1 Z2 Z3 Z4 D0
  obtain⟨⟨dx,h1⟩,_⟩:=id PA
  refine⟨_,rfl,_,rfl,a,_,dx,_,rfl,h1,T.aQ,T.fc,uJ,?_⟩
  rw[ai7]
  have P1:=PA.wr (dx:=dx) (g':={g with num:=n}) rfl rfl
  have f1:PF H (upd H a (.ins t.aF dx (Av p {g with num:=n} r q))) a r q:=PF.wr
  generalize upd H a (.ins t.aF dx (Av p {g with num:=n} r q))=H1 at P1 f1
  try dsimp only[bK]
  refine fW (fun σ' H'=>σ'=[some (.ref a),some (.int d),some (.int n)]/\fZ t.aF H' a r q p {g with num:=n,wr:=if g.wr=some d then none else g.wr}/\PF H H' a r q) (fun N hN=>?_) ?_
  ·obtain⟨⟨wQ,g1⟩,_⟩:=id P1
   have sc:aqO (wrV g.wr) (.int d)=true:=by cases g.wr<;>rfl
   refine⟨_,rfl,a,_,wQ,_,_,rfl,g1,T.aQ,T.cj,rY,_,rfl,sc,_,rfl,?_⟩
   by_cases e:g.wr=some d
   ·refine bH (by show decide (wrV g.wr=V.int d)=true;rw[e];exact decide_eq_true rfl) ?_
    refine⟨_,rfl,a,_,wQ,_,rfl,g1,T.aQ,T.cj,uJ,?_⟩
    rw[ai8]
    refine hN _ _ ⟨rfl,?_,f1.trans PF.wr⟩
    rw[if_pos e]
    exact P1.wr rfl rfl
   ·refine aP (decide_eq_false fun z=>e ?_) ?_
    ·cases hw:g.wr with
     | none=>rw[hw]at z;cases z
     | some x=>rw[hw]at z;have:=V.int.inj z;exact congrArg some (by lia)
    ·refine hN _ _ ⟨rfl,?_,f1⟩
     rw[if_neg e]
     exact P1
  ·rintro σ' H2 ⟨rfl,P2,f2⟩
   refine⟨Dw,fun l hl=>?_⟩
   exact k l r [] _ (f2.lv _ hl) (.inl rfl) (aG P2.rl hl).symm (P2.new hl) (f2.trans (PF.new hl)) aj (by simp[PG.take,aH])
theorem Cv(T:Txt K w mg t):c7 P w K mg base nP 4 t.cN t.jC ["self","desk","right"] (au0 t.aF):=by
 refine T.Ey.ok Ca (fun vs H Q E h=>?_) (fun cdv A outer s H vs Q E hr h=>?_)
 ·obtain⟨a,r,q,p,g,x,d,rfl,_⟩:=h;rfl
 ·obtain⟨a,r,q,p,g,x,d,rfl,PA,hx,hrw,hmu,k⟩:=h
  have sl:sizeLine=16777216:=by decide
  refine⟨_,(ao (bO (fj PySem.F.plainAttrs_list PySem.F.slot_list_append PySem.F.type_list_append cH (cI (pv 0) (by rfl)) (aa (bZ (aa (pv 1) (aa (pv 2) aq))) aq)))
   (aC (bw (pF (aU cQ (dM dU (by rfl) T.Be PySem.boot_len (aa (cI (pv 0) (by rfl)) aq)) aA (bj _)) (pG (pv 0) T.aQ T.tY (t8 T) (hr.mono (by decide):bQ 3 _) T.vf .nil bU) (bN aq))))),?_⟩
  try dsimp only[dw,Cx.kI]
  show let Z1:L2.TS:=_;let Z2:L2.TS:=_;let D0:Ends:=_;(aR Z1 (Z2)) D0 _ _
  intro Z1 Z2 D0
  obtain⟨⟨dx,h1⟩,h2,⟨vs,h3,h4⟩,h5⟩:=id PA
  have hvl:vs.length=g.ask.length:=by rw[h4.length,List.length_map]
  have hal:g.ask.length<=900000:=by unfold PG.mu at hmu;lia
  refine⟨_,rfl,a,_,dx,_,_,rfl,h1,T.aQ,T.cZ,rM,.inl ⟨rfl,_,cu.of h3⟩,_,rfl,_,rfl,uA,fun tt ht=>?_⟩
  have s1:=aB (o:=.tup [.int d,.str x.s]) ht
  refine⟨q,vs,_,rfl,rfl,s1 _ _ h3,by lia,?_⟩
  have rp:aH (upd H tt (.tup [.int d,.str x.s])) (vs++[.ref tt]) ((g.ask++[(d,x)]).map BZ):=by
   rw[List.map_append]
   refine aH.snoc (h4.aX (aY s1) (kj _)) ?_
   simp only[BZ,Rep,aH]
   exact⟨tt,_,rfl,aj,_,_,rfl,rfl,_,_,rfl,rfl,rfl⟩
  have P1:=(PA.same s1).wrQ (l:=g.ask++[(d,x)]) rp
  have f1:PF H (upd (upd H tt (.tup [.int d,.str x.s])) q (.lst (vs++[.ref tt]))) a r q:=(PF.new ht).trans PF.wrQ
  generalize upd (upd H tt (.tup [.int d,.str x.s])) q (.lst (vs++[.ref tt]))=H1 at P1 f1
  obtain⟨⟨wQ,g1⟩,_,⟨us,g3,g4⟩,_⟩:=id P1
  have hul:us.length=g.ask.length+1:=by rw[g4.length,List.length_map];simp
  refine⟨_,rfl,a,_,wQ,_,_,rfl,g1,T.aQ,T.cZ,rM,q,us,rfl,.inl (cu.of g3),rfl,_,rfl,?_⟩
  by_cases e:g.ask=[]
  ·refine bH (decide_eq_true (by rw[hul,e];rfl)) ?_
   refine⟨_,rfl,a,wQ,_,rfl,g1,abJ,a,r,q,p,_,rfl,P1,?_,?_,fun l r' ws H' hl hr' nl P' f' hl' rp'=>?_⟩
   ·intro y hy
    rcases List.mem_append.mp hy with hy | hy
    ·exact hrw y hy
    ·have:y=(d,x):=by simpa using hy
     rw[this];exact hx
   ·unfold PG.mu at hmu ⊢;simp;lia
   ·have ek:g.take p d (.ask p x)=PG.serve {g with ask:=g.ask++[(d,x)]} p:=by simp only[PG.take];rw[if_pos e,e];rfl
    refine k l r' ws H' (f1.lv _ hl) ?_ nl ?_ (f1.trans f') hl' ?_
    ·rcases hr' with z | z
     ·exact .inl z
     ·exact .inr (f1.lv _ z)
    ·rw[ek];exact P'
    ·rw[ek];exact rp'
  ·refine aP (decide_eq_false ?_) ?_
   ·intro z
    have z1:=V.int.inj z
    have:g.ask.length≠0:=fun y=>e (List.length_eq_zero_iff.mp y)
    lia
   refine⟨Dw,fun l hl=>?_⟩
   have ek:g.take p d (.ask p x)=({g with ask:=g.ask++[(d,x)]},[]):=by simp only[PG.take];rw[if_neg e]
   exact k l r [] _ (f1.lv _ hl) (.inl rfl) (aG P1.rl hl).symm (by rw[ek];exact P1.new hl) (f1.trans (PF.new hl)) aj (by rw[ek];simp[aH])
theorem wB(T:Txt K w mg t):c7 P w K mg base nP 4 t.cB t.iI ["self","number"] (au1 t.aF):=by
 refine T.xW.ok vY (fun vs H Q E h=>?_) (fun cdv A outer s H vs Q E hr h=>?_)
 ·obtain⟨a,r,q,p,g,o,d,rfl,_⟩:=h;rfl
 ·obtain⟨a,r,q,p,g,o,d,rfl,PA,hms,hrw,hmu,k⟩:=h
  have sl:sizeLine=16777216:=by decide
  refine⟨_,(ao (cg (rQ (qT (pv 1))) (aC (gh (pv 0) (pv 1) (by rfl))) bC)
   (ao (ajR (pv 0) aA aqQ)
   (ao (cg (aU Ao (cI (pv 0) (by rfl)) aA (bj _)) (aC (bw (bN aq))) bC)
   (aC (bw (bF mD (bN (aa (pG (pv 0) T.aQ T.vg (vh T) (hr.mono (by decide):bQ 2 _) T.xY .nil bU) aq)) (pG (pv 0) T.aQ T.tY (t8 T) (hr.mono (by decide):bQ 3 _) T.vf .nil bU))))))),?_⟩
  try dsimp only[dw,Cx.kI]
  show let Z1:L2.TS:=_;let Z2:L2.TS:=dg _ Z1 bK;let Z3:L2.TS:=_;let Z4:L2.TS:=_;let Z5:L2.TS:=dg _ Z4 bK;let Z6:L2.TS:=_;let D0:Ends:=_;(aR Z2 (aR Z3 (aR Z5 (Z6)))) D0 _ _
  intro Z1 Z2 Z3 Z4 Z5 Z6 D0
  try dsimp only[bK]
  refine fW (fun σ' H'=>σ'=[some (.ref a),some (oV o)]/\fZ t.aF H' a r q p {g with num:=o.getD g.num}/\PF H H' a r q) (fun N hN=>?_) ?_
  ·obtain⟨⟨dx,h1⟩,_⟩:=id PA
   refine⟨_,rfl,_,rfl,?_⟩
   cases o with
   | none =>
     refine aP rfl ?_
     exact hN _ _ ⟨rfl,PA,PF.refl _ _ _ _⟩
   | some n =>
     refine bH rfl ?_
     refine⟨_,rfl,_,rfl,a,_,dx,_,rfl,h1,T.aQ,T.fc,uJ,?_⟩
     show N _ (upd H a (.ins _ dx (f9 "number" (.int n) _)))
     rw[ai7]
     exact hN _ _ ⟨rfl,PA.wr rfl rfl,PF.wr⟩
  ·rintro σ' H1 ⟨rfl,P1,f1⟩
   obtain⟨⟨dx,h1⟩,_⟩:=id P1
   refine⟨_,rfl,a,_,dx,_,_,rfl,h1,T.aQ,T.d9,Rx,_,_,rfl,rfl,dx,_,h1,uJ,?_⟩
   rw[afF]
   have P2:=P1.wr (dx:=dx) (g':={g with num:=o.getD g.num,miss:=g.miss - 1}) rfl rfl
   have f2:PF H (upd H1 a (.ins t.aF dx (Av p {g with num:=o.getD g.num,miss:=g.miss - 1} r q))) a r q:=f1.trans PF.wr
   generalize upd H1 a (.ins t.aF dx (Av p {g with num:=o.getD g.num,miss:=g.miss - 1} r q))=H2 at P2 f2
   generalize hg:({g with num:=o.getD g.num,miss:=g.miss - 1}:PG)=g2 at P2
   have hga:g2.ask=g.ask:=by rw[<-hg]
   have hgr:g2.rd=g.rd:=by rw[<-hg]
   have hgm:g2.miss=g.miss - 1:=by rw[<-hg]
   obtain⟨⟨dx2,g1⟩,_⟩:=id P2
   refine⟨_,rfl,a,_,dx2,_,_,rfl,g1,T.aQ,T.d9,Rx,rfl,_,rfl,?_⟩
   have ek:g.take p d (.ans p o)=if g.miss - 1=0 then((g2.lent.serve p).1,g2.dO p++(g2.lent.serve p).2)else(g2,[]):=by simp only[PG.take];rw[hg]
   by_cases e:g.miss - 1=0
   ·refine aP (by rw[hgm,e];rfl) ?_
    rw[if_pos e]at ek
    cases wA:g2.ask with
    | nil=>exact absurd (hga▸wA) (hms e)
    | cons x0 q0 =>
      obtain⟨d0,x⟩:=x0
      have hx:x=.rd\/x=.wr:=hrw (d0,x) (by rw[<-hga,wA];simp)
      have hrl:g2.rd.length<=1000000:=by rw[hgr];unfold PG.mu at hmu;lia
      refine⟨_,rfl,a,dx2,_,rfl,g1,afG,a,r,q,p,g2,d0,x,q0,rfl,P2,wA,hx,hrl,fun v r1 H3 hr1 P3 f3 rv=>?_⟩
      refine⟨zz1,fun l1 hl1=>?_⟩
      have P4:=P3.new (o:=.lst [v]) hl1
      have f4:PF H2 (upd H3 l1 (.lst [v])) a r q:=f3.trans (PF.new hl1)
      have nl1:l1≠r1:=(aG P3.rl hl1).symm
      have nq1:l1≠q:=by obtain⟨_,_,⟨us,g3,_⟩,_⟩:=P3;exact(aG g3 hl1).symm
      have hv1:upd H3 l1 (.lst [v]) l1=some (.lst [v]):=aj
      have rv1:=Rep.aX (aY (aB (o:=.lst [v]) hl1)) (show(pairD (d0,.lend p x g2.num)).flat by simp only[pairD,D.flat,D.flats];exact⟨trivial,Let.flat _,trivial⟩) rv
      have aA8:=f3.lv _ hl1
      generalize upd H3 l1 (.lst [v])=H4 at P4 f4 hv1 rv1
      obtain⟨⟨dx4,k1⟩,_⟩:=id P4
      have hla:g2.lent.ask=q0:=by unfold PG.lent;rw[wA];dsimp only;split<;>rfl
      refine⟨_,rfl,a,dx4,_,rfl,k1,abJ,a,r1,q,p,_,rfl,P4,?_,?_,fun l r' ws H5 hl hr' nl P5 f5 hl5 rp5=>?_⟩
      ·rw[hla];intro y hy;exact hrw y (by rw[<-hga,wA];exact List.mem_cons_of_mem _ hy)
      ·refine Nat.le_trans g2.qW ?_
       unfold PG.mu at hmu ⊢;rw[hga,hgr];lia
      ·have ayg:H5 l1=some (.lst [v]):=f5.kp l1 _ hv1 (P4.DX hv1) nl1 nq1
       have wl:ws.length<=3000000:=by
        rw[rp5.length,List.length_map]
        have h8:=g2.lent.yc p
        have h9:=g2.qW
        have h10:g2.mu<=900000:=by unfold PG.mu at hmu ⊢;rw[hga,hgr];lia
        lia
       refine⟨l1,l,[v],ws,rfl,rfl,ayg,hl5,(by simp only[List.length_singleton];lia),fun c hc=>?_⟩
       have fr1:r1=r\/H r1=none:=by
        rcases hr1 with z | z
        ·exact .inl z
        ·exact .inr (f2.lv _ z)
       refine k c r' ([v]++ws) _ (f2.lv _ (f4.lv _ (f5.lv _ hc))) ?_ (aG P5.rl hc).symm (by rw[ek];exact P5.new hc) ((f2.trans f4).trans' (f5.trans' (PF.new hc) hr') fr1) aj ?_
       ·rcases hr' with z | z
        ·rw[z];exact fr1
        ·exact .inr (f2.lv _ (f4.lv _ z))
       ·rw[ek]
        have h11:g2.dO p=[(d0,.lend p x g2.num)]:=by unfold PG.dO;rw[wA]
        rw[h11,List.map_append]
        have tc:=aY (aB (o:=.lst ([v]++ws)) hc)
        refine aH.append ?_ (rp5.aX tc (cY _))
        simp only[List.map_cons,List.map_nil,aH]
        have hfl:(pairD (d0,.lend p x g2.num)).flat:=by simp only[pairD,D.flat,D.flats];exact⟨trivial,Let.flat _,trivial⟩
        exact⟨v,[],rfl,Rep.aX tc hfl (Rep.aX (f5.tups P4) hfl rv1),rfl⟩
   ·refine bH (by rw[hgm];rw[decide_eq_false fun z=>e (V.int.inj z)];rfl) ?_
    rw[if_neg e]at ek
    refine⟨Dw,fun l hl=>?_⟩
    exact k l r [] _ (f2.lv _ hl) (.inl rfl) (aG P2.rl hl).symm (by rw[ek];exact P2.new hl) (f2.trans (PF.new hl)) aj (by rw[ek];simp[aH])
end
end gH
namespace gH
open PySem L2
section
variable{P:Program}{w:World}{K:PySem.W.Frag}{mg:Str->Option Value}{base:Heap}{t:Jh}
theorem ac0(T:Txt K w mg t):c7 P w K mg base nP 5 t.iw t.zA ["self","desk","letter"] (ahT t.gQ t.aF):=by
 refine T.af3.ok Lb (fun vs H Q E h=>?_) (fun cdv A outer s H vs Q E hr h=>?_)
 ·obtain⟨A,m,G,b,l,d,rfl,_⟩:=h;rfl
 ·obtain⟨A0,m,G,b,l,d,rfl,HA,hb,hp,hg,hrw,hmu,k⟩:=h
  refine⟨_,(ao (bh (i:=3) Lb.nd rfl (Or.inl rfl) (aN bB (cI (pv 0) (by rfl)) (aN bz (pv 2) aA (fun _ _=>rfl)) (fun _ _=>rfl)))
   (ao (cg (aU cQ (aN bz (pv 2) aA (fun _ _=>rfl)) aD (bj _)) (aC (bw (cF (pv 3) T.aQ T.Ci (Cv T) (hr.mono (by decide):bQ 4 _) T.Ez .nil bU (aa (pv 1) (aa (aN bz (pv 2) aA (fun _ _=>rfl)) aq))))) bC)
   (ao (cg (aU cQ (aN bz (pv 2) aA (fun _ _=>rfl)) aD (bj _)) (aC (bw (cF (pv 3) T.aQ T.wy (wB T) (hr.mono (by decide):bQ 4 _) T.xX .nil bU (aa (aN bz (pv 2) aA (fun _ _=>rfl)) aq)))) bC)
   (aC (bw (cF (pv 3) T.aQ T.zJ (zN T) (hr.mono (by decide):bQ 1 _) T.Ck .nil bU (aa (pv 1) (aa (aN bz (pv 2) aA (fun _ _=>rfl)) aq)))))))),?_⟩
  try dsimp only[dw,Cx.kI]
  show let Z1:L2.TS:=_;let Z2:L2.TS:=_;let Z3:L2.TS:=dg _ Z2 bK;let Z4:L2.TS:=_;let Z5:L2.TS:=dg _ Z4 bK;let Z6:L2.TS:=_;let D0:Ends:=_;(aR Z1 (aR Z3 (aR Z5 (Z6)))) D0 _ _
  intro Z1 Z2 Z3 Z4 Z5 Z6 D0
  obtain⟨dx,h1⟩:=HA.ob
  have hpl:=HA.pl
  have PA:=HA.pg l.pg hp
  obtain⟨⟨wQ,g1⟩,_⟩:=id PA
  refine⟨_,rfl,A0 .hall,_,dx,_,_,rfl,h1,T.ah6,T.pD,aj5,zt rfl (di.of hb) (UL.at1 l) ⟨A0 .pages,_,_,_,rfl,rfl,cu.of hpl,bM hp,?_⟩⟩
  have fin:∀lst r' vs H',H lst=none->(r'=A0 (.iM l.pg)\/H r'=none)->lst≠r'->fZ t.aF H' (A0 (.gj l.pg)) r' (A0 (.jJ l.pg)) l.pg ((G l.pg).take l.pg d l).1->PF H H' (A0 (.gj l.pg)) (A0 (.iM l.pg)) (A0 (.jJ l.pg))->H' lst=some (.lst vs)->aH H' vs (((G l.pg).take l.pg d l).2.map pairD)->Q (.ref lst) H':=fun lst r' vs H' hl hr' nl P' f' hl' rp=>by
   obtain⟨HA',hf⟩:=HA.page hp P' f' hr'
   refine k lst _ vs H' hl HA' hf (fun x hx=>?_) (fun x hx=>?_) (bI _ _ (by intro z;cases z)) hl' rp
   ·by_cases e:x=.iM l.pg
    ·rw[e,cX];exact hr'
    ·rw[bI _ _ e];exact .inl rfl
   ·by_cases e:x=.iM l.pg
    ·rw[e,cX];exact nl
    ·rw[bI _ _ e]
     intro z
     obtain⟨o,e1,_⟩:=HA.live x hx
     rw[<-z,hl]at e1;cases e1
  cases l with
  | ask p x =>
    refine zt rfl (di.of hb) rfl ⟨rfl,_,rfl,?_⟩
    refine bH fD ?_
    refine⟨_,rfl,_,wQ,_,rfl,g1,arz,_,rfl,zt rfl (di.of hb) rfl ⟨_,_,_,p,G p,x,d,rfl,PA,hg,hrw,hmu,fun lst r' vs H' hl hr' nl P' f' hl' rp=>fin lst r' vs H' hl hr' nl P' f' hl' rp⟩⟩
  | ans p o =>
    refine zt rfl (di.of hb) rfl ⟨rfl,_,rfl,?_⟩
    refine aP (dh (by decide +kernel)) ?_
    refine zt rfl (di.of hb) rfl ⟨rfl,_,rfl,?_⟩
    refine bH fD ?_
    refine⟨_,rfl,_,wQ,_,rfl,g1,arA,zt rfl (di.of hb) rfl ⟨_,_,_,p,G p,o,d,rfl,PA,hg,hrw,hmu,fun lst r' vs H' hl hr' nl P' f' hl' rp=>fin lst r' vs H' hl hr' nl P' f' hl' rp⟩⟩
  | gave p n =>
    refine zt rfl (di.of hb) rfl ⟨rfl,_,rfl,?_⟩
    refine aP (dh (by decide +kernel)) ?_
    refine zt rfl (di.of hb) rfl ⟨rfl,_,rfl,?_⟩
    refine aP (dh (by decide +kernel)) ?_
    refine⟨_,rfl,_,wQ,_,rfl,g1,arB,_,rfl,zt rfl (di.of hb) rfl ⟨_,_,_,p,G p,d,n,rfl,PA,fun lst r' vs H' hl hr' nl P' f' hl' rp=>fin lst r' vs H' hl hr' nl P' f' hl' rp⟩⟩
theorem ac1(T:Txt K w mg t):c7 P w K mg base nP 3 t.iu t.zz ["self","numbers"] (ahV t.gQ t.aF):=by
 refine T.af1.ok acB (fun vs H Q E h=>?_) (fun cdv A outer s H vs Q E hr h=>?_)
 ·obtain⟨h,dx,l,ns,rfl,_⟩:=h;rfl
 ·obtain⟨h,dx,l,ns,rfl,hh,hl,hns,k⟩:=h
  have sl:sizeLine=16777216:=by decide
  refine⟨_,(aC (gh (pv 0) (lA (gF (xs:=["page","number"]) (ys:=[]) (js:=[]) rfl (by decide +kernel) (by decide +kernel) (by decide +kernel) (by rfl) trivial) rfl (ai3 (by rfl) T.RJ (aa (pv 1) aq)) (fun _ _ _ _ _=>(ajc (K:=K) (n:=2) rfl rfl (gG (cU (i:=0) (show List.Nodup ((["page","number"]:List Str)++([]:List Str):List Str)by decide +kernel) rfl (Or.inl rfl)) (gG (cU (i:=1) (show List.Nodup ((["page","number"]:List Str)++([]:List Str):List Str)by decide +kernel) rfl (Or.inl rfl)) yH)))) (fun _ _ _ _ _=>qU) (fun _ _ _ _ _=>(acf T.zH (Mg T) (hr.mono (by decide):bQ 2 _) (by rfl) T.afS T.Qg .nil bU (aa (pv 0) (aa (pv 1) aq))))) (by rfl))),?_⟩
  try dsimp only[dw,Cx.kI]
  refine⟨_,rfl,l,rfl,⟨_,cu.of hl⟩,fun acc hacc=>?_⟩
  have nha:h≠acc:=aG hh hacc
  refine abG (xs:=ns.map V.int) (fun i zs σ' H'=>(∃o1 o2,σ'=[o1,o2])/\bY H H'/\H' acc=some (.lst zs)/\∃A:Hb->Addr,A .pages=acc/\A .hall=h/\(∀x y:Hb,x.ok i->y.ok i->A x=A y->x=y)/\(∀x:Hb,x.ok i->x≠.hall->H (A x)=none)/\zs=(List.range i).map (fun p=>V.ref (A (.gj p)))/\
   ∀p,p<i->fZ t.aF H' (A (.gj p)) (A (.iM p)) (A (.jJ p)) p (pg0 ns p)) ?_ ?_ ?_ ?_
  ·refine⟨⟨_,_,rfl⟩,aB hacc,aj,fun x=>if x=.hall then h else acc,rfl,rfl,?_,?_,rfl,fun p hp=>absurd hp (Nat.not_lt_zero _)⟩
   ·intro x y hx hy e
    cases x<;>cases y<;>first
     | rfl
     | (exfalso;exact absurd hx (Nat.not_lt_zero _))
     | (exfalso;exact absurd hy (Nat.not_lt_zero _))
     | (exfalso;simp at e;exact nha e)
     | (exfalso;simp at e;exact nha e.symm)
   ·intro x hx hn
    show H (if x=.hall then h else acc)=none
    rw[if_neg hn];exact hacc
  ·rintro i zs σ' H' _ ⟨_,s',ha',_⟩
   exact⟨cu.of (s' _ _ hl),ha'⟩
  ·rintro i y zs σ' H' b hy hi ⟨⟨o1,o2,rfl⟩,s',ha',A,eA,eh,inj,fr,rfl,pgs⟩ hb
   rw[List.length_map]at hi
   have hy':y=.int ns[i]:=by
    rw[List.getElem?_map,List.getElem?_eq_getElem hi]at hy
    exact(Option.some.inj hy).symm
   subst hy'
   refine⟨b,_,rfl,di.of aj,rfl,_,_,rfl,_,_,rfl,rfl,?_⟩
   refine ai1 ?_
   refine⟨_,rfl,_,rfl,fun x dx' hx hdx nx=>?_⟩
   have hx0:H' x=none:=Lv.upd _ hx
   have ayh:H' dx'=none:=Lv.upd _ hdx
   refine⟨x,dx',i,ns[i],rfl,aj,fun r q H3 hr3 hq3 P3 f3 lv3=>⟨rfl,?_⟩⟩
   have fb:∀c o,H' c=some o->H3 c=some o:=fun c o e=>by
    refine f3 c o ?_ (aG e hx0)
    rw[az (aG e hx0),az (aG e ayh),az (aG e hb)]
    exact e
   have hr0:H' r=none:=Lv.upd _ (Lv.upd _ (Lv.upd _ hr3))
   have hq0:H' q=none:=Lv.upd _ (Lv.upd _ (Lv.upd _ hq3))
   have ha3:=fb _ _ ha'
   have live:∀z:Hb,z.ok i->∃o,H' (A z)=some o:=fun z hz=>by
    cases z with
    | hall=>rw[eh];exact⟨_,s' _ _ hh⟩
    | pages=>rw[eA];exact⟨_,ha'⟩
    | gj p=>obtain⟨⟨dz,e⟩,_⟩:=pgs p hz;exact⟨_,e⟩
    | iM p=>exact⟨_,(pgs p hz).rl⟩
    | jJ p=>obtain⟨vs,e,_⟩:=(pgs p hz).al;exact⟨_,e⟩
   have nxr:x≠r:=P3.nar
   have nxq:x≠q:=P3.naq
   have nrq:r≠q:=P3.ne
   have hzl:((List.range i).map fun p=>V.ref (A (.gj p))).length<sizeLine:=by rw[List.length_map,List.length_range];lia
   refine wY.mk (by rw[List.length_map];exact hi) ha3 hzl ?_
   have sn:bY H (upd H3 acc (.lst ((List.range i).map (fun p=>V.ref (A (.gj p)))++[.ref x]))):=fC (fun c o e=>fb c o (s' c o e)) hacc
   have tm:b8 H' (upd H3 acc (.lst ((List.range i).map (fun p=>V.ref (A (.gj p)))++[.ref x]))):=(fun c xs e=>lB ha3 c xs (fb c _ e))
   have nn:∀(z:Hb) (a:Addr),z.ok i->H' a=none->A z≠a:=fun z a hz e e2=>by
    obtain⟨o,e3⟩:=live z hz;rw[e2,e]at e3;cases e3
   refine⟨⟨_,_,rfl⟩,sn,aj,jM (jM (jM A (.gj i) x) (.iM i) r) (.jJ i) q,?_,?_,?_,?_,?_,?_⟩
   ·rw[bI _ _ (by intro z;cases z),bI _ _ (by intro z;cases z),bI _ _ (by intro z;cases z)];exact eA
   ·rw[bI _ _ (by intro z;cases z),bI _ _ (by intro z;cases z),bI _ _ (by intro z;cases z)];exact eh
   ·refine V1 (ok:=fun z=>z=.iM i\/z=.gj i\/z.ok i) (V1 (ok:=fun z=>z=.gj i\/z.ok i) (V1 inj (fun z hz=>nn z x hz hx0) (fun z hz=>hz)) ?_ (fun z hz=>hz)) ?_ ?_
    ·intro z hz
     by_cases e:z=.gj i
     ·rw[e,cX];exact nxr
     ·rw[bI _ _ e];exact nn z r (hz.resolve_left e) hr0
    ·intro z hz
     by_cases e:z=.iM i
     ·rw[e,cX];exact nrq
     ·rw[bI _ _ e]
      by_cases e2:z=.gj i
      ·rw[e2,cX];exact nxq
      ·rw[bI _ _ e2];exact nn z q ((hz.resolve_left e).resolve_left e2) hq0
    ·intro z hz
     cases z with
     | hall=>exact .inr (.inr (.inr trivial))
     | pages=>exact .inr (.inr (.inr trivial))
     | gj p =>
       have hz':p<i+1:=hz
       by_cases e:p=i
       ·exact .inr (.inr (.inl (by rw[e])))
       ·exact .inr (.inr (.inr (show p<i by lia)))
     | iM p =>
       have hz':p<i+1:=hz
       by_cases e:p=i
       ·exact .inr (.inl (by rw[e]))
       ·exact .inr (.inr (.inr (show p<i by lia)))
     | jJ p =>
       have hz':p<i+1:=hz
       by_cases e:p=i
       ·exact .inl (by rw[e])
       ·exact .inr (.inr (.inr (show p<i by lia)))
   ·intro z hz hn
    by_cases e1:z=.jJ i
    ·rw[e1,cX];exact bY.free s' hq0
    ·rw[bI _ _ e1]
     by_cases e2:z=.iM i
     ·rw[e2,cX];exact bY.free s' hr0
     ·rw[bI _ _ e2]
      by_cases e3:z=.gj i
      ·rw[e3,cX];exact bY.free s' hx0
      ·rw[bI _ _ e3]
       refine fr z ?_ hn
       cases z with
       | hall=>trivial
       | pages=>trivial
       | gj p=>have hz':p<i+1:=hz;exact show p<i from Nat.lt_of_le_of_ne (Nat.le_of_lt_succ hz') fun y=>e3 (by rw[y])
       | iM p=>have hz':p<i+1:=hz;exact show p<i from Nat.lt_of_le_of_ne (Nat.le_of_lt_succ hz') fun y=>e2 (by rw[y])
       | jJ p=>have hz':p<i+1:=hz;exact show p<i from Nat.lt_of_le_of_ne (Nat.le_of_lt_succ hz') fun y=>e1 (by rw[y])
   ·rw[List.range_succ,List.map_append]
    congr 1
    ·refine List.map_congr_left fun p hp=>?_
     have hp':p<i:=List.mem_range.mp hp
     rw[bI _ _ (by intro z;cases z),bI _ _ (by intro z;cases z),bI _ _ (by intro z;cases z;exact Nat.lt_irrefl _ hp')]
    ·show [V.ref x]=[V.ref _]
     rw[bI _ _ (by intro z;cases z),bI _ _ (by intro z;cases z),cX]
   ·intro p hp
    have akf:∀(c:Addr) (o:HO),H3 c=some o->c≠acc->upd H3 acc (.lst ((List.range i).map (fun p=>V.ref (A (.gj p)))++[.ref x])) c=some o:=fun c o e n=>by rw[az n];exact e
    by_cases e:p=i
    ·subst e
     rw[bI _ _ (by intro z;cases z),bI _ _ (by intro z;cases z),cX,bI _ _ (by intro z;cases z),cX,cX]
     have e0:pg0 ns p=⟨ns[p],none,[],[],0⟩:=by unfold pg0;rw[List.getElem?_eq_getElem hi];rfl
     rw[e0]
     exact P3.keep (lB ha3) (fun o e=>akf _ o e (aG ha' hx0).symm) (fun o e=>akf _ o e (aG ha' hr0).symm) fun o e=>akf _ o e (aG ha' hq0).symm
    ·have hp':p<i:=by lia
     rw[bI _ _ (by intro z;cases z),bI _ _ (by intro z;cases z),bI _ _ (by intro z;cases z;exact e rfl),bI _ _ (by intro z;cases z),bI _ _ (by intro z;cases z;exact e rfl),bI _ _ (by intro z;cases z),bI _ _ (by intro z;cases z;exact e rfl),bI _ _ (by intro z;cases z),bI _ _ (by intro z;cases z)]
     have na:∀z:Hb,z.ok i->z≠.pages->A z≠acc:=fun z hz hn e2=>hn (inj z .pages hz trivial (by rw[e2,eA]))
     exact(pgs p hp').keep tm (fun o e=>akf _ o (fb _ o e) (na (.gj p) hp' (by intro z;cases z))) (fun o e=>akf _ o (fb _ o e) (na (.iM p) hp' (by intro z;cases z))) fun o e=>akf _ o (fb _ o e) (na (.jJ p) hp' (by intro z;cases z))
  ·rintro zs σ' H' ⟨_,s',ha',A,eA,eh,inj,fr,rfl,pgs⟩
   rw[List.length_map]at inj fr ha' pgs
   refine⟨_,rfl,h,_,dx,[],rfl,s' _ _ hh,T.ah6,T.pD,(by show 0<1000;decide),?_⟩
   rw[alD]
   have live:∀z:Hb,z.ok ns.length->z≠.hall->A z≠h:=fun z hz hn e=>hn (inj z .hall hz trivial (by rw[e,eh]))
   have tm:b8 H' (upd H' h (.ins t.gQ dx (hfl acc))):=fun c xs e=>by rw[az (jq e (s' _ _ hh) (by intro z;cases z))];exact e
   have kk:∀z:Hb,z.ok ns.length->z≠.hall->∀o,H' (A z)=some o->upd H' h (.ins t.gQ dx (hfl acc)) (A z)=some o:=fun z hz hn o e=>by rw[az (live z hz hn)];exact e
   refine k A _ eh fr ⟨inj,⟨dx,by rw[eh,eA,aj]⟩,?_,fun p hp=>?_⟩ (fun b o e hb=>by rw[az hb];exact s' b o e) ((Lv.same s').trans Lv.upd)
   ·rw[eA,az (by rw[<-eA];exact live .pages trivial (by intro z;cases z))];exact ha'
   ·exact(pgs p hp).keep tm (kk (.gj p) hp (by intro z;cases z)) (kk (.iM p) hp (by intro z;cases z)) (kk (.jJ p) hp (by intro z;cases z))
end
end gH
namespace gH
open PySem L2
theorem eG{H:Hp}{a:Addr}{kvs:List (Key×V)}{k:Key}{v:V}(h:H a=some (.dK kvs))(e:fP kvs k=some v):Hg H a (kV k) (some v):=by rw[<-e];exact Hg.k h
theorem dput{H:Hp}{a:Addr}{kvs kvs':List (Key×V)}{k:Key}{v:V}(h:H a=some (.dK kvs))(hl:kvs.length<sizeLine)(e:putK kvs k v=kvs'):ahI H a (kV k) v (upd H a (.dK kvs')):=by rw[<-e];exact ahI.k h hl
theorem avb{x y:V}{c:Bool}:Py [x,y] (if c then 1 else 0)=some (if c then y else x):=by cases c<;>rfl
def Bj(S:TS)(se:List (Nat×Let))(k:Nat):Prop:=(∀d,(S.dn d).length+k<=16000000)/\se.length+k<=16000000
def ar6:Sp:=fun vs H Q _=>∃A n m S se,∃p:Nat,∃d x l,vs=[.ref (A .bf),.int p]/\aZ H A n m S se/\p<m/\(S.pg p).ask=(d,x)::l/\(x=.rd\/x=.wr)/\(∀q∈(S.pg p).dD p,q.1<n)/\(S.pg p).rd.length<=1000000/\Bj S se ((S.pg p).dD p).length/\
 ∀H',aZ H' A n m {S with dn:=post S.dn ((S.pg p).dD p)} (se++(S.pg p).dD p)->mK H H' A n m->Q (.int ((S.pg p).dD p).length) H'
def Xo(x:Nat×Let):D:=match x.2 with
 | .back _ r=>.t [.i x.1,.s r.s]
 | .lend _ r _=>.t [.i x.1,.s r.s]
theorem rO(l:List (Nat×Let)):D.flats (l.map Xo):=bW (fun x=>by obtain⟨d,l⟩:=x;cases l<;>simp[Xo,D.flat,D.flats]) l
def ayi(p:Nat)(x:Nat×Let):Prop:=∃r,x.2=.back p r
theorem an5(g:PG)(p:Nat):∀q∈g.dD p,ayi p q:=by
 intro q hq
 unfold PG.dD at hq
 split at hq
 ·cases hq
 ·rename_i a r l _
  rcases List.mem_append.mp hq with h | h
  ·unfold pH at h
   split at h
   ·split at h
    ·cases h
    ·have this:=List.mem_singleton.mp h
     rw[this];exact⟨_,rfl⟩
   ·cases h
  ·unfold pI at h
   split at h
   ·obtain⟨d,_,e⟩:=List.mem_map.mp h
    rw[<-e];exact⟨_,rfl⟩
   ·cases h
theorem alT{H:Hp}{vs:List V}{l:List (Nat×Let)}{i:Nat}{v:V}(r:aH H vs (l.map Xo))(hv:vs[i]? = some v):∃x,l[i]? = some x/\Rep H v (Xo x):=by
 induction l generalizing vs i with
 | nil=>have:=aH.nil_inv (by simpa using r);subst this;simp at hv
 | cons x l ih =>
   obtain⟨u,us,rfl,r1,r2⟩:=aH.cons_inv (by simpa using r)
   cases i with
   | zero=>simp at hv;subst hv;exact⟨x,rfl,r1⟩
   | succ i=>simp at hv;obtain⟨y,h1,h2⟩:=ih r2 hv;exact⟨y,by simpa using h1,h2⟩
section
variable{P:Program}{w:World}{K:PySem.W.Frag}{mg:Str->Option Value}{base:Heap}{t:Jh}
theorem alU(T:Txt K w mg t):c7 P w K mg base nP 1 t.uR t.WW ["_law_town","_law_page"] ar6:=by
 refine T.ajk.ok pL (fun vs H Q E h=>?_) (fun cdv A outer s H vs Q E hr h=>?_)
 ·obtain⟨A,n,m,S,se,p,d,x,l,rfl,_⟩:=h;rfl
 ·obtain⟨A,n,m,S,se,p,d,x,l,rfl,M,hp,ha,hx,hn,hrd,hro,k⟩:=h
  have hu:=kZ hr
  have sl:sizeLine=16777216:=by decide
  refine⟨_,(ao (bh (i:=2) pL.nd rfl (Or.inl rfl) (aN bB (bG hu (pv 0) aD (fun _ _=>rfl)) (pv 1) (fun _ _=>rfl)))
   (ao (yI (aN bB (bG hu (pv 2) aD (fun _ _=>rfl)) aA (fun _ _=>rfl)) (Pq rfl (gG (cU (i:=3) pL.nd rfl (Or.inr rfl)) (gG (cU (i:=4) pL.nd rfl (Or.inl rfl)) yH))))
   (ao (bh (i:=5) pL.nd rfl (Or.inl rfl) (bN aq))
   (ao (cg (PW.pt (Pn (aU Wb (bG hu (pv 2) aD (fun _ _=>rfl)) aA (bj _)) (Ks (aU Ao (bG hu (pv 2) aD (fun _ _=>rfl)) (pv 3) (bj _))))) (aC (bO (fj PySem.F.plainAttrs_list PySem.F.slot_list_append PySem.F.type_list_append cH (pv 5) (aa (bZ (aa (bG hu (pv 2) aD (fun _ _=>rfl)) (aa (aN bB (bN (aa aD (aa aD aq))) (iQ lW (by rfl) T.LQ PyProof.Rows.Boot.«int» (aa (mC cQ (pv 4) aD (bj _)) aq)) (fun _ _=>rfl)) aq))) aq)))) bC)
   (ao (cg (aU cQ (pv 4) aD (bj _)) (aC (bh (i:=5) pL.nd rfl (Or.inl rfl) (bF mD (pv 5) (lA (gF (xs:=["_law_one"]) (ys:=["_law_desk"]) (js:=[3]) rfl (by decide +kernel) (by decide +kernel) (by decide +kernel) (by rfl) ⟨⟨rfl,Or.inl rfl⟩,trivial⟩) rfl (uD (bG hu (pv 2) aD (fun _ _=>rfl))) (fun _ _ _ _ _=>(cU (i:=0) (show List.Nodup ((["_law_one"]:List Str)++(["_law_desk"]:List Str):List Str)by decide +kernel) rfl (Or.inl rfl))) (fun _ _ _ _ _=>(V0 (aU Ao (pv 0) (pv 1) (bj _)))) (fun _ _ _ _ _=>(bZ (aa (pv 0) (aa aD aq)))))))) bC)
   (ao (yK PassesOwn.never rfl (uD (pv 5)) (Pq rfl (gG (cU (i:=6) pL.nd rfl (Or.inl rfl)) (gG (cU (i:=7) pL.nd rfl (Or.inl rfl)) yH))) (ao (bO (fj PySem.F.plainAttrs_list PySem.F.slot_list_append PySem.F.type_list_append cH (aN bB (bG hu (pv 0) aD (fun _ _=>rfl)) (pv 6) (fun _ _=>rfl)) (aa (bZ (aa aD (aa (pv 1) (aa (pv 7) aq)))) aq)))
   (aC (bO (fj PySem.F.plainAttrs_list PySem.F.slot_list_append PySem.F.type_list_append cH (bG hu (pv 0) aD (fun _ _=>rfl)) (aa (bZ (aa (pv 6) (aa (bZ (aa aD (aa (pv 1) (aa (pv 7) aq)))) aq))) aq))))))
   (aC (bw (dM dU (by rfl) T.Be PySem.boot_len (aa (pv 5) aq)))))))))),?_⟩
  try dsimp only[dw,Cx.kI]
  show let Z1:L2.TS:=_;let Z2:L2.TS:=_;let Z3:L2.TS:=_;let Z4:L2.TS:=_;let Z5:L2.TS:=dg _ Z4 bK;let Z6:L2.TS:=_;let Z7:L2.TS:=dg _ Z6 bK;let Z8:L2.TS:=_;let Z9:L2.TS:=_;let Bh:L2.TS:=aR Z8 (Z9);let Mh:L2.TS:=ZF _ _ Bh;let Mi:L2.TS:=_;let D0:Ends:=_;(aR Z1 (aR Z2 (aR Z3 (aR Z5 (aR Z7 (aR Mh (Mi))))))) D0 _ _
  intro Z1 Z2 Z3 Z4 Z5 Z6 Z7 Z8 Z9 Bh Mh Mi D0
  obtain⟨as,h3,h4⟩:=M.jJ hp
  rw[ha]at h4
  obtain⟨tt,us,rfl,h6,h7⟩:=GZ h4
  have hsh:=M.bR hp
  refine Tg rfl (eG M.bf jV) rfl (cu.of M.cV) (bM hp) ?_
  refine zd rfl (eG hsh G9) ⟨A (.jJ p),_,0,_,rfl,rfl,cu.of h3,arH _ _,tt,_,rfl,di.of h6,rfl,_,_,rfl,_,_,rfl,rfl,?_⟩
  refine⟨Dw,fun bl hb=>?_⟩
  generalize hg:S.pg p=g at *
  have hbl:g.dD p=pH g p d x++pI g p d x:=by unfold PG.dD;rw[ha]
  have s0:=aB (o:=.lst []) hb
  try dsimp only[bK]
  refine fW (fun σ' H'=>σ'=[some (.ref (A .bf)),some (.int p),some (.ref (A (.bR p))),some (.int d),some (.str x.s),some (.ref bl),none,none]/\bY H H'/\∃us,H' bl=some (.lst us)/\us.length<=1/\aH H' us ((pH g p d x).map Xo)) (fun N hN=>?_) ?_
  ·have l0:=s0 _ _ hsh
   refine zd rfl (eG l0 su) ⟨_,_,rfl,rfl,_,rfl,?_⟩
   cases hw:g.wr with
   | none =>
     refine aP rfl (uB ?_)
     exact hN _ _ ⟨rfl,s0,[],aj,Nat.zero_le _,by rw[Xm hw];simp[aH]⟩
   | some wv =>
     refine bH (decide_eq_true (Int.natCast_nonneg _)) ?_
     have l1:fP (yF g (A (.iM p)) (A (.jJ p))) (ks "writer")=some (.int wv):=by rw[su,hw];rfl
     refine zd rfl (eG l0 l1) ⟨_,rfl,rfl,_,rfl,?_⟩
     by_cases e:wv=d
     ·subst e
      refine aP (by simp) ?_
      exact hN _ _ ⟨rfl,s0,[],aj,Nat.zero_le _,by rw[abQ hw];simp[aH]⟩
     ·refine bH (by rw[decide_eq_false fun z=>e (by have:=V.int.inj z;lia)];rfl) ?_
      refine⟨_,rfl,.inl ⟨rfl,_,cu.of aj⟩,zd rfl (eG l0 l1) ⟨uA,fun z hz=>?_⟩⟩
      have s1:bY (upd H bl (.lst [])) (upd (upd H bl (.lst [])) z (.lst [.str "none",.str "read"])):=aB hz
      refine⟨_,rfl,rfl,.inr ⟨_,rfl,z,_,_,.str (low x).s,rfl,rfl,cu.of aj,?_,uA,fun c hc=>?_⟩⟩
      ·rcases hx with hx | hx<;>subst hx<;>kernel_rfl
      ·have nz:bl≠z:=fun y=>by rw[<-y,aj]at hz;cases hz
       have nc:bl≠c:=fun y=>by rw[<-y,az nz,aj]at hc;cases hc
       refine⟨bl,[],_,rfl,rfl,(by rw[az nc,az nz,aj]),(by show 0<sizeLine;decide),?_⟩
       refine hN _ _ ⟨rfl,fC ((s0.trans s1).trans (aB hc)) hb,_,aj,Nat.le_refl _,?_⟩
       rw[RK hw e]
       simp only[List.map_cons,List.map_nil,aH,Xo,Rep]
       exact⟨_,_,rfl,⟨c,_,rfl,by rw[az nc.symm,aj],_,_,rfl,rfl,_,_,rfl,rfl,rfl⟩,rfl⟩
  ·rintro σ' H1 ⟨rfl,s1,us1,hb1,hl1,rp1⟩
   try dsimp only[bK]
   refine fW (fun σ' H'=>∃b2 us,σ'=[some (.ref (A .bf)),some (.int p),some (.ref (A (.bR p))),some (.int d),some (.str x.s),some (.ref b2),none,none]/\bY H H'/\H b2=none/\H' b2=some (.lst us)/\aH H' us ((g.dD p).map Xo)) (fun N hN=>?_) ?_
   ·refine⟨_,rfl,rfl,_,rfl,?_⟩
    rcases hx with hx | hx
    ·subst hx
     refine aP (nQ (x:="write") (q:=.wr) rfl (by intro z;cases z)) ?_
     refine hN _ _ ⟨bl,us1,rfl,s1,hb,hb1,?_⟩
     have:pI g p d .rd=[]:=by unfold pI;rw[if_neg (by intro z;cases z)]
     rw[hbl,this,List.append_nil]
     exact rp1
    ·subst hx
     refine bH fD ?_
     have hrl:H1 (A (.iM p))=some (.lst (g.rd.map nV)):=by have:=s1 _ _ (M.iM hp);rw[hg]at this;exact this
     refine⟨_,rfl,zd rfl (eG (s1 _ _ hsh) uK) ⟨A (.iM p),rfl,⟨_,cu.of hrl⟩,fun acc hacc=>?_⟩⟩
     have nbl:bl≠acc:=aG hb1 hacc
     let PV1:Nat->List V->St->Hp->Prop:=fun i zs σ' H'=>(∃o,σ'=[o,some (.int d)])/\bY H1 H'/\H' acc=some (.lst zs)/\zs.length<=i/\aH H' zs ((((g.rd.take i).filter fun e=>decide (e≠d)).map fun e=>(e,Let.back p .no)).map Xo)
     refine abF (xs:=g.rd.map nV) PV1 ?_ ?_ ?_ ?_
     ·exact⟨⟨_,rfl⟩,aB hacc,aj,Nat.le_refl _,by simp[aH]⟩
     ·rintro i zs σ' H' _ ⟨_,s',ha',_⟩
      exact⟨cu.of (s' _ _ hrl),ha'⟩
     ·rintro i y zs σ' H' hy hi ⟨⟨o,rfl⟩,s',ha',hz,rp⟩
      rw[List.length_map]at hi
      have hy':y=.int (g.rd[i]:Nat):=by
       rw[List.getElem?_map,List.getElem?_eq_getElem hi]at hy
       exact(Option.some.inj hy).symm
      subst hy'
      have htk:g.rd.take (i+1)=g.rd.take i++[g.rd[i]]:=by rw[List.take_add_one,List.getElem?_eq_getElem hi];rfl
      refine⟨_,rfl,_,rfl,rfl,_,rfl,?_⟩
      by_cases e:g.rd[i]=d
      ·refine aP (by rw[e];simp) (KR.mk (by rw[List.length_map];exact hi) ?_)
       refine⟨⟨_,rfl⟩,s',ha',by lia,?_⟩
       rw[htk,List.filter_append,List.filter_cons_of_neg (by simp[e])]
       simpa using rp
      ·refine bH (by rw[decide_eq_false fun z=>e (by have:=V.int.inj z;lia)];rfl) ?_
       refine⟨_,rfl,uA,fun cc hc2=>?_⟩
       have nc:acc≠cc:=aG ha' hc2
       have h6':upd H' cc (.tup [.int (g.rd[i]:Nat),.str "none"]) acc=some (.lst zs):=by rw[az nc];exact ha'
       refine wY.mk (by rw[List.length_map];exact hi) h6' (by lia) ?_
       have sup:=aB (o:=.tup [.int (g.rd[i]:Nat),.str "none"]) hc2
       refine⟨⟨_,rfl⟩,fC (s'.trans sup) hacc,aj,by rw[List.length_append];simp;lia,?_⟩
       rw[htk,List.filter_append,List.filter_cons_of_pos (by simp[e]),List.filter_nil,List.map_append,List.map_append]
       have tm:=lB (vs:=zs++[.ref cc]) h6'
       refine aH.snoc ((rp.aX (aY sup) (rO _)).aX tm (rO _)) ?_
       simp only[Xo,Rep,aH]
       exact⟨cc,_,rfl,by rw[az nc.symm,aj];rfl,_,_,rfl,rfl,_,_,rfl,rfl,rfl⟩
     ·rintro zs σ' H' ⟨_,s',ha',hz,rp⟩
      rw[List.length_map]at hz rp
      rw[List.take_length]at rp
      have hb':=s' _ _ hb1
      refine⟨bl,acc,us1,zs,rfl,rfl,hb',ha',by lia,fun c hc=>?_⟩
      have hcn:H c=none:=Lv.same (s1.trans s') _ hc
      refine hN _ _ ⟨c,_,rfl,(s1.trans s').trans (aB hc),hcn,aj,?_⟩
      have hrb:pI g p d .wr=(g.rd.filter fun e=>decide (e≠d)).map fun e=>(e,Let.back p .no):=by unfold pI;rw[if_pos rfl]
      rw[hbl,List.map_append,hrb]
      have tm:=aY (aB (o:=.lst (us1++zs)) hc)
      exact aH.append ((rp1.aX (aY s') (rO _)).aX tm (rO _)) (rp.aX tm (rO _))
   ·rintro σ' H2 ⟨b2,us2,rfl,s2,ayj,hb2,rp2⟩
    have M2:=M.same s2
    have hlen:us2.length=(g.dD p).length:=by rw[rp2.length,List.length_map]
    refine⟨_,rfl,b2,rfl,⟨_,cu.of hb2⟩,?_⟩
    let PV2:Nat->St->Hp->Prop:=fun i σ' H'=>(∃o1 o2,σ'=[some (.ref (A .bf)),some (.int p),some (.ref (A (.bR p))),some (.int d),some (.str x.s),some (.ref b2),o1,o2])/\i<=us2.length/\aZ H' A n m {S with dn:=post S.dn ((g.dD p).take i)} (se++(g.dD p).take i)/\mK H H' A n m/\H' b2=some (.lst us2)/\aH H' us2 ((g.dD p).map Xo)
    refine wV (xs:=us2) PV2 ?_ ?_ ?_ ?_
    ·refine⟨⟨_,_,rfl⟩,Nat.zero_le _,?_,mK.of_same s2,hb2,rp2⟩
     simpa[post] using M2
    ·rintro i σ' H' _ ⟨_,_,_,_,hb',_⟩
     exact cu.of hb'
    ·rintro i y σ' H' hy ⟨⟨o1,o2,rfl⟩,hi,M',f',hb',rp'⟩
     obtain⟨q,hq,rq⟩:=alT rp' hy
     have hqm:q∈g.dD p:=List.mem_of_getElem? hq
     obtain⟨r,hbk⟩:=an5 g p q hqm
     have hqn:=hn q hqm
     obtain⟨qd,ql⟩:=q
     have ayk:ql=.back p r:=hbk
     subst ayk
     have ar8:qd<n:=hqn
     simp only[Xo,Rep,aH]at rq
     obtain⟨c,xs,rfl,hc,_,_,rfl,rfl,_,_,rfl,rfl,rfl⟩:=rq
     have hi':i<us2.length:=(List.getElem?_eq_some_iff.mp hy).1
     have htk:(g.dD p).take (i+1)=(g.dD p).take i++[(qd,.back p r)]:=by rw[List.take_add_one,hq];rfl
     refine⟨c,_,rfl,di.of hc,rfl,_,_,rfl,_,_,rfl,rfl,?_⟩
     obtain⟨dv,d1,d2⟩:=M'.dn ar8
     have hlb:((g.dD p).take i).length=i:=by rw[List.length_take];lia
     have hdl:dv.length<sizeLine:=by
      rw[d2.length,List.length_map]
      show(post S.dn ((g.dD p).take i) qd).length<_
      have:=KZ S.dn ((g.dD p).take i) qd
      have:=hro.1 qd
      lia
     refine Tg rfl (eG M'.bf xm) rfl (cu.of M'.downs) (bM ar8) ⟨.inl ⟨rfl,_,cu.of d1⟩,_,rfl,_,rfl,Zy,fun b hbn=>?_⟩
     have s3:=aB (o:=.tup [.str "back",.int p,.str r.s]) hbn
     refine⟨A (.dn qd),dv,_,rfl,rfl,s3 _ _ d1,hdl,?_⟩
     have rp3:aH (upd H' b (.tup [.str "back",.int p,.str r.s])) (dv++[.ref b]) ((post S.dn ((g.dD p).take i) qd++[Let.back p r]).map Let.d):=by
      rw[List.map_append]
      refine aH.snoc (d2.aX (aY s3) (bW Let.flat _)) ?_
      simp only[Let.d,Rep,aH]
      exact⟨b,_,rfl,aj,_,_,rfl,rfl,_,_,rfl,rfl,_,_,rfl,rfl,rfl⟩
     obtain⟨M4,f4⟩:=(M'.same s3).aj6 ar8 rp3
     have f34:mK H' (upd (upd H' b (.tup [.str "back",.int p,.str r.s])) (A (.dn qd)) (.lst (dv++[.ref b]))) A n m:=(mK.of_same s3).trans f4 (Mv.refl _ _ _ _)
     generalize upd (upd H' b (.tup [.str "back",.int p,.str r.s])) (A (.dn qd)) (.lst (dv++[.ref b]))=H4 at M4 f34
     obtain⟨sv,e1,e2⟩:=M4.sent
     have hsl:sv.length<sizeLine:=by
      rw[e2.length,List.length_map,List.length_append]
      have:=hro.2
      lia
     refine zd rfl (eG M4.bf afI) ⟨.inl ⟨rfl,_,cu.of e1⟩,_,rfl,_,rfl,_,rfl,Zy,fun b' ayl=>⟨uA,fun c' asa=>?_⟩⟩
     have s5:=(aB (o:=.tup [.str "back",.int p,.str r.s]) ayl).trans (aB (o:=.tup [.int qd,.ref b']) asa)
     have nbc:b'≠c':=fun z=>by rw[z,aj]at asa;cases asa
     refine⟨A .sent,sv,_,rfl,rfl,s5 _ _ e1,hsl,?_⟩
     have rp5:aH (upd (upd H4 b' (.tup [.str "back",.int p,.str r.s])) c' (.tup [.int qd,.ref b'])) (sv++[.ref c']) ((se++(g.dD p).take i++[(qd,Let.back p r)]).map pairD):=by
      rw[List.map_append (l₂:=[_])]
      exact aH.snoc (e2.aX (aY s5) (cY _)) (Jq (b:=b') (vs:=[]) aj (by rw[az nbc,aj]))
     obtain⟨M6,f6⟩:=(M4.same s5).alG rp5
     have f46:=(mK.of_same (A:=A) (n:=n) (m:=m) s5).trans f6 (Mv.refl _ _ _ _)
     have avd:∀x:Mb,x.ok n m->b2≠A x:=fun x hx z=>M.DX hx ayj z.symm
     have hb4:=f46.kp b2 _ (f34.kp b2 _ hb' avd) avd
     have t6:b8 H' _:=(f34.tups M').trans (f46.tups M4)
     refine⟨⟨_,_,rfl⟩,hi',?_,(f'.trans f34 (Mv.refl _ _ _ _)).trans f46 (Mv.refl _ _ _ _),hb4,rp'.aX t6 (rO _)⟩
     rw[htk,abI,<-List.append_assoc]
     exact M6
    ·rintro σ' H3 ⟨⟨o1,o2,rfl⟩,_,M3,f3,hb3,_⟩
     rw[hlen,List.take_length]at M3
     refine⟨_,rfl,b2,us2,rfl,.inl (cu.of hb3),?_⟩
     rw[hlen]
     exact k H3 M3 f3
end
end gH
namespace gH
open PySem L2
def TS.wC(S:TS)(p:Nat)(g:PG)(acc:List (Nat×Let)):TS:={S with pg:=bL S.pg p g,dn:=post S.dn acc}
theorem TS.b7(S:TS)(p:Nat)(g:PG)(acc:List (Nat×Let)):(S.wC p g acc).pg p=g:=aL _ _ _
theorem TS.asb(S:TS)(p:Nat)(g:PG)(acc bs:List (Nat×Let)):{S.wC p g acc with dn:=post (S.wC p g acc).dn bs}=S.wC p g (acc++bs):=by unfold TS.wC;simp only[pJ]
theorem TS.nj(S:TS)(p:Nat)(g g':PG)(acc:List (Nat×Let)):{S.wC p g acc with pg:=bL (S.wC p g acc).pg p g'}=S.wC p g' acc:=by unfold TS.wC;simp only[lY]
theorem TS.ajp(S:TS)(p:Nat):S.wC p (S.pg p) []=S:=by unfold TS.wC;rw[yQ];rfl
def an7:Sp:=fun vs H Q _=>∃A n m S se,∃p:Nat,vs=[.ref (A .bf),.int p]/\aZ H A n m S se/\p<m/\(S.pg p).ask≠[]/\Tf n (S.pg p)/\(S.pg p).rd.length<=1000000/\Bj S se 1/\
 ∀A' H',aZ H' A' n m (S.wC p (S.pg p).lent ((S.pg p).dO p)) (se++(S.pg p).dO p)->mK H H' A n m->Mv H A A' n m->Q .non H'
def alV:Sp:=fun vs H Q _=>∃A n m S se,∃p:Nat,vs=[.ref (A .bf),.int p]/\aZ H A n m S se/\p<m/\Tf n (S.pg p)/\(S.pg p).mu<=1000000/\Bj S se (4*(S.pg p).mu+4)/\
 ∀A' H' z,z=(if(S.pg p).miss=0 then(S.pg p).serve p else(S.pg p,[]))->aZ H' A' n m (S.wC p z.1 z.2) (se++z.2)->mK H H' A n m->Mv H A A' n m->Q .non H'
section
variable{P:Program}{w:World}{K:PySem.W.Frag}{mg:Str->Option Value}{base:Heap}{t:Jh}
theorem HD(T:Txt K w mg t):c7 P w K mg base nP 1 t.iC t.wg ["_law_town","_law_page"] an7:=by
 refine T.zL.ok lr (fun vs H Q E h=>?_) (fun cdv A outer s H vs Q E hr h=>?_)
 ·obtain⟨A,n,m,S,se,p,rfl,_⟩:=h;rfl
 ·obtain⟨A,n,m,S,se,p,rfl,M,hp,hne,hgn,hrd,hro,k⟩:=h
  have hu:=kZ hr
  have sl:sizeLine=16777216:=by decide
  cases ha:(S.pg p).ask with
  | nil=>exact absurd ha hne
  | cons x0 l =>
  obtain⟨d,x⟩:=x0
  obtain⟨hdn,hx⟩:=hgn.q (d,x) (by rw[ha];simp)
  refine⟨_,(ao (bh (i:=2) lr.nd rfl (Or.inl rfl) (aN bB (bG hu (pv 0) aD (fun _ _=>rfl)) (pv 1) (fun _ _=>rfl)))
   (ao (yI (fj PySem.F.plainAttrs_list PySem.F.slot_list_pop PySem.F.type_list_pop DG (bG hu (pv 2) aD (fun _ _=>rfl)) (aa aA aq)) (Pq rfl (gG (cU (i:=3) lr.nd rfl (Or.inl rfl)) (gG (cU (i:=4) lr.nd rfl (Or.inl rfl)) yH))))
   (ao (cg (aU cQ (pv 4) aD (bj _)) (ao (lz hu (pv 2) aD (bN aq) (by rfl))
   (aC (lz hu (pv 2) aD (pv 3) (by rfl)))) (ao (cg (aU Wb (bG hu (pv 2) aD (fun _ _=>rfl)) aA (bj _)) (aC (bO (fj PySem.F.plainAttrs_list PySem.F.slot_list_append PySem.F.type_list_append cH (bG hu (pv 2) aD (fun _ _=>rfl)) (aa (bG hu (pv 2) aD (fun _ _=>rfl)) aq)))) bC)
   (ao (lz hu (pv 2) aD (Rr Dy aA) (by rfl))
   (aC (cg (aU KC (pv 3) (bG hu (pv 2) aD (fun _ _=>rfl)) (by rfl)) (aC (bO (fj PySem.F.plainAttrs_list PySem.F.slot_list_append PySem.F.type_list_append cH (bG hu (pv 2) aD (fun _ _=>rfl)) (aa (pv 3) aq)))) bC)))))
   (ao (bh (i:=5) lr.nd rfl (Or.inl rfl) (bZ (aa aD (aa (pv 1) (aa (pv 4) (aa (bG hu (pv 2) aD (fun _ _=>rfl)) aq))))))
   (ao (bO (fj PySem.F.plainAttrs_list PySem.F.slot_list_append PySem.F.type_list_append cH (aN bB (bG hu (pv 0) aD (fun _ _=>rfl)) (pv 3) (fun _ _=>rfl)) (aa (pv 5) aq)))
   (aC (bO (fj PySem.F.plainAttrs_list PySem.F.slot_list_append PySem.F.type_list_append cH (bG hu (pv 0) aD (fun _ _=>rfl)) (aa (bZ (aa (pv 3) (aa (pv 5) aq))) aq))))))))),?_⟩
  try dsimp only[dw,Cx.kI]
  show let Z1:L2.TS:=_;let Z2:L2.TS:=_;let Z3:L2.TS:=_;let Z4:L2.TS:=_;let Z5:L2.TS:=aR Z3 (Z4);let Z6:L2.TS:=_;let Z7:L2.TS:=dg _ Z6 bK;let Z8:L2.TS:=_;let Z9:L2.TS:=_;let Bh:L2.TS:=dg _ Z9 bK;let Mh:L2.TS:=aR Z7 (aR Z8 (Bh));let Mi:L2.TS:=dg _ Z5 Mh;let RL:L2.TS:=_;let RM:L2.TS:=_;let Z15:L2.TS:=_;let D0:Ends:=_;(aR Z1 (aR Z2 (aR Mi (aR RL (aR RM (Z15)))))) D0 _ _
  intro Z1 Z2 Z3 Z4 Z5 Z6 Z7 Z8 Z9 Bh Mh Mi RL RM Z15 D0
  obtain⟨as,h3,h4⟩:=M.jJ hp
  rw[ha]at h4
  obtain⟨tt,us,rfl,h6,h7⟩:=GZ h4
  refine Tg rfl (eG M.bf jV) rfl (cu.of M.cV) (bM hp) ?_
  refine zd rfl (eG (M.bR hp) G9) ⟨.inl ⟨rfl,_,cu.of h3⟩,A (.jJ p),_,0,0,_,rfl,rfl,h3,(by decide),(by decide),aly _ _,rfl,?_⟩
  rw[List.eraseIdx_cons_zero]
  obtain⟨M1,f1⟩:=M.aqc hp (l:=l) h7
  have t1:upd H (A (.jJ p)) (.lst us) tt=some (.tup [.int d,.str x.s]):=(f1.tups M) tt _ h6
  generalize upd H (A (.jJ p)) (.lst us)=H1 at M1 f1 t1
  refine⟨tt,_,rfl,di.of t1,rfl,_,_,rfl,_,_,rfl,rfl,?_⟩
  have M1':aZ H1 A n m (S.wC p {S.pg p with ask:=l} []) se:=M1
  have xZ:(S.pg p).lent=if x=.wr then jr {S.pg p with ask:=l} d else ji {S.pg p with ask:=l} d:=by unfold PG.lent;rw[ha]
  have hnum:(S.pg p).lent.num=(S.pg p).num:=by rw[xZ];split<;>rfl
  have hl1:(S.pg p).dO p=[(d,.lend p x (S.pg p).num)]:=by unfold PG.dO;rw[ha]
  try dsimp only[bK]
  refine fW (fun σ' H'=>∃A',σ'=[some (.ref (A .bf)),some (.int p),some (.ref (A (.bR p))),some (.int d),some (.str x.s),none]/\aZ H' A' n m (S.wC p (S.pg p).lent []) se/\mK H H' A n m/\Mv H A A' n m) (fun N hN=>?_) ?_
  ·refine⟨_,rfl,rfl,_,rfl,?_⟩
   rcases hx with hx | hx
   ·subst hx
    refine aP (nQ (x:="write") (q:=.wr) rfl (by intro z;cases z)) ?_
    rw[if_neg (by intro z;cases z)]at xZ
    generalize hg1:({S.pg p with ask:=l}:PG)=g1 at M1' xZ
    have hgr:g1.rd=(S.pg p).rd:=by rw[<-hg1]
    have ah9:=M1'.bR hp
    rw[TS.b7]at ah9
    have asd:=M1'.iM hp
    rw[TS.b7]at asd
    try dsimp only[bK]
    have fin:∀H2,aZ H2 A n m (S.wC p {g1 with wr:=none,rd:=g1.rd++g1.wr.toList} []) se->mK H H2 A n m->
     (dg (afh (Wa (rIn K true) (jf 3) (Wl (jf 2) (tC (.str "readers"))))) (aiM (tBM K "list" KD (Wl (jf 2) (tC (.str "readers"))) (lX (jf 3) Hf))) bK) {nx:=N,rt:=Q} [some (.ref (A .bf)),some (.int p),some (.ref (A (.bR p))),some (.int d),some (.str Rt.rd.s),none] H2:=fun H2 M2 f2=>by
     have hsh:=M2.bR hp
     rw[TS.b7]at hsh
     have hrr:=M2.iM hp
     rw[TS.b7]at hrr
     refine⟨_,rfl,zd rfl (eG hsh uK) ⟨A (.iM p),_,rfl,.inl (cu.of hrr),rfl,age _,_,rfl,?_⟩⟩
     have e0:(if true=true then !inV (.int d) ((g1.rd++g1.wr.toList).map nV)else inV (.int d) ((g1.rd++g1.wr.toList).map nV)) = !decide (d∈g1.rd++g1.wr.toList):=by rw[if_pos rfl,ajo]
     rw[e0]
     by_cases e:d∈g1.rd++g1.wr.toList
     ·refine aP (by rw[decide_eq_true e];rfl) ?_
      refine hN _ _ ⟨A,rfl,?_,f2,Mv.refl _ _ _ _⟩
      rw[xZ]
      unfold ji
      rw[if_pos e]
      exact M2
     ·refine bH (by rw[decide_eq_false e];rfl) ?_
      refine zd rfl (eG hsh uK) ⟨.inl ⟨rfl,_,cu.of hrr⟩,_,rfl,A (.iM p),_,_,rfl,rfl,hrr,?_,?_⟩
      ·have hw:g1.wr.toList.length<=1:=by cases g1.wr<;>simp
       rw[List.length_map,List.length_append,hgr];lia
      ·obtain⟨M3,f3⟩:=M2.aqb hp (l:=g1.rd++g1.wr.toList++[d])
       rw[TS.b7,TS.nj,List.map_append (l₂:=[d])]at M3
       rw[List.map_append (l₂:=[d])]at f3
       refine hN _ _ ⟨A,rfl,?_,f2.trans f3 (Mv.refl _ _ _ _),Mv.refl _ _ _ _⟩
       rw[xZ]
       unfold ji
       rw[if_neg e]
       exact M3
    refine fW (fun σ' H'=>σ'=[some (.ref (A .bf)),some (.int p),some (.ref (A (.bR p))),some (.int d),some (.str Rt.rd.s),none]/\aZ H' A n m (S.wC p {g1 with rd:=g1.rd++g1.wr.toList} []) se/\mK H H' A n m) (fun N' hN'=>?_) ?_
    ·refine zd rfl (eG ah9 su) ⟨_,_,rfl,rfl,_,rfl,?_⟩
     cases hw:g1.wr with
     | none =>
       refine aP rfl ?_
       refine hN' _ _ ⟨rfl,?_,f1⟩
       have e:({g1 with rd:=g1.rd++g1.wr.toList}:PG)=g1:=by rw[hw];cases g1;simp_all
       rw[e];exact M1'
     | some wv =>
       refine bH (decide_eq_true (Int.natCast_nonneg _)) ?_
       have l1:fP (yF g1 (A (.iM p)) (A (.jJ p))) (ks "writer")=some (.int wv):=by rw[su,hw];rfl
       refine zd rfl (eG ah9 uK) ⟨.inl ⟨rfl,_,cu.of asd⟩,zd rfl (eG ah9 l1) ⟨A (.iM p),_,_,rfl,rfl,asd,(by rw[List.length_map,hgr];lia),?_⟩⟩
       obtain⟨M3,f3⟩:=M1'.aqb hp (l:=g1.rd++[wv])
       rw[TS.b7,TS.nj,List.map_append (l₂:=[wv])]at M3
       rw[List.map_append (l₂:=[wv])]at f3
       have e:({g1 with rd:=g1.rd++g1.wr.toList}:PG)={g1 with rd:=g1.rd++[wv]}:=by rw[hw];rfl
       exact hN' _ _ ⟨rfl,by rw[e];exact M3,f1.trans f3 (Mv.refl _ _ _ _)⟩
    ·rintro σ' H2 ⟨rfl,M2,f2⟩
     have hsh:=M2.bR hp
     rw[TS.b7]at hsh
     refine⟨_,rfl,_,rfl,A (.bR p),_,rfl,dput hsh uM DR,?_⟩
     obtain⟨M3,f3⟩:=M2.yS hp (g:={g1 with wr:=none,rd:=g1.rd++g1.wr.toList}) (by rw[TS.b7]) (by rw[TS.b7])
     rw[TS.nj]at M3
     exact fin _ M3 (f2.trans f3 (Mv.refl _ _ _ _))
   ·subst hx
    refine bH fD ?_
    rw[if_pos rfl]at xZ
    generalize hg1:({S.pg p with ask:=l}:PG)=g1 at M1' xZ
    have ah9:=M1'.bR hp
    rw[TS.b7]at ah9
    refine⟨Dw,fun r' hr'=>?_⟩
    obtain⟨M2,f2,mv2⟩:=M1'.arJ hp hr' (l:=[])
    rw[TS.b7]at M2 f2
    rw[TS.nj]at M2
    have hr0:H r'=none:=f1.lv _ hr'
    refine⟨_,rfl,A (.bR p),_,rfl,dput (aB hr' _ _ ah9) uM (Wx (l:=[])),?_⟩
    have aae:=M2.bR hp
    rw[TS.b7,bI _ _ (by intro z;cases z),cX,bI _ _ (by intro z;cases z)]at aae
    obtain⟨M3,f3⟩:=M2.yS hp (g:=jr g1 d) (by rw[TS.b7];rfl) (by rw[TS.b7];rfl)
    rw[TS.nj]at M3
    rw[bI _ _ (by intro z;cases z),cX,bI _ _ (by intro z;cases z)]at M3 f3
    refine⟨_,rfl,_,rfl,A (.bR p),_,rfl,dput aae uM Ww,?_⟩
    have mv:Mv H A (jM A (.iM p) r') n m:=fun z hz=>(mv2 z hz).imp id fun e=>⟨e.1,f1.lv _ e.2⟩
    refine hN _ _ ⟨jM A (.iM p) r',rfl,?_,?_,mv⟩
    ·rw[xZ];exact M3
    ·exact(f1.trans f2 (Mv.refl _ _ _ _)).trans f3 mv
  ·rintro σ' H2 ⟨A2,rfl,M2,f2,mv2⟩
   have hA:A2 .bf=A .bf:=mv2.bf
   have hAs:A2 (.bR p)=A (.bR p):=(mv2 (.bR p) hp).elim id fun z=>by obtain⟨⟨q,e⟩,_⟩:=z;cases e
   have hsh:=M2.bR hp
   rw[TS.b7,hAs]at hsh
   have htw:=M2.bf
   rw[hA]at htw
   refine⟨_,rfl,_,rfl,zd rfl (eG hsh ahY) ⟨zz4,fun b hb=>?_⟩⟩
   rw[hnum]at *
   have s3:=aB (o:=.tup [.str "lend",.int p,.str x.s,.int (S.pg p).num]) hb
   have hb3:upd H2 b (.tup [.str "lend",.int p,.str x.s,.int (S.pg p).num]) b=_:=aj
   have M3:=M2.same s3
   have f3:=f2.trans (mK.of_same (A:=A2) s3) mv2
   generalize upd H2 b (.tup [.str "lend",.int p,.str x.s,.int (S.pg p).num])=H3 at s3 hb3 M3 f3
   have ayn:=s3 _ _ htw
   obtain⟨dv,d1,d2⟩:=M3.dn hdn
   have hdl:dv.length<sizeLine:=by
    rw[d2.length,List.length_map]
    show(post S.dn [] d).length<_
    have:=hro.1 d
    show(S.dn d).length<_
    lia
   refine Tg rfl (eG ayn xm) rfl (cu.of M3.downs) (bM hdn) ⟨.inl ⟨rfl,_,cu.of d1⟩,_,rfl,A2 (.dn d),dv,_,rfl,rfl,d1,hdl,?_⟩
   have rl:Rep H3 (.ref b) (Let.lend p x (S.pg p).num).d:=by
    simp only[Let.d,Rep,aH]
    exact⟨b,_,rfl,hb3,_,_,rfl,rfl,_,_,rfl,rfl,_,_,rfl,rfl,_,_,rfl,rfl,rfl⟩
   have rp3:aH H3 (dv++[.ref b]) (((S.wC p (S.pg p).lent []).dn d++[Let.lend p x (S.pg p).num]).map Let.d):=by
    rw[List.map_append]
    exact aH.snoc d2 rl
   obtain⟨M4,f4⟩:=M3.aj6 hdn rp3
   have rl4:=Rep.aX (f4.tups M3) (Let.flat _) rl
   have f4':=f3.trans f4 mv2
   generalize upd H3 (A2 (.dn d)) (.lst (dv++[.ref b]))=H4 at M4 f4 f4' rl4
   obtain⟨sv,e1,e2⟩:=M4.sent
   have hsl:sv.length<sizeLine:=by
    rw[e2.length,List.length_map]
    have:=hro.2
    lia
   have ave:=M4.bf
   rw[hA]at ave
   refine zd rfl (eG ave afI) ⟨.inl ⟨rfl,_,cu.of e1⟩,_,rfl,_,rfl,uA,fun c hc=>?_⟩
   have s5:=aB (o:=.tup [.int d,.ref b]) hc
   refine⟨A2 .sent,sv,_,rfl,rfl,s5 _ _ e1,hsl,?_⟩
   have rp5:aH (upd H4 c (.tup [.int d,.ref b])) (sv++[.ref c]) ((se++[(d,Let.lend p x (S.pg p).num)]).map pairD):=by
    rw[List.map_append]
    refine aH.snoc (e2.aX (aY s5) (cY _)) ?_
    simp only[pairD,Rep,aH]
    exact⟨c,_,rfl,aj,_,_,rfl,rfl,_,_,rfl,Rep.aX (aY s5) (Let.flat _) rl4,rfl⟩
   obtain⟨M6,f6⟩:=(M4.same s5).alG rp5
   refine k A2 _ ?_ ((f4'.trans (mK.of_same s5) mv2).trans f6 mv2) mv2
   rw[hl1]
   exact M6
end
end gH
namespace gH
open PySem L2
def PG.cont(g:PG)(p:Nat):PG×List (Nat×Let):=if g.miss=0 then g.serve p else(g,[])
theorem alX{g:PG}{p:Nat}(h0:g.miss=0)(h:g.ask≠[])(hb:g.dD p≠[]):(g.cont p).1=(PG.cont {g with miss:=(g.dD p).length} p).1/\(g.cont p).2=g.dD p++(PG.cont {g with miss:=(g.dD p).length} p).2:=by
 have hl:((g.dD p).length:Int)≠0:=by
  have:(g.dD p).length≠0:=fun z=>hb (List.length_eq_zero_iff.mp z)
  lia
 unfold PG.cont
 rw[if_pos h0,GX h hb]
 try dsimp only
 rw[if_neg hl]
 simp
theorem akg{g:PG}{p:Nat}(h0:g.miss=0)(h:g.ask≠[])(hb:g.dD p=[]):(g.cont p).1=(g.lent.cont p).1/\(g.cont p).2=g.dO p++(g.lent.cont p).2:=by
 unfold PG.cont
 rw[if_pos h0,yR h hb,PG.xg,if_pos h0]
 exact⟨rfl,rfl⟩
theorem alY(g:PG)(p:Nat):(g.cont p).2.length<=2*g.mu+1:=by
 unfold PG.cont
 split
 ·exact g.yc p
 ·simp
theorem Bj.at{S:TS}{se acc:List (Nat×Let)}{k j p:Nat}{g:PG}(h:Bj S se k)(hj:acc.length+j<=k):Bj (S.wC p g acc) (se++acc) j:=⟨fun d=>by
 have h1:=h.1 d
 have h2:=KZ S.dn acc d
 show(post S.dn acc d).length+j<=_
 lia,by rw[List.length_append];have:=h.2;lia⟩
section
variable{P:Program}{w:World}{K:PySem.W.Frag}{mg:Str->Option Value}{base:Heap}{t:Jh}
theorem Xp(T:Txt K w mg t):c7 P w K mg base nP 2 t.mj t.Jj ["_law_town","_law_page"] alV:=by
 refine T.Qm.ok WT (fun vs H Q E h=>?_) (fun cdv A outer s H vs Q E hr h=>?_)
 ·obtain⟨A,n,m,S,se,p,rfl,_⟩:=h;rfl
 ·obtain⟨A,n,m,S,se,p,rfl,M,hp,hgn,hmu,hro,k⟩:=h
  have hu:=kZ hr
  have sl:sizeLine=16777216:=by decide
  refine⟨_,(ao (bh (i:=2) WT.nd rfl (Or.inl rfl) (aN bB (bG hu (pv 0) aD (fun _ _=>rfl)) (pv 1) (fun _ _=>rfl)))
   (aC (V8 PassesOwn.never (PW.pt (Pn (aU cQ (bG hu (pv 2) aD (fun _ _=>rfl)) aA (bj _)) (Ks (aU (afx hr.ahy) (bG hu (pv 2) aD (fun _ _=>rfl)) (bN aq) (bj _))))) (ao (lz hu (pv 2) aD (cC (alU T) (hr.mono (by decide):bQ 1 _) (by rfl) T.an0 T.ajk.kp T.anZ .nil bU (aa (pv 0) (aa (pv 1) aq))) (by rfl))
   (aC (cg (aU cQ (bG hu (pv 2) aD (fun _ _=>rfl)) aA (bj _)) (aC (bO (cC (HD T) (hr.mono (by decide):bQ 1 _) (by rfl) T.Lz T.zL.kp T.Ly .nil bU (aa (pv 0) (aa (pv 1) aq))))) bC)))))),?_⟩
  try dsimp only[dw,Cx.kI]
  show let Z1:L2.TS:=_;let Z2:L2.TS:=_;let Z3:L2.TS:=_;let Z4:L2.TS:=dg _ Z3 bK;let Z5:L2.TS:=aR Z2 (Z4);let Z6:L2.TS:=acb _ Z5;let D0:Ends:=_;(aR Z1 (Z6)) D0 _ _
  intro Z1 Z2 Z3 Z4 Z5 Z6 D0
  refine Tg rfl (eG M.bf jV) rfl (cu.of M.cV) (bM hp) ?_
  generalize hg0:S.pg p=g0 at *
  refine⟨fun i σ H1=>∃A1 g acc,σ=[some (.ref (A .bf)),some (.int p),some (.ref (A (.bR p)))]/\aZ H1 A1 n m (S.wC p g acc) (se++acc)/\mK H H1 A n m/\Mv H A A1 n m/\Tf n g/\g.mu<=g0.mu/\acc.length+(g.cont p).2.length<=2*g0.mu+1/\
   (g0.cont p).1=(g.cont p).1/\(g0.cont p).2=acc++(g.cont p).2/\i=2*g.ask.length+(if g.miss=0 then 1 else 0),⟨_,A,g0,[],rfl,?_,mK.refl _ _ _ _,Mv.refl _ _ _ _,hgn,Nat.le_refl _,?_,rfl,rfl,rfl⟩,?_⟩
  ·have:=S.ajp p
   rw[hg0]at this
   rw[this,List.append_nil];exact M
  ·have:=alY g0 p;simp;lia
  rintro i σ H1 ⟨A1,g,acc,rfl,M1,f1,mv1,gn1,mu1,le1,se1,se2,rfl⟩
  have hA:A1 .bf=A .bf:=mv1.bf
  have hAs:A1 (.bR p)=A (.bR p):=(mv1 (.bR p) hp).elim id fun z=>by obtain⟨⟨q,e⟩,_⟩:=z;cases e
  have hsh:=M1.bR hp
  rw[TS.b7,hAs]at hsh
  obtain⟨as,h3,h4⟩:=M1.jJ hp
  rw[TS.b7]at h4
  have avf:as.length=g.ask.length:=by rw[h4.length,List.length_map]
  have done:∀H2,aZ H2 A1 n m (S.wC p g acc) (se++acc)->mK H H2 A n m->g.cont p=(g,[])->Q .non H2:=fun H2 M2 f2 e=>by
   refine k A1 H2 (g0.cont p) rfl ?_ f2 mv1
   rw[e]at se1 se2
   rw[se1,se2,List.append_nil]
   exact M2
  refine zd rfl (eG hsh uL) ⟨rfl,_,rfl,?_⟩
  by_cases hms:g.miss=0
  ·refine bH (by rw[hms];exact decide_eq_true rfl) ?_
   refine zd rfl (eG hsh G9) ⟨Dw,fun e he=>?_⟩
   have s2:=aB (o:=.lst []) he
   refine⟨A1 (.jJ p),e,as,rfl,rfl,cu.of (s2 _ _ h3),cu.of aj,_,rfl,?_⟩
   have M2:=M1.same s2
   have f2:=f1.trans (mK.of_same (A:=A1) s2) mv1
   generalize upd H1 e (.lst [])=H2 at s2 M2 f2
   by_cases hak:g.ask=[]
   ·have:as=[]:=List.length_eq_zero_iff.mp (by rw[avf,hak];rfl)
    subst this
    refine aP rfl ?_
    exact done H2 M2 f2 (by unfold PG.cont;rw[if_pos hms,GR hak])
   ·refine bH (by cases as with | nil=>exact absurd (List.length_eq_zero_iff.mp avf.symm) hak | cons _ _=>rfl) ?_
    obtain⟨⟨d,x⟩,l,hq⟩:=List.exists_cons_of_ne_nil hak
    obtain⟨hdn,hx⟩:=gn1.q (d,x) (by rw[hq];simp)
    have alR:g.rd.length<=1000000:=by unfold PG.mu at mu1 hmu;lia
    have hbl:=Xn g p
    have hbm:(g.dD p).length<=g0.mu+1:=by unfold PG.mu at mu1 ⊢;lia
    refine⟨fun σ' H'=>∃i',i'<2*g.ask.length+(if g.miss=0 then 1 else 0)/\∃A1 g acc,σ'=[some (.ref (A .bf)),some (.int p),some (.ref (A (.bR p)))]/\aZ H' A1 n m (S.wC p g acc) (se++acc)/\mK H H' A n m/\Mv H A A1 n m/\Tf n g/\g.mu<=g0.mu/\acc.length+(g.cont p).2.length<=2*g0.mu+1/\
     (g0.cont p).1=(g.cont p).1/\(g0.cont p).2=acc++(g.cont p).2/\i'=2*g.ask.length+(if g.miss=0 then 1 else 0),fun σ' H' z=>z,?_⟩
    have aBh:acc.length<=2*g0.mu+1:=by lia
    have hv:V.ref (A .bf)=V.ref (A1 .bf):=by rw[hA]
    refine⟨_,rfl,_,rfl,A1,n,m,S.wC p g acc,se++acc,p,d,x,l,by rw[hA];rfl,M2,hp,by rw[TS.b7];exact hq,hx,?_,by rw[TS.b7];exact alR,?_,?_⟩
    ·rw[TS.b7];exact fun x hx=>((gn1.dD p).1 x hx).1
    ·rw[TS.b7];exact hro.at (by lia)
    rw[TS.b7,TS.asb,List.append_assoc]
    intro H3 M3 f3
    have alZ:=M3.bR hp
    rw[TS.b7,hAs]at alZ
    refine⟨_,rfl,A (.bR p),_,rfl,dput alZ uM DW,?_⟩
    obtain⟨M4,f4⟩:=M3.yS hp (g:={g with miss:=((g.dD p).length:Int)}) (by rw[TS.b7]) (by rw[TS.b7])
    rw[TS.nj]at M4
    rw[hAs]at M4 f4
    have f34:=(f2.trans f3 mv1).trans f4 mv1
    generalize upd H3 (A (.bR p)) (.dK (yF {g with miss:=((g.dD p).length:Int)} (A1 (.iM p)) (A1 (.jJ p))))=H4 at M4 f34
    have avh:=M4.bR hp
    rw[TS.b7,hAs]at avh
    refine zd rfl (eG avh uL) ⟨rfl,_,rfl,?_⟩
    by_cases hb:g.dD p=[]
    ·obtain⟨c1,c2⟩:=akg hms hak hb
     refine bH (by rw[hb];exact decide_eq_true rfl) ?_
     have eg:({g with miss:=((g.dD p).length:Int)}:PG)=g:=by rw[hb];cases g;simp_all
     rw[eg,hb,List.append_nil]at M4
     have hle:1+(g.lent.cont p).2.length<=(g.cont p).2.length:=by
      rw[c2,List.length_append]
      have:g.dO p=[(d,.lend p x g.num)]:=by unfold PG.dO;rw[hq]
      rw[this];simp
     refine⟨_,rfl,_,rfl,A1,n,m,S.wC p g acc,se++acc,p,by rw[hA];rfl,M4,hp,by rw[TS.b7];exact hak,by rw[TS.b7];exact gn1,by rw[TS.b7];exact alR,hro.at (by lia),?_⟩
     rw[TS.b7]
     intro A5 H5 M5 f5 mv5
     have e5:(S.wC p g acc).wC p g.lent (g.dO p)=S.wC p g.lent (acc++g.dO p):=by unfold TS.wC;simp only[lY,pJ]
     rw[e5,List.append_assoc]at M5
     refine⟨_,?_,A5,g.lent,acc++g.dO p,rfl,M5,f34.trans f5 mv1,mv1.trans f34.lv mv5,gn1.lent,Nat.le_trans g.qW mu1,?_,?_,?_,rfl⟩
     ·rw[PG.w6,PG.xg,hq];simp
     ·rw[List.length_append]
      have:g.dO p=[(d,.lend p x g.num)]:=by unfold PG.dO;rw[hq]
      rw[this]
      simp only[List.length_singleton]
      lia
     ·rw[se1,c1]
     ·rw[se2,c2,List.append_assoc]
    ·obtain⟨c1,c2⟩:=alX hms hak hb
     have hbn:(g.dD p).length≠0:=fun z=>hb (List.length_eq_zero_iff.mp z)
     refine aP (decide_eq_false fun z=>hbn (by have z1:((g.dD p).length:Int)=0:=V.int.inj z;lia)) ?_
     refine⟨_,?_,A1,{g with miss:=((g.dD p).length:Int)},acc++g.dD p,rfl,M4,f34,mv1,⟨gn1.w,gn1.r,gn1.q⟩,mu1,?_,?_,?_,rfl⟩
     ·rw[if_pos hms,if_neg (by show((g.dD p).length:Int)≠0;lia)];simp
     ·rw[List.length_append]
      have:=congrArg List.length c2
      rw[List.length_append]at this
      lia
     ·rw[se1,c1]
     ·rw[se2,c2,List.append_assoc]
  ·refine aP (decide_eq_false fun z=>hms (V.int.inj z)) ?_
   exact uB (done H1 M1 f1 (by unfold PG.cont;rw[if_neg hms]))
end
end gH
namespace gH
open PySem L2
theorem ajq{H:Hp}{vs:List V}{l:UL}{r:List UL}(h:aH H vs ((l::r).map UL.d)):∃b us,vs=.ref b::us/\H b=some (.tup l.vs)/\aH H us (r.map UL.d):=by
 rw[List.map_cons]at h
 obtain⟨v,us,e,rv,rl⟩:=aH.cons_inv h
 cases l with
 | ask p x =>
   simp only[UL.d,Rep,aH]at rv
   obtain⟨b,xs,rfl,hb,_,_,rfl,rfl,_,_,rfl,rfl,_,_,rfl,rfl,rfl⟩:=rv
   exact⟨b,us,e,hb,rl⟩
 | ans p o =>
   cases o<;>(simp only[UL.d,oD,Rep,aH]at rv;obtain⟨b,xs,rfl,hb,_,_,rfl,rfl,_,_,rfl,rfl,_,_,rfl,rfl,rfl⟩:=rv;exact⟨b,us,e,hb,rl⟩)
 | gave p x =>
   simp only[UL.d,Rep,aH]at rv
   obtain⟨b,xs,rfl,hb,_,_,rfl,rfl,_,_,rfl,rfl,_,_,rfl,rfl,rfl⟩:=rv
   exact⟨b,us,e,hb,rl⟩
theorem Xq{H:Hp}{b:Addr}{l:UL}(h:H b=some (.tup l.vs)):Rep H (.ref b) l.d:=by
 cases l with
 | ask p x=>simp only[UL.d,Rep,aH];exact⟨b,_,rfl,h,_,_,rfl,rfl,_,_,rfl,rfl,_,_,rfl,rfl,rfl⟩
 | ans p o=>cases o<;>(simp only[UL.d,oD,Rep,aH];exact⟨b,_,rfl,h,_,_,rfl,rfl,_,_,rfl,rfl,_,_,rfl,rfl,rfl⟩)
 | gave p x=>simp only[UL.d,Rep,aH];exact⟨b,_,rfl,h,_,_,rfl,rfl,_,_,rfl,rfl,_,_,rfl,rfl,rfl⟩
def avi:Sp:=fun vs H Q _=>∃A n m S se,∃d:Nat,∃l r,vs=[.ref (A .bf),.int d]/\aZ H A n m S se/\d<n/\S.up d=l::r/\l.pg<m/\Tf n (S.pg l.pg)/\((S.pg l.pg).ask=[]↔(S.pg l.pg).miss=0)/\l.good (S.pg l.pg)/\(S.pg l.pg).mu<=900000/\Bj S se (4*(S.pg l.pg).mu+20)/\
 ∀b A' H',aZ H' A' n m (S.ahR d l r) (se++((S.pg l.pg).take l.pg d l).2)->mK H H' A n m->Mv H A A' n m->H' b=some (.tup l.vs)->Q (.ref b) H'
section
variable{P:Program}{w:World}{K:PySem.W.Frag}{mg:Str->Option Value}{base:Heap}{t:Jh}
theorem ac3(T:Txt K w mg t):c7 P w K mg base nP 3 t.je t.zG ["_law_town","_law_desk"] avi:=by
 refine T.RG.ok zj (fun vs H Q E h=>?_) (fun cdv A outer s H vs Q E hr h=>?_)
 ·obtain⟨A,n,m,S,se,d,l,r,rfl,_⟩:=h;rfl
 ·obtain⟨A,n,m,S,se,d,l,r,rfl,M,hd,hup,hp,hgn,ham,hgd,hmu,hro,k⟩:=h
  have hu:=kZ hr
  have sl:sizeLine=16777216:=by decide
  refine⟨_,(ao (bh (i:=2) zj.nd rfl (Or.inl rfl) (fj PySem.F.plainAttrs_list PySem.F.slot_list_pop PySem.F.type_list_pop DG (aN bB (bG hu (pv 0) aD (fun _ _=>rfl)) (pv 1) (fun _ _=>rfl)) (aa aA aq)))
   (ao (bh (i:=3) zj.nd rfl (Or.inl rfl) (aN bB (bG hu (pv 0) aD (fun _ _=>rfl)) (aN bz (pv 2) aA (fun _ _=>rfl)) (fun _ _=>rfl)))
   (ao (cg (aU cQ (aN bz (pv 2) aA (fun _ _=>rfl)) aD (bj _)) (ao (bO (fj PySem.F.plainAttrs_list PySem.F.slot_list_append PySem.F.type_list_append cH (bG hu (pv 3) aD (fun _ _=>rfl)) (aa (bZ (aa (pv 1) (aa (aN bz (pv 2) aA (fun _ _=>rfl)) aq))) aq)))
   (ao (bO (cC (Xp T) (hr.mono (by decide):bQ 2 _) (by rfl) T.abP T.Qm.kp T.abO .nil bU (aa (pv 0) (aa (aN bz (pv 2) aA (fun _ _=>rfl)) aq))))
   (aC (bw (pv 2))))) bC)
   (ao (cg (rQ (qT (aN bz (pv 2) aA (fun _ _=>rfl)))) (aC (lz hu (pv 3) aD (aN bz (pv 2) aA (fun _ _=>rfl)) (by rfl))) bC)
   (ao (cg (aU cQ (aN bz (pv 2) aA (fun _ _=>rfl)) aD (bj _)) (ao (cg (aU cQ (bG hu (pv 3) aD (fun _ _=>rfl)) (pv 1) (bj _)) (aC (lz hu (pv 3) aD (Rr Dy aA) (by rfl))) bC)
   (aC (bw (pv 2)))) bC)
   (ao (lz hu (pv 3) aD (bF Jb (bG hu (pv 3) aD (fun _ _=>rfl)) aA) (by rfl))
   (ao (cg (aU cQ (bG hu (pv 3) aD (fun _ _=>rfl)) aA (bj _)) (ao (bO (cC (HD T) (hr.mono (by decide):bQ 1 _) (by rfl) T.Lz T.zL.kp T.Ly .nil bU (aa (pv 0) (aa (aN bz (pv 2) aA (fun _ _=>rfl)) aq))))
   (aC (bO (cC (Xp T) (hr.mono (by decide):bQ 2 _) (by rfl) T.abP T.Qm.kp T.abO .nil bU (aa (pv 0) (aa (aN bz (pv 2) aA (fun _ _=>rfl)) aq)))))) bC)
   (aC (bw (pv 2)))))))))),?_⟩
  try dsimp only[dw,Cx.kI]
  show let Z1:L2.TS:=_;let Z2:L2.TS:=_;let Z3:L2.TS:=_;let Z4:L2.TS:=_;let Z5:L2.TS:=_;let Z6:L2.TS:=aR Z3 (aR Z4 (Z5));let Z7:L2.TS:=dg _ Z6 bK;let Z8:L2.TS:=_;let Z9:L2.TS:=dg _ Z8 bK;let Bh:L2.TS:=_;let Mh:L2.TS:=dg _ Bh bK;let Mi:L2.TS:=_;let RL:L2.TS:=aR Mh (Mi);let RM:L2.TS:=dg _ RL bK;let Z15:L2.TS:=_;let Z16:L2.TS:=_;let Z17:L2.TS:=_;let Z18:L2.TS:=aR Z16 (Z17);let Z19:L2.TS:=dg _ Z18 bK;let Z20:L2.TS:=_;let D0:Ends:=_;(aR Z1 (aR Z2 (aR Z7 (aR Z9 (aR RM (aR Z15 (aR Z19 (Z20)))))))) D0 _ _
  intro Z1 Z2 Z3 Z4 Z5 Z6 Z7 Z8 Z9 Bh Mh Mi RL RM Z15 Z16 Z17 Z18 Z19 Z20 D0
  obtain⟨uv,u1,u2⟩:=M.up hd
  rw[hup]at u2
  obtain⟨b,us,rfl,hb,u3⟩:=ajq u2
  refine Tg rfl (eG M.bf G8) rfl (cu.of M.ups) (bM hd) ⟨.inl ⟨rfl,_,cu.of u1⟩,A (.up d),_,0,0,_,rfl,rfl,u1,(by decide),(by decide),aly _ _,rfl,?_⟩
  rw[List.eraseIdx_cons_zero]
  obtain⟨M1,f1⟩:=M.afJ hd u3
  have hb1:=(f1.tups M) b _ hb
  generalize upd H (A (.up d)) (.lst us)=H1 at M1 f1 hb1
  generalize hS1:({S with up:=bL S.up d r}:TS)=S1 at M1
  have hpg:S1.pg=S.pg:=by rw[<-hS1]
  have hdn:S1.dn=S.dn:=by rw[<-hS1]
  have aoa:Bj S1 se (4*(S.pg l.pg).mu+20):=⟨fun e=>by rw[hdn];exact hro.1 e,hro.2⟩
  have hdo:∀z:PG×List (Nat×Let),z=(S.pg l.pg).take l.pg d l->S1.wC l.pg z.1 z.2=S.ahR d l r:=fun z e=>by rw[e,<-hS1];rfl
  refine zd rfl (eG M1.bf jV) (zt rfl (di.of hb1) (UL.at1 l) ⟨A .cV,_,_,_,rfl,rfl,cu.of M1.cV,bM hp,?_⟩)
  have M1':aZ H1 A n m (S1.wC l.pg (S.pg l.pg) []) se:=by have:=S1.ajp l.pg;rw[hpg]at this;rw[this];exact M1
  have hsh:=M1'.bR hp
  rw[TS.b7]at hsh
  generalize hq:l.pg=p0 at hp hgn ham hgd hmu hro k aoa hdo M1' hsh ⊢
  cases l with
  | ask p x =>
    have hq':p=p0:=hq
    subst hq'
    have hx:x=.rd\/x=.wr:=hgd
    refine zt rfl (di.of hb1) rfl ⟨rfl,_,rfl,?_⟩
    refine bH fD ?_
    obtain⟨av,a1,a2⟩:=M1'.jJ hp
    rw[TS.b7]at a2
    have hal:av.length=(S.pg p).ask.length:=by rw[a2.length,List.length_map]
    have avj:(S.pg p).ask.length<=900000:=by unfold PG.mu at hmu;lia
    refine zd rfl (eG hsh G9) ⟨.inl ⟨rfl,_,cu.of a1⟩,_,rfl,zt rfl (di.of hb1) rfl ⟨uA,fun tt ht=>?_⟩⟩
    have s2:=aB (o:=.tup [.int d,.str x.s]) ht
    refine⟨A (.jJ p),av,_,rfl,rfl,s2 _ _ a1,by lia,?_⟩
    have rp:aH (upd H1 tt (.tup [.int d,.str x.s])) (av++[.ref tt]) (((S.pg p).ask++[(d,x)]).map BZ):=by
     rw[List.map_append]
     refine aH.snoc (a2.aX (aY s2) (kj _)) ?_
     simp only[BZ,Rep,aH]
     exact⟨tt,_,rfl,aj,_,_,rfl,rfl,_,_,rfl,rfl,rfl⟩
    obtain⟨M3,f3⟩:=(M1'.same s2).aqc hp rp
    have hb3:=(f3.tups (M1'.same s2)) b _ (s2 _ _ hb1)
    have f13:=(f1.trans (mK.of_same (A:=A) s2) (Mv.refl _ _ _ _)).trans f3 (Mv.refl _ _ _ _)
    generalize upd (upd H1 tt (.tup [.int d,.str x.s])) (A (.jJ p)) (.lst (av++[.ref tt]))=H3 at M3 f3 hb3 f13
    rw[TS.nj,TS.b7]at M3
    have gn2:Tf n ({S.pg p with ask:=(S.pg p).ask++[(d,x)]}:PG):=⟨hgn.w,hgn.r,fun y hy=>by
     rcases List.mem_append.mp hy with hy | hy
     ·exact hgn.q y hy
     ·have:y=(d,x):=by simpa using hy
      rw[this];exact⟨hd,hx⟩⟩
    have avk:({S.pg p with ask:=(S.pg p).ask++[(d,x)]}:PG).mu=(S.pg p).mu+2:=by unfold PG.mu;simp;lia
    refine⟨_,rfl,zt rfl (di.of hb3) rfl ⟨A,n,m,_,se,p,rfl,M3,hp,by rw[TS.b7];exact gn2,?_,?_,?_⟩⟩
    ·rw[TS.b7,avk];have:(S.pg p).mu<=900000:=hmu;lia
    ·have:=Bj.at (acc:=[]) (p:=p) (g:={S.pg p with ask:=(S.pg p).ask++[(d,x)]}) (j:=4*((S.pg p).mu+2)+4) aoa (by show 0+_<=4*(S.pg p).mu+20;lia)
     rw[TS.b7,avk]
     rw[List.append_nil]at this
     exact this
    ·rw[TS.b7]
     intro A4 H4 z hz M4 f4 mv4
     have ez:z=(S.pg p).take p d (.ask p x):=by
      rw[hz]
      simp only[PG.take]
      by_cases e:(S.pg p).ask=[]
      ·rw[if_pos (ham.mp e),if_pos e,e];rfl
      ·rw[if_neg fun y=>e (ham.mpr y),if_neg e]
     have e4:(S1.wC p {S.pg p with ask:=(S.pg p).ask++[(d,x)]} []).wC p z.1 z.2=S1.wC p z.1 z.2:=by unfold TS.wC;simp only[lY,pJ];rfl
     rw[e4,hdo z ez,ez]at M4
     refine⟨_,rfl,k b A4 H4 M4 (f13.trans f4 (Mv.refl _ _ _ _)) (fun y hy=>(mv4 y hy).imp id fun e=>⟨e.1,f13.lv _ e.2⟩) ((f4.tups M3) b _ hb3)⟩
  | gave p x =>
    have hq':p=p0:=hq
    subst hq'
    refine zt rfl (di.of hb1) rfl ⟨rfl,_,rfl,?_⟩
    refine aP (dh (by decide +kernel)) ?_
    refine zt rfl (di.of hb1) rfl ⟨_,rfl,?_⟩
    refine bH rfl ?_
    refine zt rfl (di.of hb1) rfl ⟨_,rfl,A (.bR p),_,rfl,dput hsh uM Hn,?_⟩
    obtain⟨M2,f2⟩:=M1'.yS hp (g:={S.pg p with num:=x}) (by rw[TS.b7]) (by rw[TS.b7])
    rw[TS.nj]at M2
    have hb2:=(f2.tups M1') b _ hb1
    have f12:=f1.trans f2 (Mv.refl _ _ _ _)
    generalize upd H1 (A (.bR p)) (.dK (yF {S.pg p with num:=x} (A (.iM p)) (A (.jJ p))))=H2 at M2 f2 hb2 f12
    have aae:=M2.bR hp
    rw[TS.b7]at aae
    refine zt rfl (di.of hb2) rfl ⟨rfl,_,rfl,?_⟩
    refine bH fD ?_
    have ek:(S.pg p).take p d (.gave p x)=({S.pg p with num:=x,wr:=if(S.pg p).wr=some d then none else(S.pg p).wr},[]):=rfl
    refine zd rfl (eG aae su) ⟨_,rfl,rfl,_,rfl,?_⟩
    by_cases e:(S.pg p).wr=some d
    ·refine bH (by show decide (V.int (wrI (S.pg p).wr)=V.int d)=true;rw[e];exact decide_eq_true rfl) ?_
     refine⟨_,rfl,_,rfl,A (.bR p),_,rfl,dput aae uM DR,?_⟩
     obtain⟨M3,f3⟩:=M2.yS hp (g:={S.pg p with num:=x,wr:=none}) (by rw[TS.b7]) (by rw[TS.b7])
     rw[TS.nj]at M3
     refine⟨_,rfl,k b A _ ?_ (f12.trans f3 (Mv.refl _ _ _ _)) (Mv.refl _ _ _ _) ((f3.tups M2) b _ hb2)⟩
     have:=hdo _ ek.symm
     rw[if_pos e]at ek this
     rw[<-this]
     show aZ _ A n m _ (se++((S.pg p).take p d (.gave p x)).2)
     rw[ek,List.append_nil]
     exact M3
    ·refine aP (decide_eq_false fun z=>e ?_) ?_
     ·have z1:wrI (S.pg p).wr=(d:Int):=V.int.inj z
      cases hw:(S.pg p).wr with
      | none=>rw[hw]at z1;have:(-1:Int)=d:=z1;lia
      | some y=>rw[hw]at z1;have:(y:Int)=d:=z1;exact congrArg some (by lia)
     ·refine⟨_,rfl,k b A _ ?_ f12 (Mv.refl _ _ _ _) hb2⟩
      have:=hdo _ ek.symm
      rw[if_neg e]at ek this
      rw[<-this]
      show aZ _ A n m _ (se++((S.pg p).take p d (.gave p x)).2)
      rw[ek,List.append_nil]
      exact M2
  | ans p o =>
    have hq':p=p0:=hq
    subst hq'
    refine zt rfl (di.of hb1) rfl ⟨rfl,_,rfl,?_⟩
    refine aP (dh (by decide +kernel)) ?_
    try dsimp only[bK]
    refine fW (fun σ' H'=>σ'=[some (.ref (A .bf)),some (.int d),some (.ref b),some (.ref (A (.bR p)))]/\aZ H' A n m (S1.wC p {S.pg p with num:=o.getD (S.pg p).num} []) se/\mK H H' A n m/\H' b=some (.tup (UL.ans p o).vs)) (fun N hN=>?_) ?_
    ·refine zt rfl (di.of hb1) rfl ⟨_,rfl,?_⟩
     cases o with
     | none =>
       refine aP rfl ?_
       exact hN _ _ ⟨rfl,M1',f1,hb1⟩
     | some x =>
       refine bH rfl ?_
       refine zt rfl (di.of hb1) rfl ⟨_,rfl,A (.bR p),_,rfl,dput hsh uM Hn,?_⟩
       obtain⟨M2,f2⟩:=M1'.yS hp (g:={S.pg p with num:=x}) (by rw[TS.b7]) (by rw[TS.b7])
       rw[TS.nj]at M2
       exact hN _ _ ⟨rfl,M2,f1.trans f2 (Mv.refl _ _ _ _),(f2.tups M1') b _ hb1⟩
    ·rintro σ' H2 ⟨rfl,M2,f2,hb2⟩
     have aae:=M2.bR hp
     rw[TS.b7]at aae
     refine zt rfl (di.of hb2) rfl ⟨rfl,_,rfl,?_⟩
     refine aP (dh (by decide +kernel)) ?_
     refine zd rfl (eG aae uL) ⟨_,_,rfl,rfl,_,rfl,A (.bR p),_,rfl,dput aae uM DW,?_⟩
     generalize hg2:({S.pg p with num:=o.getD (S.pg p).num,miss:=(S.pg p).miss - 1}:PG)=g2
     obtain⟨M3,f3⟩:=M2.yS hp (g:=g2) (by rw[TS.b7,<-hg2]) (by rw[TS.b7,<-hg2])
     rw[TS.nj]at M3
     have hb3:=(f3.tups M2) b _ hb2
     have f13:=f2.trans f3 (Mv.refl _ _ _ _)
     generalize upd H2 (A (.bR p)) (.dK (yF g2 (A (.iM p)) (A (.jJ p))))=H3 at M3 f3 hb3 f13
     have alZ:=M3.bR hp
     rw[TS.b7]at alZ
     have gm:g2.miss=(S.pg p).miss - 1:=by rw[<-hg2]
     have ga:g2.ask=(S.pg p).ask:=by rw[<-hg2]
     have gr:g2.rd=(S.pg p).rd:=by rw[<-hg2]
     have gn2:Tf n g2:=by rw[<-hg2];exact⟨hgn.w,hgn.r,hgn.q⟩
     have gmu:g2.mu=(S.pg p).mu:=by unfold PG.mu;rw[ga,gr]
     have ek:(S.pg p).take p d (.ans p o)=if(S.pg p).miss - 1=0 then((g2.lent.serve p).1,g2.dO p++(g2.lent.serve p).2)else(g2,[]):=by simp only[PG.take];rw[hg2]
     have ayp:(S.pg p).mu<=900000:=hmu
     try dsimp only[bK]
     refine zd rfl (eG alZ uL) ⟨rfl,_,rfl,?_⟩
     by_cases e:(S.pg p).miss - 1=0
     ·refine bH (by rw[gm,e];exact decide_eq_true rfl) ?_
      rw[if_pos e]at ek
      have hak:g2.ask≠[]:=by rw[ga];exact hgd e
      refine⟨_,rfl,zt rfl (di.of hb3) rfl ⟨A,n,m,_,se,p,rfl,M3,hp,by rw[TS.b7];exact hak,by rw[TS.b7];exact gn2,?_,?_,?_⟩⟩
      ·rw[TS.b7,gr];unfold PG.mu at ayp;lia
      ·have:=Bj.at (acc:=[]) (p:=p) (g:=g2) (j:=1) aoa (by show 0+1<=4*(S.pg p).mu+20;lia)
       rw[List.append_nil]at this
       exact this
      ·rw[TS.b7]
       intro A4 H4 M4 f4 mv4
       have e4:(S1.wC p g2 []).wC p g2.lent (g2.dO p)=S1.wC p g2.lent (g2.dO p):=by unfold TS.wC;simp only[lY];rfl
       rw[e4]at M4
       have hA:A4 .bf=A .bf:=mv4.bf
       have hb4:=(f4.tups M3) b _ hb3
       have ll:(g2.dO p).length<=1:=by unfold PG.dO;split<;>simp
       have hlm:=g2.qW
       refine⟨_,rfl,zt rfl (di.of hb4) rfl ⟨A4,n,m,_,se++g2.dO p,p,by rw[hA];rfl,M4,hp,by rw[TS.b7];exact gn2.lent,?_,?_,?_⟩⟩
       ·rw[TS.b7];lia
       ·rw[TS.b7]
        exact Bj.at aoa (by show _<=4*(S.pg p).mu+20;lia)
       ·rw[TS.b7]
        intro A5 H5 z hz M5 f5 mv5
        rw[PG.xg,gm,if_pos e]at hz
        have e5:(S1.wC p g2.lent (g2.dO p)).wC p z.1 z.2=S1.wC p z.1 (g2.dO p++z.2):=by unfold TS.wC;simp only[lY,pJ]
        rw[e5,List.append_assoc]at M5
        have ek':(z.1,g2.dO p++z.2)=(S.pg p).take p d (.ans p o):=by rw[ek,hz]
        have:=hdo _ ek'
        have mv:Mv H A A5 n m:=fun y hy=>((mv4.trans f4.lv mv5) y hy).imp id fun e=>⟨e.1,f13.lv _ e.2⟩
        refine⟨_,rfl,k b A5 H5 ?_ ((f13.trans f4 (Mv.refl _ _ _ _)).trans f5 fun y hy=>(mv4 y hy).imp id fun e=>⟨e.1,f13.lv _ e.2⟩) mv ((f5.tups M4) b _ hb4)⟩
        rw[<-this]
        show aZ _ A5 n m _ (se++((S.pg p).take p d (.ans p o)).2)
        rw[<-ek']
        exact M5
     ·refine aP (by rw[gm];exact decide_eq_false fun z=>e (V.int.inj z)) ?_
      rw[if_neg e]at ek
      refine⟨_,rfl,k b A H3 ?_ f13 (Mv.refl _ _ _ _) hb3⟩
      have:=hdo _ ek.symm
      rw[<-this]
      show aZ _ A n m _ (se++((S.pg p).take p d (.ans p o)).2)
      rw[ek,List.append_nil]
      exact M3
end
end gH
namespace gH
open PySem L2
theorem zO{n p:Nat}(h:p<n):ixN n (p:Int)=some p:=by unfold ixN;rw[if_pos (Int.natCast_nonneg _),if_pos (by lia)];simp
theorem yd{m p:Nat}{f g:Nat->V}{v:V}(hp:p<m)(hg:g p=v)(h:∀q,q≠p->g q=f q):((List.range m).map f).set p v=(List.range m).map g:=by
 refine List.ext_getElem? fun i=>?_
 by_cases e:i=p
 ·subst e
  rw[List.getElem?_set_self (by simpa using hp),List.getElem?_map,List.getElem?_range hp]
  simp[hg]
 ·rw[List.getElem?_set_ne (Ne.symm e),List.getElem?_map,List.getElem?_map]
  by_cases hi:i<m
  ·rw[List.getElem?_range hi];simp[h i e]
  ·rw[List.getElem?_eq_none (by simpa using hi)];rfl
def ayq:Sp:=fun vs H Q _=>∃r a w,vs=[.str (Rt.s r),.ref a]/\H a=some (.tup (W.vs w))/\Q (.bl (decide (w.need.k<=r.k))) H
def ash:Sp:=fun vs H Q _=>∃A n m S se a w,∃d p:Nat,vs=[.ref (A .bf),.int d,.ref a]/\aZ H A n m S se/\d<n/\H a=some (.tup (W.vs w))/\w.pg=(p:Int)/\p<m/\S.row.length<=1000000/\
 ∀H',aZ H' A n m {S with ds:=bL S.ds d ((S.ds d).done w),row:=fY S.row d [(w.DQ,w.pg,(S.ds d).num w)]} se->mK H H' A n m->Q (.int ((S.ds d).num w)) H'
def avm:Sp:=fun vs H Q _=>∃A n m S se l r,∃d p:Nat,vs=[.ref (A .bf),.int d]/\aZ H A n m S se/\d<n/\S.dn d=l::r/\l.pg=(p:Int)/\p<m/\l.nice/\(∀w,(S.ds d).ws=some w->∃q:Nat,q<m/\w.pg=(q:Int))/\S.row.length<=1000000/\(S.up d).length<=1000000/\
 ∀b H',aZ H' A n m (S.Te d l r) se->mK H H' A n m->H' b=some (.tup l.vs)->Q (.ref b) H'
theorem DS.akh(S:DS)(p:Int)(r:Rt)(h:S.rt p=r):S.hold p r (S.nm p)=S:=by
 unfold DS.hold
 cases S
 congr
 ·funext q;dsimp only at h ⊢;split<;>simp_all
 ·funext q;dsimp only at h ⊢;split<;>simp_all
theorem agk{H:Hp}{vs:List V}{l:Let}{r:List Let}(h:aH H vs ((l::r).map Let.d)):∃b us,vs=.ref b::us/\H b=some (.tup l.vs)/\aH H us (r.map Let.d):=by
 rw[List.map_cons]at h
 obtain⟨v,us,e,rv,rl⟩:=aH.cons_inv h
 cases l with
 | lend p x k =>
   simp only[Let.d,Rep,aH]at rv
   obtain⟨b,xs,rfl,hb,_,_,rfl,rfl,_,_,rfl,rfl,_,_,rfl,rfl,_,_,rfl,rfl,rfl⟩:=rv
   exact⟨b,us,e,hb,rl⟩
 | back p x =>
   simp only[Let.d,Rep,aH]at rv
   obtain⟨b,xs,rfl,hb,_,_,rfl,rfl,_,_,rfl,rfl,_,_,rfl,rfl,rfl⟩:=rv
   exact⟨b,us,e,hb,rl⟩
theorem W.asi(w:W):Py w.vs 0=some (.str w.tag):=by cases w<;>rfl
theorem W.asj(w:W):Py w.vs 1=some (.int w.pg):=by cases w<;>rfl
theorem DS.al0(S:DS)(w:W)(q:Int):(S.done w).rt q=S.rt q:=by
 cases w with
 | look p=>rfl
 | put p n=>show(if q=p then S.rt p else S.rt q)=S.rt q;split<;>simp_all
theorem DS.al1(S:DS)(w:W):(S.done w).nm w.pg=S.num w:=by
 cases w with
 | look p=>rfl
 | put p n=>show(if p=p then n else S.nm p)=n;rw[if_pos rfl]
section
variable{P:Program}{w:World}{K:PySem.W.Frag}{mg:Str->Option Value}{base:Heap}{t:Jh}
theorem RN(T:Txt K w mg t):c7 P w K mg base nP 1 t.j0 t.Er ["_law_right","_law_wish"] ayq:=by
 refine T.Jp.ok afN (fun vs H Q E h=>?_) (fun cdv A outer s H vs Q E hr h=>?_)
 ·obtain⟨r,a,w,rfl,_⟩:=h;rfl
 ·obtain⟨r,a,w,rfl,ha,k⟩:=h
  refine⟨_,(aC (bw (aup (mC cQ (pv 0) aD (bj _)) (aca (ahr (mC cQ (pv 0) aD (bj _)) (aca (mC cQ (aN bz (pv 1) aA (fun _ _=>rfl)) aD (bj _)))))))),?_⟩
  try dsimp only[dw,Cx.kI]
  refine⟨_,rfl,rfl,_,rfl,?_⟩
  cases r with
  | wr =>
    refine bH fD ?_
    cases w<;>exact k
  | rd =>
    refine aP (nQ (x:="write") (q:=.wr) rfl (by intro z;cases z)) ?_
    refine⟨_,rfl,rfl,_,rfl,?_⟩
    refine bH fD ?_
    refine zt rfl (di.of ha) (W.asi w) ⟨rfl,?_⟩
    cases w with
    | look p=>exact k
    | put p n =>
      have e:decide (V.str (W.put p n).tag=V.str "look")=false:=dh (show("put":Str)≠"look" by decide +kernel)
      rw[e];exact k
  | no =>
    refine aP (nQ (x:="write") (q:=.wr) rfl (by intro z;cases z)) ?_
    refine⟨_,rfl,rfl,_,rfl,?_⟩
    refine aP (nQ (x:="read") (q:=.rd) rfl (by intro z;cases z)) ?_
    cases w<;>exact k
theorem Fl(T:Txt K w mg t):c7 P w K mg base nP 1 t.gC t.tE ["_law_town","_law_desk","_law_wish"] ash:=by
 refine T.wz.ok Eo (fun vs H Q E h=>?_) (fun cdv A outer s H vs Q E hr h=>?_)
 ·obtain⟨A,n,m,S,se,a,w,d,p,rfl,_⟩:=h;rfl
 ·obtain⟨A,n,m,S,se,a,w,d,p,rfl,M,hd,ha,hpg,hp,hrl,k⟩:=h
  have hu:=kZ hr
  have sl:sizeLine=16777216:=by decide
  refine⟨_,(ao (cg (aU cQ (aN bz (pv 2) aA (fun _ _=>rfl)) aD (bj _)) (aC (yI (aN bz (pv 2) aA (fun _ _=>rfl)) (Ja (aN bB (bG hu (pv 0) aD (fun _ _=>rfl)) (pv 1) (fun _ _=>rfl)) (aN bz (pv 2) aA (fun _ _=>rfl)) set_list))) bC)
   (ao (bh (i:=3) Eo.nd rfl (Or.inl rfl) (aN bB (aN bB (bG hu (pv 0) aD (fun _ _=>rfl)) (pv 1) (fun _ _=>rfl)) (aN bz (pv 2) aA (fun _ _=>rfl)) (fun _ _=>rfl)))
   (ao (bO (fj PySem.F.plainAttrs_list PySem.F.slot_list_append PySem.F.type_list_append cH (bG hu (pv 0) aD (fun _ _=>rfl)) (aa (bZ (aa (aN bz (pv 2) aA (fun _ _=>rfl)) (aa (pv 1) (aa (aN bz (pv 2) aA (fun _ _=>rfl)) (aa (pv 3) aq))))) aq)))
   (aC (bw (pv 3)))))),?_⟩
  try dsimp only[dw,Cx.kI]
  show let Z1:L2.TS:=_;let Z2:L2.TS:=dg _ Z1 bK;let Z3:L2.TS:=_;let Z4:L2.TS:=_;let Z5:L2.TS:=_;let D0:Ends:=_;(aR Z2 (aR Z3 (aR Z4 (Z5)))) D0 _ _
  intro Z1 Z2 Z3 Z4 Z5 D0
  try dsimp only[bK]
  refine fW (fun σ' H'=>σ'=[some (.ref (A .bf)),some (.int d),some (.ref a),none]/\aZ H' A n m {S with ds:=bL S.ds d ((S.ds d).done w)} se/\mK H H' A n m/\H' a=some (.tup w.vs)) (fun N hN=>?_) ?_
  ·refine zt rfl (di.of ha) (W.asi w) ⟨rfl,_,rfl,?_⟩
   cases w with
   | look q =>
     refine aP (dh (show("look":Str)≠"put" by decide +kernel)) ?_
     refine hN _ _ ⟨rfl,?_,mK.refl _ _ _ _,ha⟩
     have:({S with ds:=bL S.ds d ((S.ds d).done (.look q))}:TS)=S:=by show({S with ds:=bL S.ds d (S.ds d)}:TS)=S;rw[yQ]
     rw[this];exact M
   | put q x =>
     have hq:q=(p:Int):=hpg
     subst hq
     refine bH fD ?_
     have hcp:=M.cp hd
     refine zt rfl (di.of ha) rfl (Tg rfl (eG M.bf rZ) rfl (cu.of M.copies) (bM hd) (zt rfl (di.of ha) rfl ⟨A (.cp d),_,_,p,rfl,rfl,hcp,zO (by simpa using hp),?_⟩))
     obtain⟨M1,f1⟩:=M.au3 hd (D':=(S.ds d).done (.put p x)) (by funext q;exact DS.al0 _ _ _) rfl
     have e:((List.range m).map fun q:Nat=>V.int ((S.ds d).nm q)).set p (.int x)=(List.range m).map fun q:Nat=>V.int (((S.ds d).done (.put p x)).nm q):=by
      refine yd hp ?_ fun q hq=>?_
      ·show V.int (if(p:Int)=p then x else _)=_;rw[if_pos rfl]
      ·show V.int (if(q:Int)=p then x else _)=_;rw[if_neg (by lia)]
     rw[e]
     exact hN _ _ ⟨rfl,M1,f1,(f1.tups M) a _ ha⟩
  ·rintro σ' H1 ⟨rfl,M1,f1,ha1⟩
   have hcp:=M1.cp hd
   simp only[aL]at hcp
   have hnum:((S.ds d).done w).nm (p:Int)=(S.ds d).num w:=by rw[<-hpg];exact DS.al1 _ _
   refine Tg rfl (eG M1.bf rZ) rfl (cu.of M1.copies) (bM hd) (zt rfl (di.of ha1) (W.asj w) ⟨A (.cp d),_,p,.int ((S.ds d).num w),rfl,by rw[hpg],cu.of hcp,?_,?_⟩)
   ·rw[bM hp,hnum]
   obtain⟨rv,r1,r2⟩:=M1.row
   have ayr:rv.length<sizeLine:=by rw[r2.length,List.length_map];show S.row.length<_;lia
   refine zd rfl (eG M1.bf anT) ⟨.inl ⟨rfl,_,cu.of r1⟩,zt rfl (di.of ha1) (W.asi w) ⟨_,rfl,zt rfl (di.of ha1) (W.asj w) ⟨_,rfl,zz4,fun b hb=>?_⟩⟩⟩
   have s2:=aB (o:=.tup [.str w.tag,.int d,.int w.pg,.int ((S.ds d).num w)]) hb
   refine⟨A .row,rv,_,rfl,rfl,s2 _ _ r1,ayr,?_⟩
   have rp:aH (upd H1 b (.tup [.str w.tag,.int d,.int w.pg,.int ((S.ds d).num w)])) (rv++[.ref b]) ((fY S.row d [(w.DQ,w.pg,(S.ds d).num w)]).map RE.d):=by
    unfold fY
    rw[List.map_append]
    refine aH.snoc (r2.aX (aY s2) (bW RE.flat _)) ?_
    simp only[RE.d,Rep,aH,<-W.ahQ]
    exact⟨b,_,rfl,aj,_,_,rfl,rfl,_,_,rfl,rfl,_,_,rfl,rfl,_,_,rfl,rfl,rfl⟩
   obtain⟨M3,f3⟩:=(M1.same s2).alH rp
   exact⟨_,rfl,k _ M3 ((f1.trans (mK.of_same (A:=A) s2) (Mv.refl _ _ _ _)).trans f3 (Mv.refl _ _ _ _))⟩
theorem Xr(T:Txt K w mg t):c7 P w K mg base nP 2 t.gD t.tG ["_law_town","_law_desk"] avm:=by
 refine T.Hz.ok gK (fun vs H Q E h=>?_) (fun cdv A outer s H vs Q E hr h=>?_)
 ·obtain⟨A,n,m,S,se,l,r,d,p,rfl,_⟩:=h;rfl
 ·obtain⟨A,n,m,S,se,l,r,d,p,rfl,M,hd,hdn,hlp,hp,hni,hws,hrl,hul,k⟩:=h
  have hu:=kZ hr
  have sl:sizeLine=16777216:=by decide
  refine⟨_,(ao (bh (i:=2) gK.nd rfl (Or.inl rfl) (fj PySem.F.plainAttrs_list PySem.F.slot_list_pop PySem.F.type_list_pop DG (aN bB (bG hu (pv 0) aD (fun _ _=>rfl)) (pv 1) (fun _ _=>rfl)) (aa aA aq)))
   (ao (bh (i:=3) gK.nd rfl (Or.inl rfl) (aN bz (pv 2) aA (fun _ _=>rfl)))
   (ao (bh (i:=4) gK.nd rfl (Or.inl rfl) (aN bB (aN bB (bG hu (pv 0) aD (fun _ _=>rfl)) (pv 1) (fun _ _=>rfl)) (pv 3) (fun _ _=>rfl)))
   (ao (cg (aU cQ (aN bz (pv 2) aA (fun _ _=>rfl)) aD (bj _)) (ao (yI (aN bz (pv 2) aA (fun _ _=>rfl)) (Ja (aN bB (bG hu (pv 0) aD (fun _ _=>rfl)) (pv 1) (fun _ _=>rfl)) (pv 3) set_list))
   (ao (yI (aN bz (pv 2) aA (fun _ _=>rfl)) (Ja (aN bB (bG hu (pv 0) aD (fun _ _=>rfl)) (pv 1) (fun _ _=>rfl)) (pv 3) set_list))
   (ao (bh (i:=5) gK.nd rfl (Or.inl rfl) (aN bB (bG hu (pv 0) aD (fun _ _=>rfl)) (pv 1) (fun _ _=>rfl)))
   (ao (cg (PW.pt (Pn (rQ (qT (pv 5))) (Pn (aU cQ (aN bz (pv 5) aA (fun _ _=>rfl)) (pv 3) (bj _)) (Ks (oG (cC (RN T) (hr.mono (by decide):bQ 1 _) (by rfl) T.Xf T.Jp.kp T.Xe .nil bU (aa (aN bz (pv 2) aA (fun _ _=>rfl)) (aa (pv 5) aq)))))))) (ao (yI rP (Ja (bG hu (pv 0) aD (fun _ _=>rfl)) (pv 1) set_list))
   (aC (bO (cC (Fl T) (hr.mono (by decide):bQ 1 _) (by rfl) T.Hy T.wz.kp T.Hx .nil bU (aa (pv 0) (aa (pv 1) (aa (pv 5) aq))))))) bC)
   (aC (bw (pv 2))))))) bC)
   (ao (bh (i:=6) gK.nd rfl (Or.inl rfl) rP)
   (ao (cg (aU cQ (pv 4) aD (bj _)) (aC (bh (i:=6) gK.nd rfl (Or.inl rfl) (aN bB (aN bB (bG hu (pv 0) aD (fun _ _=>rfl)) (pv 1) (fun _ _=>rfl)) (pv 3) (fun _ _=>rfl)))) bC)
   (ao (cg (PW.pt (wU (aU cQ (pv 4) aD (bj _)) (qe (aU cQ (aN bz (pv 2) aA (fun _ _=>rfl)) aD (bj _))))) (aC (yI (aN bz (pv 2) aA (fun _ _=>rfl)) (Ja (aN bB (bG hu (pv 0) aD (fun _ _=>rfl)) (pv 1) (fun _ _=>rfl)) (pv 3) set_list))) bC)
   (ao (bO (fj PySem.F.plainAttrs_list PySem.F.slot_list_append PySem.F.type_list_append cH (aN bB (bG hu (pv 0) aD (fun _ _=>rfl)) (pv 1) (fun _ _=>rfl)) (aa (bZ (aa aD (aa (pv 3) (aa (pv 6) aq)))) aq)))
   (aC (bw (pv 2))))))))))),?_⟩
  try dsimp only[dw,Cx.kI]
  show let Z1:L2.TS:=_;let Z2:L2.TS:=_;let Z3:L2.TS:=_;let Z4:L2.TS:=_;let Z5:L2.TS:=_;let Z6:L2.TS:=_;let Z7:L2.TS:=_;let Z8:L2.TS:=_;let Z9:L2.TS:=aR Z7 (Z8);let Bh:L2.TS:=dg _ Z9 bK;let Mh:L2.TS:=_;let Mi:L2.TS:=aR Z4 (aR Z5 (aR Z6 (aR Bh (Mh))));let RL:L2.TS:=dg _ Mi bK;let RM:L2.TS:=_;let Z15:L2.TS:=_;let Z16:L2.TS:=dg _ Z15 bK;let Z17:L2.TS:=_;let Z18:L2.TS:=dg _ Z17 bK;let Z19:L2.TS:=_;let Z20:L2.TS:=_;let D0:Ends:=_;(aR Z1 (aR Z2 (aR Z3 (aR RL (aR RM (aR Z16 (aR Z18 (aR Z19 (Z20))))))))) D0 _ _
  intro Z1 Z2 Z3 Z4 Z5 Z6 Z7 Z8 Z9 Bh Mh Mi RL RM Z15 Z16 Z17 Z18 Z19 Z20 D0
  obtain⟨dv,d1,d2⟩:=M.dn hd
  rw[hdn]at d2
  obtain⟨b,us,rfl,hb,d3⟩:=agk d2
  refine Tg rfl (eG M.bf xm) rfl (cu.of M.downs) (bM hd) ⟨.inl ⟨rfl,_,cu.of d1⟩,A (.dn d),_,0,0,_,rfl,rfl,d1,(by decide),(by decide),aly _ _,rfl,?_⟩
  rw[List.eraseIdx_cons_zero]
  obtain⟨M1,f1⟩:=M.aj6 hd d3
  have hb1:=(f1.tups M) b _ hb
  generalize upd H (A (.dn d)) (.lst us)=H1 at M1 f1 hb1
  generalize hS1:({S with dn:=bL S.dn d r}:TS)=S1 at M1
  have hds:S1.ds=S.ds:=by rw[<-hS1]
  have avn:S1.up=S.up:=by rw[<-hS1]
  have hrw:S1.row=S.row:=by rw[<-hS1]
  have hl1:Py l.vs 1=some (.int p):=by cases l<;>exact congrArg (fun z=>some (V.int z)) hlp
  have hrt:=M1.rt hd
  rw[hds]at hrt
  refine zt rfl (di.of hb1) hl1 ?_
  refine Tg rfl (eG M1.bf lH) rfl (cu.of M1.rights) (bM hd) (zl rfl (cu.of hrt) (bM hp) ?_)
  cases l with
  | lend q x y =>
    have hq:q=(p:Int):=hlp
    subst hq
    have hx:x=.rd\/x=.wr:=hni
    refine zt rfl (di.of hb1) rfl ⟨rfl,_,rfl,?_⟩
    refine bH fD ?_
    refine zt rfl (di.of hb1) rfl (Tg rfl (eG M1.bf lH) rfl (cu.of M1.rights) (bM hd) ⟨_,rfl,A (.rt d),_,_,p,rfl,rfl,hrt,zO (by simpa using hp),?_⟩)
    have e1:((List.range m).map fun q:Nat=>V.str ((S.ds d).rt q).s).set p (.str x.s)=(List.range m).map fun q:Nat=>V.str (({S.ds d with rt:=((S.ds d).hold p x y).rt}:DS).rt q).s:=by
     refine yd hp ?_ fun q hq=>?_
     ·show V.str (if(p:Int)=p then x else _).s=_;rw[if_pos rfl]
     ·show V.str (if(q:Int)=p then x else _).s=_;rw[if_neg (by lia)]
    rw[e1]
    obtain⟨M2,f2⟩:=M1.arI hd (D':={S.ds d with rt:=((S.ds d).hold p x y).rt}) (by rw[hds]) (by rw[hds])
    have hb2:=(f2.tups M1) b _ hb1
    have f12:=f1.trans f2 (Mv.refl _ _ _ _)
    generalize upd H1 (A (.rt d)) (.lst ((List.range m).map fun q:Nat=>V.str (({S.ds d with rt:=((S.ds d).hold p x y).rt}:DS).rt q).s))=H2 at M2 f2 hb2 f12
    have hcp:=M2.cp hd
    simp only[aL]at hcp
    refine zt rfl (di.of hb2) rfl (Tg rfl (eG M2.bf rZ) rfl (cu.of M2.copies) (bM hd) ⟨_,rfl,A (.cp d),_,_,p,rfl,rfl,hcp,zO (by simpa using hp),?_⟩)
    have e2:((List.range m).map fun q:Nat=>V.int ((S.ds d).nm q)).set p (.int y)=(List.range m).map fun q:Nat=>V.int (((S.ds d).hold p x y).nm q):=by
     refine yd hp ?_ fun q hq=>?_
     ·show V.int (if(p:Int)=p then y else _)=_;rw[if_pos rfl]
     ·show V.int (if(q:Int)=p then y else _)=_;rw[if_neg (by lia)]
    dsimp only
    rw[e2]
    obtain⟨M3,f3⟩:=M2.au3 hd (D':=(S.ds d).hold p x y) (by simp only[aL]) (by simp only[aL];rfl)
    simp only[lY,hds]at M3
    have hb3:=(f3.tups M2) b _ hb2
    have f13:=f12.trans f3 (Mv.refl _ _ _ _)
    generalize upd H2 (A (.cp d)) (.lst ((List.range m).map fun q:Nat=>V.int (((S.ds d).hold p x y).nm q)))=H3 at M3 f3 hb3 f13
    generalize hS3:({S1 with ds:=bL S.ds d ((S.ds d).hold p x y)}:TS)=S3 at M3
    have hd3:S3.ds d=(S.ds d).hold p x y:=by rw[<-hS3];exact aL _ _ _
    obtain⟨wv,w1,w2,w3⟩:=M3.dF
    obtain⟨v,v1,v2⟩:=w3 d hd
    rw[hd3,DS.acu]at v2
    have hfin:S.Te d (.lend p x y) r={S3 with ds:=bL S3.ds d ((S.ds d).pK p x y).1,up:=S.up,row:=fY S.row d ((S.ds d).pK p x y).2}:=by
     rw[<-hS3,<-hS1]
     simp only[TS.Te,TS.jx,DS.xf,lY,List.append_nil,yQ]
    refine Tg rfl (eG M3.bf lG) rfl (cu.of w1) (yL v1) ?_
    have none_:((S.ds d).pK p x y)=((S.ds d).hold p x y,[])->aZ H3 A n m (S.Te d (.lend p x y) r) se:=fun e=>by
     rw[hfin,e]
     have:({S3 with ds:=bL S3.ds d ((S.ds d).hold p x y),up:=S.up,row:=fY S.row d []}:TS)=S3:=by
      rw[<-hd3,yQ,<-hS3,<-hS1];unfold fY;simp
     rw[this];exact M3
    cases hw:(S.ds d).ws with
    | none =>
      rw[hw]at v2
      have ev:v=.non:=v2
      subst ev
      refine⟨_,rfl,_,rfl,?_⟩
      refine aP rfl (uB ?_)
      exact⟨_,rfl,k b H3 (none_ (by unfold DS.pK;rw[hw])) f13 hb3⟩
    | some w =>
      rw[hw]at v2
      obtain⟨wa,ev,hwa⟩:=v2
      subst ev
      obtain⟨q,hqm,hqp⟩:=hws w hw
      refine⟨_,rfl,_,rfl,?_⟩
      refine bH rfl ?_
      refine zt rfl (di.of hwa) (W.asj w) ⟨_,rfl,rfl,_,rfl,?_⟩
      by_cases epg:w.pg=(p:Int)
      ·refine bH (decide_eq_true (by rw[epg])) ?_
       refine zt rfl (di.of hb3) rfl ⟨_,rfl,x,wa,w,rfl,hwa,_,rfl,?_⟩
       have aib:((S.ds d).hold p x y).ok w↔w.need.k<=x.k:=by unfold DS.ok;rw[epg,DS.acp]
       by_cases hok:w.need.k<=x.k
       ·refine bH (decide_eq_true hok) ?_
        refine zd rfl (eG M3.bf lG) ⟨_,rfl,A .dF,_,_,d,rfl,rfl,w1,by rw[w2];exact zO hd,?_⟩
        obtain⟨M4,f4⟩:=M3.alI hd (v:=.non) (o:=none) w1 rfl
        rw[hd3]at M4
        have ayt:=(f4.tups M3) wa _ hwa
        have hb4:=(f4.tups M3) b _ hb3
        refine⟨_,rfl,_,rfl,_,rfl,A,n,m,_,se,wa,w,d,p,rfl,M4,hd,ayt,epg,hp,?_,fun H5 M5 f5=>?_⟩
        ·show S3.row.length<=_;rw[<-hS3];show S1.row.length<=_;rw[hrw];exact hrl
        ·refine⟨_,rfl,k b H5 ?_ ((f13.trans f4 (Mv.refl _ _ _ _)).trans f5 (Mv.refl _ _ _ _)) ((f5.tups M4) b _ hb4)⟩
         have el:(S.ds d).pK p x y=(({(S.ds d).hold p x y with ws:=none}:DS).done w,[(w.DQ,w.pg,((S.ds d).hold p x y).num w)]):=by
          unfold DS.pK;rw[hw];dsimp only;rw[if_pos ⟨epg,aib.mpr hok⟩]
         rw[hfin,el]
         simp only[aL,lY]at M5
         have en:({(S.ds d).hold p x y with ws:=none}:DS).num w=((S.ds d).hold p x y).num w:=by cases w<;>rfl
         have er:S3.row=S.row:=by rw[<-hS3];exact hrw
         have eu:S3.up=S.up:=by rw[<-hS3];exact avn
         rw[en,er]at M5
         have:({S3 with ds:=bL S3.ds d (({(S.ds d).hold p x y with ws:=none}:DS).done w),up:=S.up,row:=fY S.row d [(w.DQ,w.pg,((S.ds d).hold p x y).num w)]}:TS)={S3 with ds:=bL S3.ds d (({(S.ds d).hold p x y with ws:=none}:DS).done w),row:=fY S.row d [(w.DQ,w.pg,((S.ds d).hold p x y).num w)]}:=by rw[<-eu]
         rw[this]
         exact M5
       ·refine aP (decide_eq_false hok) ?_
        exact⟨_,rfl,k b H3 (none_ (by unfold DS.pK;rw[hw];dsimp only;rw[if_neg fun z=>hok (aib.mp z.2)])) f13 hb3⟩
      ·refine aP (decide_eq_false fun z=>epg (V.int.inj z)) (uB ?_)
       exact⟨_,rfl,k b H3 (none_ (by unfold DS.pK;rw[hw];dsimp only;rw[if_neg fun z=>epg z.1])) f13 hb3⟩
  | back q x =>
    have hq:q=(p:Int):=hlp
    subst hq
    have hx:x=.rd\/x=.no:=hni
    refine zt rfl (di.of hb1) rfl ⟨rfl,_,rfl,?_⟩
    refine aP (dh (by decide +kernel)) ?_
    try dsimp only[bK]
    refine fW (fun σ' H'=>σ'=[some (.ref (A .bf)),some (.int d),some (.ref b),some (.int p),some (.str ((S.ds d).rt p).s),none,some .non]/\H'=H1) (fun N hN=>hN _ _ ⟨rfl,rfl⟩) ?_
    rintro σ' H1' ⟨rfl,rfl⟩
    try dsimp only[bK]
    refine fW (fun σ' H'=>σ'=[some (.ref (A .bf)),some (.int d),some (.ref b),some (.int p),some (.str ((S.ds d).rt p).s),none,some (oV ((S.ds d).mJ p))]/\H'=H1') (fun N hN=>?_) ?_
    ·refine⟨_,rfl,rfl,_,rfl,?_⟩
     by_cases e:(S.ds d).rt p=.wr
     ·refine bH (by rw[e];exact fD) ?_
      have hcp:=M1.cp hd
      rw[hds]at hcp
      refine Tg rfl (eG M1.bf rZ) rfl (cu.of M1.copies) (bM hd) (zl rfl (cu.of hcp) (bM hp) ?_)
      refine hN _ _ ⟨?_,rfl⟩
      unfold DS.mJ
      rw[if_pos e];rfl
     ·refine aP (nQ (x:="write") (q:=.wr) rfl e) ?_
      refine hN _ _ ⟨?_,rfl⟩
      unfold DS.mJ
      rw[if_neg e];rfl
    ·rintro σ' avo ⟨rfl,rfl⟩
     try dsimp only[bK]
     refine fW (fun σ' H'=>σ'=[some (.ref (A .bf)),some (.int d),some (.ref b),some (.int p),some (.str ((S.ds d).rt p).s),none,some (oV ((S.ds d).mJ p))]/\aZ H' A n m {S1 with ds:=bL S1.ds d ((S.ds d).down p x)} se/\mK H H' A n m/\H' b=some (.tup (Let.back p x).vs)) (fun N hN=>?_) ?_
     ·have abS:∀D',D'=(S.ds d).hold p x ((S.ds d).nm p)->D'=(S.ds d).down p x->
       (aqL (Wa (ahE K) (jf 2) (tC (.int 2))) (auu (Wa (ahD K) (Wl (jf 0) (tC (.str "rights"))) (jf 1)) (jf 3) ap3)) {nx:=N,rt:=Q} [some (.ref (A .bf)),some (.int d),some (.ref b),some (.int p),some (.str ((S.ds d).rt p).s),none,some (oV ((S.ds d).mJ p))] avo:=fun D' eD eD2=>by
       refine zt rfl (di.of hb1) rfl (Tg rfl (eG M1.bf lH) rfl (cu.of M1.rights) (bM hd) ⟨_,rfl,A (.rt d),_,_,p,rfl,rfl,hrt,zO (by simpa using hp),?_⟩)
       have e1:((List.range m).map fun q:Nat=>V.str ((S.ds d).rt q).s).set p (.str x.s)=(List.range m).map fun q:Nat=>V.str (D'.rt q).s:=by
        rw[eD]
        refine yd hp ?_ fun q hq=>?_
        ·show V.str (if(p:Int)=p then x else _).s=_;rw[if_pos rfl]
        ·show V.str (if(q:Int)=p then x else _).s=_;rw[if_neg (by lia)]
       rw[e1]
       have enm:D'.nm=(S1.ds d).nm:=by rw[eD,hds];funext q;show(if q=(p:Int)then(S.ds d).nm p else(S.ds d).nm q)=_;split<;>simp_all
       have ews:D'.ws=(S1.ds d).ws:=by rw[eD,hds];rfl
       obtain⟨M2,f2⟩:=M1.arI hd (D':=D') enm ews
       exact hN _ _ ⟨rfl,by rw[<-eD2];exact M2,f1.trans f2 (Mv.refl _ _ _ _),(f2.tups M1) b _ hb1⟩
      have stay:(S.ds d).down p x=S.ds d->N [some (.ref (A .bf)),some (.int d),some (.ref b),some (.int p),some (.str ((S.ds d).rt p).s),none,some (oV ((S.ds d).mJ p))] avo:=fun e=>by
       refine hN _ _ ⟨rfl,?_,f1,hb1⟩
       have:({S1 with ds:=bL S1.ds d ((S.ds d).down p x)}:TS)=S1:=by rw[e,<-hds,yQ]
       rw[this];exact M1
      refine⟨_,rfl,rfl,_,rfl,?_⟩
      cases hrp:(S.ds d).rt p with
      | wr =>
        refine bH fD (mG ?_)
        rw[hrp]at abS
        refine abS _ rfl ?_
        unfold DS.down
        rw[hrp,if_neg (by rcases hx with z | z<;>rw[z]<;>decide)]
      | rd =>
        refine aP (nQ (x:="write") (q:=.wr) rfl (by intro z;cases z)) ?_
        refine zt rfl (di.of hb1) rfl ⟨rfl,_,rfl,?_⟩
        rw[hrp]at abS stay
        rcases hx with z | z
        ·subst z
         refine aP (nQ (x:="none") (q:=.no) rfl (by intro z;cases z)) ?_
         exact stay (by unfold DS.down;rw[hrp,if_pos (by decide)])
        ·subst z
         refine bH fD ?_
         exact abS _ rfl (by unfold DS.down;rw[hrp,if_neg (by decide)])
      | no =>
        refine aP (nQ (x:="write") (q:=.wr) rfl (by intro z;cases z)) ?_
        refine zt rfl (di.of hb1) rfl ⟨rfl,_,rfl,?_⟩
        rw[hrp]at abS stay
        rcases hx with z | z
        ·subst z
         refine aP (nQ (x:="none") (q:=.no) rfl (by intro z;cases z)) ?_
         exact stay (by unfold DS.down;rw[hrp,if_pos (by decide)])
        ·subst z
         refine bH fD ?_
         have e0:(S.ds d).down p .no=S.ds d:=by unfold DS.down;rw[hrp,if_pos (by decide)]
         exact abS _ rfl (by rw[e0];exact DS.akh _ _ _ hrp)
     ·rintro σ' H2 ⟨rfl,M2,f2,hb2⟩
      obtain⟨uv,u1,u2⟩:=M2.up hd
      have al3:uv.length<sizeLine:=by rw[u2.length,List.length_map];show(S1.up d).length<_;rw[avn];lia
      refine Tg rfl (eG M2.bf G8) rfl (cu.of M2.ups) (bM hd) ⟨.inl ⟨rfl,_,cu.of u1⟩,_,rfl,_,rfl,Zy,fun c hc=>?_⟩
      have s3:=aB (o:=.tup [.str "answer",.int p,oV ((S.ds d).mJ p)]) hc
      refine⟨A (.up d),uv,_,rfl,rfl,s3 _ _ u1,al3,?_⟩
      have rp:aH (upd H2 c (.tup [.str "answer",.int p,oV ((S.ds d).mJ p)])) (uv++[.ref c]) ((S1.up d++[UL.ans p ((S.ds d).mJ p)]).map UL.d):=by
       rw[List.map_append]
       exact aH.snoc (u2.aX (aY s3) (bW UL.flat _)) (Xq (l:=.ans p ((S.ds d).mJ p)) aj)
      obtain⟨M4,f4⟩:=(M2.same s3).afJ hd rp
      refine⟨_,rfl,k b _ ?_ ((f2.trans (mK.of_same (A:=A) s3) (Mv.refl _ _ _ _)).trans f4 (Mv.refl _ _ _ _)) ((f4.tups (M2.same s3)) b _ (s3 _ _ hb2))⟩
      have:S.Te d (.back p x) r={S1 with ds:=bL S1.ds d ((S.ds d).down p x),up:=bL S1.up d (S1.up d++[UL.ans p ((S.ds d).mJ p)])}:=by
       rw[<-hS1]
       simp only[TS.Te,TS.jx,DS.xf,Int.toNat_natCast,fY]
       simp
      rw[this]
      exact M4
end
end gH
namespace gH
open PySem L2
def cG.dk:cG->Int
 | .look d _=>d
 | .put d _ _=>d
 | .rest d _=>d
 | .up d=>d
 | .down d=>d
def cG.tag:cG->Str
 | .look _ _=>"look"
 | .put _ _ _=>"put"
 | .rest _ _=>"rest"
 | .up _=>"up"
 | .down _=>"down"
theorem cG.at0(x:cG):Py x.vs 0=some (.str x.tag):=by cases x<;>rfl
theorem cG.at1(x:cG):Py x.vs 1=some (.int x.dk):=by cases x<;>rfl
def ph(n m:Nat)(S:TS)(x:cG):Str:=if inR x.dk n then(match x with
 | .up d=>bif (S.up d.toNat).isEmpty then "no letter" else ""
 | .down d=>bif (S.dn d.toNat).isEmpty then "no letter" else ""
 | .rest d p=>if inR p m then(bif decide ((S.ds d.toNat).rt p=.no)then "no copy" else "")else "no page"
 | .look d p=>if inR p m then(bif (S.ds d.toNat).ws.isSome then "waiting" else "")else "no page"
 | .put d p _=>if inR p m then(bif (S.ds d.toNat).ws.isSome then "waiting" else "")else "no page")else "no desk"
theorem Xu{x y:Str}{c:Bool}:Py [V.str x,V.str y] (if c then 1 else 0)=some (.str (bif c then y else x)):=by cases c<;>rfl
def avp:Sp:=fun vs H Q _=>∃A n m S se a x,vs=[.ref (A .bf),.ref a]/\aZ H A n m S se/\H a=some (.tup (cG.vs x))/\∀H',bY H H'->Q (.str (ph n m S x)) H'
section
variable{P:Program}{w:World}{K:PySem.W.Frag}{mg:Str->Option Value}{base:Heap}{t:Jh}
theorem TY(T:Txt K w mg t):c7 P w K mg base nP 1 t.fU t.qD ["_law_town","_law_deed"] avp:=by
 refine T.Ff.ok Az (fun vs H Q E h=>?_) (fun cdv A outer s H vs Q E hr h=>?_)
 ·obtain⟨A,n,m,S,se,a,x,rfl,_⟩:=h;rfl
 ·obtain⟨A,n,m,S,se,a,x,rfl,M,ha,k⟩:=h
  have hu:=kZ hr
  have eus:(("up":Str)++("s":Str))="ups":=by decide +kernel
  have eds:(("down":Str)++("s":Str))="downs":=by decide +kernel
  refine⟨_,(ao (bh (i:=2) Az.nd rfl (Or.inl rfl) (aN bz (pv 1) aA (fun _ _=>rfl)))
   (ao (cg (PW.pt (wU (aU abu (pv 2) aA (bj _)) (qe (aU Wb (pv 2) (dM dU (by rfl) T.Be PySem.boot_len (aa (bG hu (pv 0) aD (fun _ _=>rfl)) aq)) (bj _))))) (aC (bw aD)) bC)
   (ao (cg (PW.pt (wU (aU cQ (aN bz (pv 1) aA (fun _ _=>rfl)) aD (bj _)) (qe (aU cQ (aN bz (pv 1) aA (fun _ _=>rfl)) aD (bj _))))) (aC (bw (aN bB (bN (aa aD (aa aD aq))) (iQ lW (by rfl) T.LQ PyProof.Rows.Boot.«int» (aa (mC (alp hr.ahy) (aN bB (bG hu (pv 0) (bF ahu (aN bz (pv 1) aA (fun _ _=>rfl)) aD) (fun _ _=>rfl)) (pv 2) (fun _ _=>rfl)) (bN aq) (bj _)) aq)) (fun _ _=>rfl)))) bC)
   (ao (cg (PW.pt (wU (aU abu (aN bz (pv 1) aA (fun _ _=>rfl)) aA (bj _)) (qe (aU Wb (aN bz (pv 1) aA (fun _ _=>rfl)) (dM dU (by rfl) T.Be PySem.boot_len (aa (bG hu (pv 0) aD (fun _ _=>rfl)) aq)) (bj _))))) (aC (bw aD)) bC)
   (ao (cg (aU cQ (aN bz (pv 1) aA (fun _ _=>rfl)) aD (bj _)) (aC (bw (aN bB (bN (aa aD (aa aD aq))) (iQ lW (by rfl) T.LQ PyProof.Rows.Boot.«int» (aa (mC cQ (aN bB (aN bB (bG hu (pv 0) aD (fun _ _=>rfl)) (pv 2) (fun _ _=>rfl)) (aN bz (pv 1) aA (fun _ _=>rfl)) (fun _ _=>rfl)) aD (bj _)) aq)) (fun _ _=>rfl)))) bC)
   (aC (bw (aN bB (bN (aa aD (aa aD aq))) (iQ lW (by rfl) T.LQ PyProof.Rows.Boot.«int» (aa (akX (qT (aN bB (bG hu (pv 0) aD (fun _ _=>rfl)) (pv 2) (fun _ _=>rfl)))) aq)) (fun _ _=>rfl))))))))),?_⟩
  try dsimp only[dw,Cx.kI]
  show let Z1:L2.TS:=_;let Z2:L2.TS:=_;let Z3:L2.TS:=dg _ Z2 bK;let Z4:L2.TS:=_;let Z5:L2.TS:=dg _ Z4 bK;let Z6:L2.TS:=_;let Z7:L2.TS:=dg _ Z6 bK;let Z8:L2.TS:=_;let Z9:L2.TS:=dg _ Z8 bK;let Bh:L2.TS:=_;let D0:Ends:=_;(aR Z1 (aR Z3 (aR Z5 (aR Z7 (aR Z9 (Bh)))))) D0 _ _
  intro Z1 Z2 Z3 Z4 Z5 Z6 Z7 Z8 Z9 Bh D0
  obtain⟨ws,w1,w2,w3⟩:=M.dF
  refine zt rfl (di.of ha) (cG.at1 x) ?_
  refine⟨_,rfl,_,_,rfl,rfl,_,rfl,?_⟩
  have al5:¬inR x.dk n->Q (.str "no desk") H:=fun h=>by
   have:=k H (bY.refl _)
   unfold ph at this
   rw[if_neg h]at this
   exact this
  by_cases h0:x.dk<0
  ·refine bH (decide_eq_true h0) (mG ?_)
   exact al5 fun h=>by unfold inR at h;lia
  ·refine aP (decide_eq_false h0) ?_
   refine⟨_,rfl,zd rfl (eG M.bf lG) ⟨A .dF,ws,rfl,.inl (cu.of w1),_,_,rfl,rfl,_,rfl,?_⟩⟩
   rw[w2]
   by_cases h1:(n:Int)<=x.dk
   ·refine bH (decide_eq_true h1) ?_
    exact al5 fun h=>by unfold inR at h;lia
   ·refine aP (decide_eq_false h1) ?_
    have hin:inR x.dk n:=⟨by lia,by lia⟩
    have k':=k
    unfold ph at k'
    rw[if_pos hin]at k'
    obtain⟨d,hd⟩:∃d:Nat,x.dk=(d:Int):=⟨x.dk.toNat,by lia⟩
    have hdn:d<n:=by lia
    rw[hd]
    cases x with
    | up d' =>
      have e:d'=(d:Int):=hd
      subst e
      simp only[Int.toNat_natCast]at k'
      refine zt rfl (di.of ha) rfl ⟨rfl,_,rfl,?_⟩
      refine bH fD (mG ?_)
      obtain⟨uv,u1,u2⟩:=M.up hdn
      refine⟨uA,fun z hz=>?_⟩
      have s1:=aB (o:=.lst [.str "",.str "no letter"]) hz
      refine⟨_,rfl,zt rfl (di.of (s1 _ _ ha)) rfl ⟨_,_,rfl,rfl,(by decide +kernel),A .bf,.ref (A .ups),rfl,(by rw[eus];exact eG (s1 _ _ M.bf) G8),zl rfl (cu.of (s1 _ _ M.ups)) (bM hdn) ⟨Dw,fun e he=>?_⟩⟩⟩
      have s2:=aB (o:=.lst []) he
      refine⟨A (.up d),e,uv,rfl,rfl,cu.of (s2 _ _ (s1 _ _ u1)),cu.of aj,.inr ⟨_,rfl,z,_,_,_,rfl,rfl,cu.of (s2 _ _ aj),Xu,?_⟩⟩
      have eu:uv.isEmpty=(S.up d).isEmpty:=by rw[gH.aH.isEmpty u2];cases S.up d<;>rfl
      have:=k' _ (s1.trans s2)
      rw[<-eu]at this
      exact this
    | down d' =>
      have e:d'=(d:Int):=hd
      subst e
      simp only[Int.toNat_natCast]at k'
      refine zt rfl (di.of ha) rfl ⟨rfl,_,rfl,?_⟩
      refine aP (dh (show("down":Str)≠"up" by decide +kernel)) ?_
      refine zt rfl (di.of ha) rfl ⟨rfl,_,rfl,?_⟩
      refine bH fD ?_
      obtain⟨uv,u1,u2⟩:=M.dn hdn
      refine⟨uA,fun z hz=>?_⟩
      have s1:=aB (o:=.lst [.str "",.str "no letter"]) hz
      refine⟨_,rfl,zt rfl (di.of (s1 _ _ ha)) rfl ⟨_,_,rfl,rfl,(by decide +kernel),A .bf,.ref (A .downs),rfl,(by rw[eds];exact eG (s1 _ _ M.bf) xm),zl rfl (cu.of (s1 _ _ M.downs)) (bM hdn) ⟨Dw,fun e he=>?_⟩⟩⟩
      have s2:=aB (o:=.lst []) he
      refine⟨A (.dn d),e,uv,rfl,rfl,cu.of (s2 _ _ (s1 _ _ u1)),cu.of aj,.inr ⟨_,rfl,z,_,_,_,rfl,rfl,cu.of (s2 _ _ aj),Xu,?_⟩⟩
      have eu:uv.isEmpty=(S.dn d).isEmpty:=by rw[gH.aH.isEmpty u2];cases S.dn d<;>rfl
      have:=k' _ (s1.trans s2)
      rw[<-eu]at this
      exact this
    | rest d' y =>
      have e:d'=(d:Int):=hd
      subst e
      simp only[Int.toNat_natCast]at k'
      refine zt rfl (di.of ha) rfl ⟨rfl,_,rfl,?_⟩
      refine aP (dh (show("rest":Str)≠"up" by decide +kernel)) ?_
      refine zt rfl (di.of ha) rfl ⟨rfl,_,rfl,?_⟩
      refine aP (dh (show("rest":Str)≠"down" by decide +kernel)) ?_
      refine zt rfl (di.of ha) rfl ⟨_,_,rfl,rfl,_,rfl,?_⟩
      by_cases h2:y<0
      ·refine bH (decide_eq_true h2) (mG ?_)
       have:=k' H (bY.refl _)
       rw[if_neg (fun h=>by unfold inR at h;lia)]at this
       exact this
      ·refine aP (decide_eq_false h2) ?_
       refine zt rfl (di.of ha) rfl (zd rfl (eG M.bf jV) ⟨A .cV,_,rfl,.inl (cu.of M.cV),_,_,rfl,rfl,_,rfl,?_⟩)
       rw[List.length_map,List.length_range]
       by_cases h3:(m:Int)<=y
       ·refine bH (decide_eq_true h3) ?_
        have:=k' H (bY.refl _)
        rw[if_neg (fun h=>by unfold inR at h;lia)]at this
        exact this
       ·refine aP (decide_eq_false h3) ?_
        have hy:inR y m:=⟨by lia,by lia⟩
        obtain⟨p,hp⟩:∃p:Nat,y=(p:Int):=⟨y.toNat,by lia⟩
        subst hp
        have hpm:p<m:=by lia
        rw[if_pos hy]at k'
        refine zt rfl (di.of ha) rfl ⟨rfl,_,rfl,?_⟩
        refine bH fD ?_
        refine⟨uA,fun z hz=>?_⟩
        have s1:=aB (o:=.lst [.str "",.str "no copy"]) hz
        refine Tg rfl (eG (s1 _ _ M.bf) lH) rfl (cu.of (s1 _ _ M.rights)) (bM hdn) (zt rfl (di.of (s1 _ _ ha)) rfl ⟨A (.rt d),_,p,_,rfl,rfl,cu.of (s1 _ _ (M.rt hdn)),bM hpm,rfl,.inr ⟨_,rfl,z,_,_,_,rfl,rfl,cu.of aj,Xu,?_⟩⟩)
        have:=k' _ s1
        have er:decide (V.str ((S.ds d).rt p).s=V.str "none")=decide ((S.ds d).rt p=.no):=by
         by_cases e:(S.ds d).rt p=.no
         ·rw[e];rfl
         ·rw[nQ (x:="none") (q:=.no) rfl e,decide_eq_false e]
        rw[<-er]at this
        exact this
    | look d' y =>
      have e:d'=(d:Int):=hd
      subst e
      simp only[Int.toNat_natCast]at k'
      refine zt rfl (di.of ha) rfl ⟨rfl,_,rfl,?_⟩
      refine aP (dh (show("look":Str)≠"up" by decide +kernel)) ?_
      refine zt rfl (di.of ha) rfl ⟨rfl,_,rfl,?_⟩
      refine aP (dh (show("look":Str)≠"down" by decide +kernel)) ?_
      refine zt rfl (di.of ha) rfl ⟨_,_,rfl,rfl,_,rfl,?_⟩
      by_cases h2:y<0
      ·refine bH (decide_eq_true h2) (mG ?_)
       have:=k' H (bY.refl _)
       rw[if_neg (fun h=>by unfold inR at h;lia)]at this
       exact this
      ·refine aP (decide_eq_false h2) ?_
       refine zt rfl (di.of ha) rfl (zd rfl (eG M.bf jV) ⟨A .cV,_,rfl,.inl (cu.of M.cV),_,_,rfl,rfl,_,rfl,?_⟩)
       rw[List.length_map,List.length_range]
       by_cases h3:(m:Int)<=y
       ·refine bH (decide_eq_true h3) ?_
        have:=k' H (bY.refl _)
        rw[if_neg (fun h=>by unfold inR at h;lia)]at this
        exact this
       ·refine aP (decide_eq_false h3) ?_
        have hy:inR y m:=⟨by lia,by lia⟩
        rw[if_pos hy]at k'
        refine zt rfl (di.of ha) rfl ⟨rfl,_,rfl,?_⟩
        refine aP (dh (show("look":Str)≠"rest" by decide +kernel)) ?_
        refine⟨uA,fun z hz=>?_⟩
        have s1:=aB (o:=.lst [.str "",.str "waiting"]) hz
        obtain⟨v,v1,v2⟩:=w3 d hdn
        have ev:(!decide (v=V.non))=(S.ds d).ws.isSome:=by
         cases hws:(S.ds d).ws with
         | none=>rw[hws]at v2;have e:v=.non:=v2;rw[e];rfl
         | some w'=>rw[hws]at v2;obtain⟨a',e,_⟩:=v2;rw[e];rfl
        refine Tg rfl (eG (s1 _ _ M.bf) lG) rfl (cu.of (s1 _ _ w1)) (yL v1) (.inr ⟨_,rfl,z,_,_,_,rfl,rfl,cu.of aj,Xu,?_⟩)
        have:=k' _ s1
        rw[<-ev]at this
        exact this
    | put d' y q =>
      have e:d'=(d:Int):=hd
      subst e
      simp only[Int.toNat_natCast]at k'
      refine zt rfl (di.of ha) rfl ⟨rfl,_,rfl,?_⟩
      refine aP (dh (show("put":Str)≠"up" by decide +kernel)) ?_
      refine zt rfl (di.of ha) rfl ⟨rfl,_,rfl,?_⟩
      refine aP (dh (show("put":Str)≠"down" by decide +kernel)) ?_
      refine zt rfl (di.of ha) rfl ⟨_,_,rfl,rfl,_,rfl,?_⟩
      by_cases h2:y<0
      ·refine bH (decide_eq_true h2) (mG ?_)
       have:=k' H (bY.refl _)
       rw[if_neg (fun h=>by unfold inR at h;lia)]at this
       exact this
      ·refine aP (decide_eq_false h2) ?_
       refine zt rfl (di.of ha) rfl (zd rfl (eG M.bf jV) ⟨A .cV,_,rfl,.inl (cu.of M.cV),_,_,rfl,rfl,_,rfl,?_⟩)
       rw[List.length_map,List.length_range]
       by_cases h3:(m:Int)<=y
       ·refine bH (decide_eq_true h3) ?_
        have:=k' H (bY.refl _)
        rw[if_neg (fun h=>by unfold inR at h;lia)]at this
        exact this
       ·refine aP (decide_eq_false h3) ?_
        have hy:inR y m:=⟨by lia,by lia⟩
        rw[if_pos hy]at k'
        refine zt rfl (di.of ha) rfl ⟨rfl,_,rfl,?_⟩
        refine aP (dh (show("put":Str)≠"rest" by decide +kernel)) ?_
        refine⟨uA,fun z hz=>?_⟩
        have s1:=aB (o:=.lst [.str "",.str "waiting"]) hz
        obtain⟨v,v1,v2⟩:=w3 d hdn
        have ev:(!decide (v=V.non))=(S.ds d).ws.isSome:=by
         cases hws:(S.ds d).ws with
         | none=>rw[hws]at v2;have e:v=.non:=v2;rw[e];rfl
         | some w'=>rw[hws]at v2;obtain⟨a',e,_⟩:=v2;rw[e];rfl
        refine Tg rfl (eG (s1 _ _ M.bf) lG) rfl (cu.of (s1 _ _ w1)) (yL v1) (.inr ⟨_,rfl,z,_,_,_,rfl,rfl,cu.of aj,Xu,?_⟩)
        have:=k' _ s1
        rw[<-ev]at this
        exact this
end
end gH
namespace gH
open PySem L2
theorem ac4{x:Str}(h:x≠""):(!decide (V.str x=V.str ""))=true:=by rw[dh h];rfl
def asl:Sp:=fun vs H Q _=>∃A n m S se a x t,vs=[.ref (A .bf),.ref a]/\aZ H A n m S se/\H a=some (.tup (cG.vs x))/\jU n m S/\Bd t S se/\t<=1500/\
 ∀v A' H',aZ H' A' n m (S.step n m x).1 (se++S.iT n x)->mK H H' A n m->Mv H A A' n m->Rep H' v (S.step n m x).2->Q v H'
theorem agl{n m:Nat}{S:TS}{x:cG}(h:ph n m S x≠""):S.step n m x=(S,.s (ph n m S x))/\S.iT n x=[]:=by
 unfold ph at h ⊢
 by_cases hd:inR x.dk n
 ·rw[if_pos hd]at h ⊢
  cases x with
  | up d =>
    have hd':inR d n:=hd
    simp only[TS.step,TS.iT,if_pos hd',TS.upD]at h ⊢
    cases e:S.up d.toNat with
    | nil=>exact⟨rfl,rfl⟩
    | cons l r=>rw[e]at h;exact absurd rfl h
  | down d =>
    have hd':inR d n:=hd
    simp only[TS.step,TS.iT,if_pos hd',TS.Wt]at h ⊢
    cases e:S.dn d.toNat with
    | nil=>exact⟨rfl,trivial⟩
    | cons l r=>rw[e]at h;exact absurd rfl h
  | rest d p =>
    have hd':inR d n:=hd
    simp only[TS.step,TS.iT,if_pos hd']at h ⊢
    by_cases hp:inR p m
    ·simp only[if_pos hp]at h ⊢
     by_cases e:(S.ds d.toNat).rt p=.no
     ·simp only[if_pos e,decide_eq_true e,cond_true];exact⟨trivial,trivial⟩
     ·rw[decide_eq_false e]at h;exact absurd rfl h
    ·simp only[if_neg hp];exact⟨trivial,trivial⟩
  | look d p =>
    have hd':inR d n:=hd
    simp only[TS.step,TS.iT,if_pos hd']at h ⊢
    by_cases hp:inR p m
    ·simp only[if_pos hp]at h ⊢
     cases e:(S.ds d.toNat).ws with
     | none=>rw[e]at h;exact absurd rfl h
     | some w=>unfold TS.wish;rw[e];exact⟨rfl,trivial⟩
    ·simp only[if_neg hp];exact⟨trivial,trivial⟩
  | put d p y =>
    have hd':inR d n:=hd
    simp only[TS.step,TS.iT,if_pos hd']at h ⊢
    by_cases hp:inR p m
    ·simp only[if_pos hp]at h ⊢
     cases e:(S.ds d.toNat).ws with
     | none=>rw[e]at h;exact absurd rfl h
     | some w=>unfold TS.wish;rw[e];exact⟨rfl,trivial⟩
    ·simp only[if_neg hp];exact⟨trivial,trivial⟩
 ·rw[if_neg hd]at h ⊢
  cases x<;>(simp only[cG.dk]at hd;simp[TS.step,TS.iT,hd])
theorem aic{n m:Nat}{S:TS}{x:cG}(h:ph n m S x=""):inR x.dk n/\(match x with
 | .up d=>S.up d.toNat≠[]
 | .down d=>S.dn d.toNat≠[]
 | .rest d p=>inR p m/\(S.ds d.toNat).rt p≠.no
 | .look d p=>inR p m/\(S.ds d.toNat).ws=none
 | .put d p _=>inR p m/\(S.ds d.toNat).ws=none):=by
 have nd:("no desk":Str)≠"":=by decide +kernel
 have np:("no page":Str)≠"":=by decide +kernel
 have nl:("no letter":Str)≠"":=by decide +kernel
 have nc:("no copy":Str)≠"":=by decide +kernel
 have nw:("waiting":Str)≠"":=by decide +kernel
 unfold ph at h
 by_cases hd:inR x.dk n
 ·rw[if_pos hd]at h
  refine⟨hd,?_⟩
  cases x with
  | up d=>intro e;dsimp only at h;rw[e]at h;exact nl h
  | down d=>intro e;dsimp only at h;rw[e]at h;exact nl h
  | rest d p =>
    dsimp only at h ⊢
    by_cases hp:inR p m
    ·rw[if_pos hp]at h
     refine⟨hp,fun e=>?_⟩
     rw[decide_eq_true e]at h
     exact nc h
    ·rw[if_neg hp]at h;exact absurd h np
  | look d p =>
    dsimp only at h ⊢
    by_cases hp:inR p m
    ·rw[if_pos hp]at h
     refine⟨hp,?_⟩
     cases e:(S.ds d.toNat).ws with
     | none=>rfl
     | some w=>rw[e]at h;exact absurd h nw
    ·rw[if_neg hp]at h;exact absurd h np
  | put d p y =>
    dsimp only at h ⊢
    by_cases hp:inR p m
    ·rw[if_pos hp]at h
     refine⟨hp,?_⟩
     cases e:(S.ds d.toNat).ws with
     | none=>rfl
     | some w=>rw[e]at h;exact absurd h nw
    ·rw[if_neg hp]at h;exact absurd h np
 ·rw[if_neg hd]at h;exact absurd h nd
theorem Bd.room{t:Nat}{S:TS}{se:List (Nat×Let)}(b:Bd t S se)(ht:t<=1500){k:Nat}(hk:k<=6000000):Bj S se k:=by
 have:=aqd ht
 exact⟨fun d=>by have:=b.dn d;lia,by have:=b.se;lia⟩
theorem ajr{H:Hp}{b:Addr}{l:Let}(h:H b=some (.tup l.vs)):Rep H (.ref b) l.d:=by
 cases l with
 | lend p x y=>simp only[Let.d,Rep,aH];exact⟨b,_,rfl,h,_,_,rfl,rfl,_,_,rfl,rfl,_,_,rfl,rfl,_,_,rfl,rfl,rfl⟩
 | back p x=>simp only[Let.d,Rep,aH];exact⟨b,_,rfl,h,_,_,rfl,rfl,_,_,rfl,rfl,_,_,rfl,rfl,rfl⟩
def wd(d:Int):W->cG
 | .look p=>.look d p
 | .put p x=>.put d p x
def abT(S:DS):W->D
 | .look p=>.i (S.nm p)
 | .put _ _=>.s "done"
theorem ayv(w:W):w.vs=.str w.tag::w.vs.tail:=by cases w<;>rfl
theorem avq(w:W):w.vs.tail≠[]:=by cases w<;>simp[W.vs]
theorem al6(d:Int)(w:W):Py (wd d w).vs 2=some (.int w.pg):=by cases w<;>rfl
theorem asm(d:Int)(w:W):S7 (wd d w).vs (some 2) none=w.vs.tail:=by cases w<;>rfl
theorem avr(d:Int)(w:W):¬(HT.mz (wd d w).vs.length 0 (some 2)=0/\HT.mz (wd d w).vs.length (wd d w).vs.length none=(wd d w).vs.length):=by
 cases w with
 | look p=>intro h;exact absurd (show HT.mz 3 0 (some 2)=0 from h.1) (by decide)
 | put p x=>intro h;exact absurd (show HT.mz 4 0 (some 2)=0 from h.1) (by decide)
theorem asn(d:Int)(w:W):(wd d w).tag=w.tag:=by cases w<;>rfl
theorem avs(d:Int)(w:W):(wd d w).dk=d:=by cases w<;>rfl
theorem aso(d:Int)(w:W):[V.str w.tag].length+w.vs.tail.length<=sizeLine:=by
 cases w with
 | look p=>show 2<=16777216;decide
 | put p x=>show 3<=16777216;decide
theorem avt(w:W):w.tag≠"up":=by
 cases w with
 | look p=>show("look":Str)≠"up";decide +kernel
 | put p x=>show("put":Str)≠"up";decide +kernel
theorem aoc(w:W):w.tag≠"down":=by
 cases w with
 | look p=>show("look":Str)≠"down";decide +kernel
 | put p x=>show("put":Str)≠"down";decide +kernel
theorem aod(w:W):w.tag≠"rest":=by
 cases w with
 | look p=>show("look":Str)≠"rest";decide +kernel
 | put p x=>show("put":Str)≠"rest";decide +kernel
theorem ajs{n m:Nat}{S:TS}{d p:Nat}{w:W}(hd:d<n)(hp:p<m)(hw:w.pg=(p:Int))(h0:(S.ds d).ws=none) :
 S.step n m (wd d w)=(S.jx d ((S.ds d).iJ w p),if(S.ds d).ok w then abT (S.ds d) w else .s "waits")/\S.iT n (wd d w)=[]:=by
 have h1:inR (d:Int) n:=⟨by lia,by lia⟩
 have h2:inR w.pg m:=by rw[hw];exact⟨by lia,by lia⟩
 cases w with
 | look y =>
   have hy:y=(p:Int):=hw
   subst hy
   have h2':inR (p:Int) m:=h2
   simp only[wd,TS.step,TS.iT,if_pos h1,if_pos h2',Int.toNat_natCast,TS.wish,h0,abT]
   exact⟨trivial,trivial⟩
 | put y x =>
   have hy:y=(p:Int):=hw
   subst hy
   have h2':inR (p:Int) m:=h2
   simp only[wd,TS.step,TS.iT,if_pos h1,if_pos h2',Int.toNat_natCast,TS.wish,h0,abT]
   exact⟨trivial,trivial⟩
theorem avu{n m:Nat}{S:TS}{d:Int}{w:W}(h:ph n m S (wd d w)=""):inR d n/\inR w.pg m/\(S.ds d.toNat).ws=none:=by
 cases w with
 | look p=>exact aic (x:=.look d p) h
 | put p x=>exact aic (x:=.put d p x) h
section
variable{P:Program}{w:World}{K:PySem.W.Frag}{mg:Str->Option Value}{base:Heap}{t:Jh}
theorem aaf(T:Txt K w mg t):c7 P w K mg base nP 4 t.iD t.wj ["_law_town","_law_deed"] asl:=by
 refine T.LC.ok jw (fun vs H Q E h=>?_) (fun cdv A outer s H vs Q E hr h=>?_)
 ·obtain⟨A,n,m,S,se,a,x,tt,rfl,_⟩:=h;rfl
 ·obtain⟨A,n,m,S,se,a,x,tt,rfl,M,ha,I,B,ht,k⟩:=h
  have hu:=kZ hr
  have sl:sizeLine=16777216:=by decide
  refine⟨_,(ao (bh (i:=2) jw.nd rfl (Or.inl rfl) (cC (TY T) (hr.mono (by decide):bQ 1 _) (by rfl) T.Xh T.Ff.kp T.Xg .nil bU (aa (pv 0) (aa (pv 1) aq))))
   (ao (cg (aU Ao (pv 2) aD (bj _)) (aC (bw (pv 2))) bC)
   (ao (bh (i:=3) jw.nd rfl (Or.inl rfl) (aN bz (pv 1) aA (fun _ _=>rfl)))
   (ao (cg (aU cQ (aN bz (pv 1) aA (fun _ _=>rfl)) aD (bj _)) (aC (bw (cC (ac3 T) (hr.mono (by decide):bQ 3 _) (by rfl) T.agc T.RG.kp T.agb .nil bU (aa (pv 0) (aa (pv 3) aq))))) bC)
   (ao (cg (aU cQ (aN bz (pv 1) aA (fun _ _=>rfl)) aD (bj _)) (aC (bw (cC (Xr T) (hr.mono (by decide):bQ 2 _) (by rfl) T.aaa T.Hz.kp T.Z0 .nil bU (aa (pv 0) (aa (pv 3) aq))))) bC)
   (ao (bh (i:=4) jw.nd rfl (Or.inl rfl) (aN bB (aN bB (bG hu (pv 0) aD (fun _ _=>rfl)) (pv 3) (fun _ _=>rfl)) (aN bz (pv 1) aA (fun _ _=>rfl)) (fun _ _=>rfl)))
   (ao (cg (aU cQ (aN bz (pv 1) aA (fun _ _=>rfl)) aD (bj _)) (ao (cg (aU cQ (pv 4) aD (bj _)) (aC (bO (fj PySem.F.plainAttrs_list PySem.F.slot_list_append PySem.F.type_list_append cH (aN bB (bG hu (pv 0) aD (fun _ _=>rfl)) (pv 3) (fun _ _=>rfl)) (aa (bZ (aa aD (aa (aN bz (pv 1) aA (fun _ _=>rfl)) (aa (aN bB (aN bB (bG hu (pv 0) aD (fun _ _=>rfl)) (pv 3) (fun _ _=>rfl)) (aN bz (pv 1) aA (fun _ _=>rfl)) (fun _ _=>rfl)) aq)))) aq)))) bC)
   (ao (yI aD (Ja (aN bB (bG hu (pv 0) aD (fun _ _=>rfl)) (pv 3) (fun _ _=>rfl)) (aN bz (pv 1) aA (fun _ _=>rfl)) set_list))
   (aC (bw aD)))) bC)
   (ao (bh (i:=5) jw.nd rfl (Or.inl rfl) (bF anB (bZ (aa (aN bz (pv 1) aA (fun _ _=>rfl)) aq)) (Wi aqT (pv 1) (ach aA) acg)))
   (ao (cg (oG (cC (RN T) (hr.mono (by decide):bQ 1 _) (by rfl) T.Xf T.Jp.kp T.Xe .nil bU (aa (pv 4) (aa (pv 5) aq)))) (ao (bh (i:=6) jw.nd rfl (Or.inl rfl) (cC (Fl T) (hr.mono (by decide):bQ 1 _) (by rfl) T.Hy T.wz.kp T.Hx .nil bU (aa (pv 0) (aa (pv 3) (aa (pv 5) aq)))))
   (aC (bw (aN bB (bN (aa (pv 6) (aa aD aq))) (iQ lW (by rfl) T.LQ PyProof.Rows.Boot.«int» (aa (mC cQ (aN bz (pv 1) aA (fun _ _=>rfl)) aD (bj _)) aq)) (fun _ _=>rfl))))) bC)
   (ao (yI (pv 5) (Ja (bG hu (pv 0) aD (fun _ _=>rfl)) (pv 3) set_list))
   (ao (bO (fj PySem.F.plainAttrs_list PySem.F.slot_list_append PySem.F.type_list_append cH (aN bB (bG hu (pv 0) aD (fun _ _=>rfl)) (pv 3) (fun _ _=>rfl)) (aa (bZ (aa aD (aa (aN bz (pv 1) aA (fun _ _=>rfl)) (aa (aN bB (bN (aa aD (aa aD aq))) (iQ lW (by rfl) T.LQ PyProof.Rows.Boot.«int» (aa (mC cQ (aN bz (pv 1) aA (fun _ _=>rfl)) aD (bj _)) aq)) (fun _ _=>rfl)) aq)))) aq)))
   (aC (bw aD))))))))))))),?_⟩
  try dsimp only[dw,Cx.kI]
  show let Z1:L2.TS:=_;let Z2:L2.TS:=_;let Z3:L2.TS:=dg _ Z2 bK;let Z4:L2.TS:=_;let Z5:L2.TS:=_;let Z6:L2.TS:=dg _ Z5 bK;let Z7:L2.TS:=_;let Z8:L2.TS:=dg _ Z7 bK;let Z9:L2.TS:=_;let Bh:L2.TS:=_;let Mh:L2.TS:=dg _ Bh bK;let Mi:L2.TS:=_;let RL:L2.TS:=_;let RM:L2.TS:=aR Mh (aR Mi (RL));let Z15:L2.TS:=dg _ RM bK;let Z16:L2.TS:=_;let Z17:L2.TS:=_;let Z18:L2.TS:=_;let Z19:L2.TS:=aR Z17 (Z18);let Z20:L2.TS:=dg _ Z19 bK;let Z21:L2.TS:=_;let Z22:L2.TS:=_;let Z23:L2.TS:=_;let D0:Ends:=_;(aR Z1 (aR Z3 (aR Z4 (aR Z6 (aR Z8 (aR Z9 (aR Z15 (aR Z16 (aR Z20 (aR Z21 (aR Z22 (Z23)))))))))))) D0 _ _
  intro Z1 Z2 Z3 Z4 Z5 Z6 Z7 Z8 Z9 Bh Mh Mi RL RM Z15 Z16 Z17 Z18 Z19 Z20 Z21 Z22 Z23 D0
  refine⟨_,rfl,_,rfl,A,n,m,S,se,a,x,rfl,M,ha,fun H1 s1=>?_⟩
  have M1:=M.same s1
  have f1:mK H H1 A n m:=mK.of_same s1
  have ha1:=s1 _ _ ha
  refine⟨_,rfl,rfl,_,rfl,?_⟩
  by_cases hw:ph n m S x=""
  ·refine aP (by rw[hw];rfl) ?_
   obtain⟨hdk,hx⟩:=aic hw
   obtain⟨d,hd⟩:∃d:Nat,x.dk=(d:Int):=⟨x.dk.toNat,by unfold inR at hdk;lia⟩
   have hdn:d<n:=by unfold inR at hdk;lia
   rw[hw]
   refine zt rfl (di.of ha1) (cG.at1 x) ?_
   rw[hd]
   by_cases hwd:∃d' w,x=wd d' w
   ·obtain⟨d',w,rfl⟩:=hwd
    have e:d'=(d:Int):=by rw[avs]at hd;exact hd
    subst e
    obtain⟨_,hy,hno⟩:=avu hw
    simp only[Int.toNat_natCast]at hno
    obtain⟨p,hp⟩:∃p:Nat,w.pg=(p:Int):=⟨w.pg.toNat,by unfold inR at hy;lia⟩
    have hpm:p<m:=by unfold inR at hy;lia
    obtain⟨est,ese⟩:=ajs (S:=S) hdn hpm hp hno
    rw[est,ese,List.append_nil]at k
    have a0:Py (wd d w).vs 0=some (.str w.tag):=by rw[<-asn d w];exact cG.at0 _
    have hrow:=B.row
    have avx:=B.up d
    refine zt rfl (di.of ha1) a0 ⟨rfl,_,rfl,?_⟩
    refine aP (dh (avt w)) ?_
    refine zt rfl (di.of ha1) a0 ⟨rfl,_,rfl,?_⟩
    refine aP (dh (aoc w)) ?_
    refine Tg rfl (eG M1.bf lH) rfl (cu.of M1.rights) (bM hdn) (zt rfl (di.of ha1) (al6 _ _) ⟨A (.rt d),_,p,_,rfl,by rw[hp],cu.of (M1.rt hdn),bM hpm,?_⟩)
    refine zt rfl (di.of ha1) a0 ⟨rfl,_,rfl,?_⟩
    refine aP (dh (aod w)) ?_
    refine zt rfl (di.of ha1) a0 ⟨zz1,fun z1 hz1=>?_⟩
    have s2:=aB (o:=.tup [.str w.tag]) hz1
    have avy:upd H1 z1 (.tup [.str w.tag]) z1=some (.tup [.str w.tag]):=aj
    generalize upd H1 z1 (.tup [.str w.tag])=H2 at s2 avy
    refine⟨_,rfl,_,rfl,a,_,rfl,di.of (s2 _ _ ha1),avr _ _,fun z2 hz2=>?_⟩
    rw[asm]
    have s3:=aB (o:=.tup w.vs.tail) hz2
    have avz:upd H2 z2 (.tup w.vs.tail) z2=some (.tup w.vs.tail):=aj
    generalize upd H2 z2 (.tup w.vs.tail)=H3 at s3 avz
    refine⟨z1,z2,[.str w.tag],w.vs.tail,rfl,rfl,di.of (s3 _ _ avy),di.of avz,by simp,aso d w,fun z=>absurd z (avq w),fun _ z3 hz3=>?_⟩
    have ew:[V.str w.tag]++w.vs.tail=w.vs:=(ayv w).symm
    rw[ew]
    have s4:=aB (o:=.tup w.vs) hz3
    have aoe:upd H3 z3 (.tup w.vs) z3=some (.tup w.vs):=aj
    generalize upd H3 z3 (.tup w.vs)=H4 at s4 aoe
    have sA:=(s2.trans s3).trans s4
    have M4:=M1.same sA
    have f4:=f1.trans (mK.of_same (A:=A) sA) (Mv.refl _ _ _ _)
    have ha4:=sA _ _ ha1
    refine⟨_,rfl,_,rfl,(S.ds d).rt p,z3,w,rfl,aoe,_,rfl,?_⟩
    have aib:(S.ds d).ok w↔w.need.k<=((S.ds d).rt p).k:=by unfold DS.ok;rw[hp]
    by_cases hok:w.need.k<=((S.ds d).rt p).k
    ·refine bH (decide_eq_true hok) ?_
     rw[if_pos (aib.mpr hok)]at k
     refine⟨_,rfl,_,rfl,_,rfl,A,n,m,S,se,z3,w,d,p,rfl,M4,hdn,aoe,hp,hpm,(by lia),fun H5 M5 f5=>?_⟩
     have ha5:=(f5.tups M4) a _ ha4
     refine⟨_,rfl,uA,fun z4 hz4=>?_⟩
     have s6:=aB (o:=.lst [.int ((S.ds d).num w),.str "done"]) hz4
     have ewr:(S.ds d).iJ w p=((S.ds d).done w,[(w.DQ,w.pg,(S.ds d).num w)],[]):=by unfold DS.iJ;rw[if_pos (aib.mpr hok)]
     have M6:aZ (upd H5 z4 (.lst [.int ((S.ds d).num w),.str "done"])) A n m (S.jx d ((S.ds d).iJ w p)) se:=by
      have:=M5.same s6
      rw[ewr]
      have e:S.jx d ((S.ds d).done w,[(w.DQ,w.pg,(S.ds d).num w)],[])={S with ds:=bL S.ds d ((S.ds d).done w),row:=fY S.row d [(w.DQ,w.pg,(S.ds d).num w)]}:=by
       simp only[TS.jx,List.append_nil,yQ]
      rw[e];exact this
     have f6:=(f4.trans f5 (Mv.refl _ _ _ _)).trans (mK.of_same (A:=A) s6) (Mv.refl _ _ _ _)
     refine zt rfl (di.of (s6 _ _ ha5)) a0 ⟨rfl,.inr ⟨_,rfl,z4,_,_,_,rfl,rfl,cu.of aj,avb,?_⟩⟩
     refine k _ A _ M6 f6 (Mv.refl _ _ _ _) ?_
     cases w with
     | look y =>
       have hyp:y=(p:Int):=hp
       have e:decide (V.str (W.look y).tag=V.str "put")=false:=dh (show("look":Str)≠"put" by decide +kernel)
       rw[e]
       simp only[abT,Rep]
       rfl
     | put y q =>
       have e:decide (V.str (W.put y q).tag=V.str "put")=true:=fD
       rw[e]
       simp only[abT,Rep]
       rfl
    ·refine aP (decide_eq_false hok) ?_
     rw[if_neg fun z=>hok (aib.mp z)]at k
     have ewr:(S.ds d).iJ w p=({S.ds d with ws:=some w},[],[.ask p w.need]):=by unfold DS.iJ;rw[if_neg fun z=>hok (aib.mp z)]
     obtain⟨wv,w1,w2,_⟩:=M4.dF
     refine⟨_,rfl,zd rfl (eG M4.bf lG) ⟨_,rfl,A .dF,_,_,d,rfl,rfl,w1,by rw[w2];exact zO hdn,?_⟩⟩
     obtain⟨M5,f5⟩:=M4.alI hdn (v:=.ref z3) (o:=some w) w1 ⟨z3,rfl,aoe⟩
     have ha5:=(f5.tups M4) a _ ha4
     have f45:=f4.trans f5 (Mv.refl _ _ _ _)
     generalize upd H4 (A .dF) (.lst (wv.set d (.ref z3)))=H5 at M5 f5 ha5 f45
     obtain⟨uv,u1,u2⟩:=M5.up hdn
     have al3:uv.length<sizeLine:=by rw[u2.length,List.length_map];show(S.up d).length<_;lia
     refine Tg rfl (eG M5.bf G8) rfl (cu.of M5.ups) (bM hdn) ⟨.inl ⟨rfl,_,cu.of u1⟩,zt rfl (di.of ha5) (al6 _ _) ⟨uA,fun z4 hz4=>?_⟩⟩
     have s6:=aB (o:=.lst [.str "read",.str "write"]) hz4
     refine zt rfl (di.of (s6 _ _ ha5)) a0 ⟨rfl,.inr ⟨_,rfl,z4,_,_,.str w.need.s,rfl,rfl,cu.of aj,?_,Zy,fun c hc=>?_⟩⟩
     ·cases w with
      | look y =>
        have e:decide (V.str (W.look y).tag=V.str "put")=false:=dh (show("look":Str)≠"put" by decide +kernel)
        rw[e];rfl
      | put y q =>
        have e:decide (V.str (W.put y q).tag=V.str "put")=true:=fD
        rw[e];rfl
     ·have s7:=aB (o:=.tup [.str "ask",.int w.pg,.str w.need.s]) hc
      rw[hp]at s7 ⊢
      have sB:=s6.trans s7
      refine⟨A (.up d),uv,_,rfl,rfl,sB _ _ u1,al3,?_⟩
      have rp:aH (upd (upd H5 z4 (.lst [.str "read",.str "write"])) c (.tup [.str "ask",.int p,.str w.need.s])) (uv++[.ref c]) ((S.up d++[UL.ask p w.need]).map UL.d):=by
       rw[List.map_append]
       exact aH.snoc (u2.aX (aY sB) (bW UL.flat _)) (Xq (l:=.ask p w.need) aj)
      obtain⟨M7,f7⟩:=(M5.same sB).afJ hdn rp
      refine k (.str "waits") A _ ?_ ((f45.trans (mK.of_same (A:=A) sB) (Mv.refl _ _ _ _)).trans f7 (Mv.refl _ _ _ _)) (Mv.refl _ _ _ _) (by simp only[Rep])
      have e:S.jx d ((S.ds d).iJ w p)={S with ds:=bL S.ds d {S.ds d with ws:=some w},up:=bL S.up d (S.up d++[UL.ask p w.need])}:=by
       rw[ewr];simp[TS.jx,fY]
      rw[e]
      exact M7
   cases x with
   | up d' =>
     have e:d'=(d:Int):=hd
     subst e
     have al8:inR (d:Int) n:=hdk
     simp only[TS.step,TS.iT,if_pos al8,Int.toNat_natCast,TS.upD]at k hx
     obtain⟨l,r,hup⟩:=List.exists_cons_of_ne_nil hx
     rw[hup]at k
     obtain⟨I',hlp,hgd,_⟩:=I.take hdn hup
     have hmu:=B.mu l.pg
     refine zt rfl (di.of ha1) rfl ⟨rfl,_,rfl,?_⟩
     refine bH fD ?_
     refine⟨_,rfl,_,rfl,A,n,m,S,se,d,l,r,rfl,M1,hdn,hup,hlp,I.pn _ hlp,I.am _ hlp,hgd,(by lia),B.room ht (by lia),fun b A' H' M' f' mv' hb'=>?_⟩
     exact k (.ref b) A' H' M' (f1.trans f' (Mv.refl _ _ _ _)) (fun y hy=>(mv' y hy).imp id fun e=>⟨e.1,f1.lv _ e.2⟩) (Xq hb')
   | down d' =>
     have e:d'=(d:Int):=hd
     subst e
     have al8:inR (d:Int) n:=hdk
     simp only[TS.step,TS.iT,if_pos al8,Int.toNat_natCast,TS.Wt]at k hx
     obtain⟨l,r,hdn'⟩:=List.exists_cons_of_ne_nil hx
     rw[hdn']at k
     obtain⟨p,hp,hlp,hni⟩:=I.dn d hdn l (by rw[hdn'];simp)
     refine zt rfl (di.of ha1) rfl ⟨rfl,_,rfl,?_⟩
     refine aP (dh (show("down":Str)≠"up" by decide +kernel)) ?_
     refine zt rfl (di.of ha1) rfl ⟨rfl,_,rfl,?_⟩
     refine bH fD ?_
     have hrow:=B.row
     have avx:=B.up d
     refine⟨_,rfl,_,rfl,A,n,m,S,se,l,r,d,p,rfl,M1,hdn,hdn',hlp,hp,hni,I.ws d hdn,(by lia),(by lia),fun b H' M' f' hb'=>?_⟩
     exact k (.ref b) A H' (by rw[List.append_nil];exact M') (f1.trans f' (Mv.refl _ _ _ _)) (Mv.refl _ _ _ _) (ajr hb')
   | rest d' y =>
     have e:d'=(d:Int):=hd
     subst e
     have al8:inR (d:Int) n:=hdk
     obtain⟨hy,hno⟩:=hx
     obtain⟨p,hp⟩:∃p:Nat,y=(p:Int):=⟨y.toNat,by unfold inR at hy;lia⟩
     subst hp
     have hpm:p<m:=by unfold inR at hy;lia
     simp only[TS.step,TS.iT,if_pos al8,if_pos hy,Int.toNat_natCast]at k hno
     rw[if_neg hno]at k
     refine zt rfl (di.of ha1) rfl ⟨rfl,_,rfl,?_⟩
     refine aP (dh (show("rest":Str)≠"up" by decide +kernel)) ?_
     refine zt rfl (di.of ha1) rfl ⟨rfl,_,rfl,?_⟩
     refine aP (dh (show("rest":Str)≠"down" by decide +kernel)) ?_
     refine Tg rfl (eG M1.bf lH) rfl (cu.of M1.rights) (bM hdn) (zt rfl (di.of ha1) rfl ⟨A (.rt d),_,p,_,rfl,rfl,cu.of (M1.rt hdn),bM hpm,?_⟩)
     refine zt rfl (di.of ha1) rfl ⟨rfl,_,rfl,?_⟩
     refine bH fD ?_
     have avx:=B.up d
     try dsimp only[bK]
     refine fW (fun σ' H'=>σ'=[some (.ref (A .bf)),some (.ref a),some (.str ""),some (.int d),some (.str ((S.ds d).rt p).s),none,none]/\aZ H' A n m {S with up:=bL S.up d (S.up d++(if(S.ds d).rt p=.wr then [UL.gave p ((S.ds d).nm p)]else []))} se/\mK H H' A n m/\H' a=some (.tup (cG.rest d p).vs)) (fun N hN=>?_) ?_
     ·refine⟨_,rfl,rfl,_,rfl,?_⟩
      by_cases ew:(S.ds d).rt p=.wr
      ·refine bH (by rw[ew];exact fD) ?_
       rw[if_pos ew]at hN
       obtain⟨uv,u1,u2⟩:=M1.up hdn
       have al3:uv.length<sizeLine:=by rw[u2.length,List.length_map];lia
       refine Tg rfl (eG M1.bf G8) rfl (cu.of M1.ups) (bM hdn) ⟨.inl ⟨rfl,_,cu.of u1⟩,zt rfl (di.of ha1) rfl (Tg rfl (eG M1.bf rZ) rfl (cu.of M1.copies) (bM hdn) (zt rfl (di.of ha1) rfl ⟨A (.cp d),_,p,_,rfl,rfl,cu.of (M1.cp hdn),bM hpm,Zy,fun c hc=>?_⟩))⟩
       have s3:=aB (o:=.tup [.str "gave",.int p,.int ((S.ds d).nm p)]) hc
       refine⟨A (.up d),uv,_,rfl,rfl,s3 _ _ u1,al3,?_⟩
       have rp:aH (upd H1 c (.tup [.str "gave",.int p,.int ((S.ds d).nm p)])) (uv++[.ref c]) ((S.up d++[UL.gave p ((S.ds d).nm p)]).map UL.d):=by
        rw[List.map_append]
        exact aH.snoc (u2.aX (aY s3) (bW UL.flat _)) (Xq (l:=.gave p ((S.ds d).nm p)) aj)
       obtain⟨M4,f4⟩:=(M1.same s3).afJ hdn rp
       exact hN _ _ ⟨rfl,M4,(f1.trans (mK.of_same (A:=A) s3) (Mv.refl _ _ _ _)).trans f4 (Mv.refl _ _ _ _),(f4.tups (M1.same s3)) a _ (s3 _ _ ha1)⟩
      ·refine aP (nQ (x:="write") (q:=.wr) rfl ew) ?_
       rw[if_neg ew]at hN
       refine hN _ _ ⟨rfl,?_,f1,ha1⟩
       have:({S with up:=bL S.up d (S.up d++[])}:TS)=S:=by rw[List.append_nil,yQ]
       rw[this];exact M1
     ·rintro σ' H2 ⟨rfl,M2,f2,ha2⟩
      refine Tg rfl (eG M2.bf lH) rfl (cu.of M2.rights) (bM hdn) (zt rfl (di.of ha2) rfl ⟨A (.rt d),_,_,p,rfl,rfl,M2.rt hdn,zO (by simpa using hpm),?_⟩)
      have e1:((List.range m).map fun q:Nat=>V.str ((S.ds d).rt q).s).set p (.str "none")=(List.range m).map fun q:Nat=>V.str (((S.ds d).hold p .no ((S.ds d).nm p)).rt q).s:=by
       refine yd hpm ?_ fun q hq=>?_
       ·show V.str (if(p:Int)=p then Rt.no else _).s=_;rw[if_pos rfl];rfl
       ·show V.str (if(q:Int)=p then Rt.no else _).s=_;rw[if_neg (by lia)]
      dsimp only
      rw[e1]
      have enm:((S.ds d).hold p .no ((S.ds d).nm p)).nm=(S.ds d).nm:=by funext q;show(if q=(p:Int)then(S.ds d).nm p else(S.ds d).nm q)=_;split<;>simp_all
      obtain⟨M3,f3⟩:=M2.arI hdn (D':=(S.ds d).hold p .no ((S.ds d).nm p)) enm rfl
      refine k (.str "done") A _ ?_ (f2.trans f3 (Mv.refl _ _ _ _)) (Mv.refl _ _ _ _) (by simp only[Rep])
      rw[List.append_nil]
      have:S.vO d p={S with ds:=bL S.ds d ((S.ds d).hold p .no ((S.ds d).nm p)),up:=bL S.up d (S.up d++(if(S.ds d).rt p=.wr then [UL.gave p ((S.ds d).nm p)]else []))}:=by
       simp[TS.vO,TS.jx,fY]
      rw[this]
      exact M3
   | look d' y=>exact absurd ⟨_,.look _,rfl⟩ hwd
   | put d' y q=>exact absurd ⟨_,.put _ _,rfl⟩ hwd
  ·refine bH (ac4 hw) ?_
   obtain⟨e1,e2⟩:=agl hw
   refine⟨_,rfl,k _ A H1 ?_ f1 (Mv.refl _ _ _ _) ?_⟩
   ·rw[e1,e2,List.append_nil];exact M1
   ·rw[e1];simp only[Rep]
end
end gH
namespace gH
open PySem L2
def aof:Sp:=fun vs H Q _=>∃k,vs=[.int k]/\Q (.bl true) H
def asp:Sp:=fun vs H Q _=>∃v u d,vs=[v,u]/\Rep H v d/\Rep H u d/\d.size<=1000000/\∀H',bY H H'->Q (.bl true) H'
section
variable{P:Program}{w:World}{K:PySem.W.Frag}{mg:Str->Option Value}{base:Heap}{t:Jh}
theorem aid(T:Txt K w mg t):c7 P w K mg base nP 1 t.lZ t.Ji ["_law_found"] aof:=by
 refine T.abN.ok ah4 (fun vs H Q E h=>?_) (fun cdv A outer s H vs Q E hr h=>?_)
 ·obtain⟨k,rfl,_⟩:=h;rfl
 ·obtain⟨k,rfl,q⟩:=h
  refine⟨_,(aC (bw (ahr (dM lg (by rfl) T.fM PyProof.Rows.Boot.«isinstance» (aa (pv 0) (aa (rR (by rfl) T.LQ PyProof.Rows.Boot.«int») aq))) (aca (aqH (dM lg (by rfl) T.fM PyProof.Rows.Boot.«isinstance» (aa (pv 0) (aa (rR (by rfl) T.arY PyProof.Rows.Boot.«bool») aq)))))))),?_⟩
  try dsimp only[dw,Cx.kI]
  refine⟨_,rfl,_,_,.type "int",true,rfl,.int _,.inl ⟨_,rfl,arc⟩,_,rfl,mG ?_⟩
  exact⟨_,rfl,_,_,.type "int",false,rfl,.int _,.inl ⟨_,rfl,ard⟩,_,rfl,q⟩
theorem aki{H:Hp}{v:V}:∀{d:D},Rep H v d->(d=.n/\v=.non)\/(∃k,d=.i k/\v=.int k)\/(∃x,d=.s x/\v=.str x)\/(∃ds a xs,d=.t ds/\v=.ref a/\H a=some (.tup xs)/\aH H xs ds)\/(∃ds a xs,d=.l ds/\v=.ref a/\H a=some (.lst xs)/\aH H xs ds)
 | .n,r=>by simp only[Rep]at r;exact .inl ⟨rfl,r⟩
 | .i k,r=>by simp only[Rep]at r;exact .inr (.inl ⟨k,rfl,r⟩)
 | .s x,r=>by simp only[Rep]at r;exact .inr (.inr (.inl ⟨x,rfl,r⟩))
 | .t ds,r=>by simp only[Rep]at r;obtain⟨a,xs,h1,h2,h3⟩:=r;exact .inr (.inr (.inr (.inl ⟨ds,a,xs,rfl,h1,h2,h3⟩)))
 | .l ds,r=>by simp only[Rep]at r;obtain⟨a,xs,h1,h2,h3⟩:=r;exact .inr (.inr (.inr (.inr ⟨ds,a,xs,rfl,h1,h2,h3⟩)))
theorem agm{α:Type}(xs:List α)(x:α):(xs++[x])[(xs++[x]).length - 1]? = some x:=by simp
theorem agn{α:Type}(xs:List α)(x:α):(xs++[x]).dropLast=xs:=by simp
set_option maxHeartbeats 8000000 in
theorem Qs(T:Txt K w mg t):c7 P w K mg base nP 2 t.pM t.Qc ["_law_found","_law_due"] asp:=by
 refine T.Lx.ok xu (fun vs H Q E h=>?_) (fun cdv A outer s H vs Q E hr h=>?_)
 ·obtain⟨v,u,d,rfl,_⟩:=h;rfl
 ·obtain⟨v,u,d,rfl,rv,ru,hsz,k⟩:=h
  refine⟨_,(ao (bh (i:=2) xu.nd rfl (Or.inl rfl) (bN (aa (pv 0) aq)))
   (ao (bh (i:=3) xu.nd rfl (Or.inl rfl) (bN (aa (pv 1) aq)))
   (ao (V8 PassesOwn.never (aU (afx hr.ahy) (pv 3) (bN aq) (bj _)) (ao (bh (i:=4) xu.nd rfl (Or.inl rfl) (ak8 PySem.F.plainAttrs_list PySem.F.slot_list_pop PySem.F.type_list_pop ala (pv 2)))
   (ao (bh (i:=5) xu.nd rfl (Or.inl rfl) (ak8 PySem.F.plainAttrs_list PySem.F.slot_list_pop PySem.F.type_list_pop ala (pv 3)))
   (aC (cg (oG (dM lg (by rfl) T.fM PyProof.Rows.Boot.«isinstance» (aa (pv 5) (aa (bZ (aa (rR (by rfl) T.Qp PyProof.Rows.Boot.«list») (aa (rR (by rfl) T.V4 PyProof.Rows.Boot.«tuple») aq))) aq)))) (ao (cg (aU Ao (dM lg (by rfl) T.fM PyProof.Rows.Boot.«isinstance» (aa (pv 4) (aa (rR (by rfl) T.Qp PyProof.Rows.Boot.«list») aq))) (dM lg (by rfl) T.fM PyProof.Rows.Boot.«isinstance» (aa (pv 5) (aa (rR (by rfl) T.Qp PyProof.Rows.Boot.«list») aq))) (bj _)) (aC (bw V6)) bC)
   (ao (cg (PW.pt (wU (aU Ao (dM lg (by rfl) T.fM PyProof.Rows.Boot.«isinstance» (aa (pv 4) (aa (rR (by rfl) T.V4 PyProof.Rows.Boot.«tuple») aq))) (dM lg (by rfl) T.fM PyProof.Rows.Boot.«isinstance» (aa (pv 5) (aa (rR (by rfl) T.V4 PyProof.Rows.Boot.«tuple») aq))) (bj _)) (qe (aU Ao (dM dU (by rfl) T.Be PySem.boot_len (aa (pv 4) aq)) (dM dU (by rfl) T.Be PySem.boot_len (aa (pv 5) aq)) (bj _))))) (aC (bw V6)) bC)
   (ao (bO (fj PySem.F.plainAttrs_list PySem.F.slot_list_extend PySem.F.type_list_extend lE (pv 2) (aa (pv 4) aq)))
   (aC (bO (fj PySem.F.plainAttrs_list PySem.F.slot_list_extend PySem.F.type_list_extend lE (pv 3) (aa (pv 5) aq))))))) (aC (cg (rQ (ahq (pv 5))) (aC (cg (rQ (qT (pv 4))) (aC (bw V6)) bC)) (aC (cg (oG (dM lg (by rfl) T.fM PyProof.Rows.Boot.«isinstance» (aa (pv 5) (aa (rR (by rfl) T.aqh PyProof.Rows.Boot.«str») aq)))) (aC (cg (PW.pt (wU (IW (oG (dM lg (by rfl) T.fM PyProof.Rows.Boot.«isinstance» (aa (pv 4) (aa (rR (by rfl) T.aqh PyProof.Rows.Boot.«str») aq))))) (qe (aU Ao (pv 4) (pv 5) (bj _))))) (aC (bw V6)) bC)) (aC (cg (PW.pt (wU (IW (oG (cC (aid T) (hr.mono (by decide):bQ 1 _) (by rfl) T.akc T.abN.kp T.akb .nil bU (aa (pv 4) aq)))) (qe (aU Ao (pv 4) (pv 5) (bj _))))) (aC (bw V6)) bC)))))))))))
   (aC (bw V6))))),?_⟩
  try dsimp only[dw,Cx.kI]
  show let Z1:L2.TS:=_;let Z2:L2.TS:=_;let Z3:L2.TS:=_;let Z4:L2.TS:=_;let Z5:L2.TS:=_;let Z6:L2.TS:=dg _ Z5 bK;let Z7:L2.TS:=_;let Z8:L2.TS:=dg _ Z7 bK;let Z9:L2.TS:=_;let Bh:L2.TS:=_;let Mh:L2.TS:=aR Z6 (aR Z8 (aR Z9 (Bh)));let Mi:L2.TS:=_;let RL:L2.TS:=dg _ Mi bK;let RM:L2.TS:=_;let Z15:L2.TS:=dg _ RM bK;let Z16:L2.TS:=_;let Z17:L2.TS:=dg _ Z16 bK;let Z18:L2.TS:=dg _ Z15 Z17;let Z19:L2.TS:=dg _ RL Z18;let Z20:L2.TS:=dg _ Mh Z19;let Z21:L2.TS:=aR Z3 (aR Z4 (Z20));let Z22:L2.TS:=acb _ Z21;let Z23:L2.TS:=_;let D0:Ends:=_;(aR Z1 (aR Z2 (aR Z22 (Z23)))) D0 _ _
  intro Z1 Z2 Z3 Z4 Z5 Z6 Z7 Z8 Z9 Bh Mh Mi RL RM Z15 Z16 Z17 Z18 Z19 Z20 Z21 Z22 Z23 D0
  refine⟨_,rfl,zz1,fun L hL=>⟨_,rfl,zz1,fun R hR=>?_⟩⟩
  have nLR:L≠R:=fun e=>by subst e;rw[aj]at hR;cases hR
  have hR0:H R=none:=by rw[az nLR.symm]at hR;exact hR
  refine⟨fun m σ H2=>∃ds xs ys o1 o2,σ=[some v,some u,some (.ref L),some (.ref R),o1,o2]/\bY H H2/\H2 L=some (.lst xs)/\H2 R=some (.lst ys)/\aH H xs ds/\aH H ys ds/\m=D.sizes ds/\D.sizes ds<=1000000,
   ⟨_,[d],[v],[u],none,none,rfl,(aB hL).trans (aB hR),(by rw[az nLR,aj]),aj,by simp only[aH];exact⟨v,[],rfl,rv,rfl⟩,by simp only[aH];exact⟨u,[],rfl,ru,rfl⟩,rfl,by simp only[D.sizes];lia⟩,?_⟩
  rintro m σ H2 ⟨ds,xs,ys,o1,o2,rfl,s2,gL,gR,rx,ry,rfl,hb⟩
  refine⟨_,rfl,Dw,fun e he=>⟨R,e,ys,rfl,rfl,cu.of (aB he _ _ gR),cu.of aj,_,rfl,?_⟩⟩
  have s3:bY H (upd H2 e (.lst [])):=s2.trans (aB he)
  have gL3:upd H2 e (.lst []) L=some (.lst xs):=aB he _ _ gL
  have gR3:upd H2 e (.lst []) R=some (.lst ys):=aB he _ _ gR
  generalize upd H2 e (.lst [])=H3 at s3 gL3 gR3
  clear gL gR s2 he
  rcases List.eq_nil_or_concat ds with rfl | ⟨ds0,dd,rfl⟩
  ·simp only[aH]at ry
   subst ry
   refine aP rfl ?_
   exact k H3 s3
  ·rw[List.concat_eq_append]at rx ry hb ⊢
   obtain⟨xs0,x,rfl,rx0,rxl⟩:=aH.last rx
   obtain⟨ys0,y,rfl,ry0,ryl⟩:=aH.last ry
   refine bH (by simp) ?_
   refine⟨fun σ' H'=>∃m',m'<D.sizes (ds0++[dd])/\∃ds xs ys o1 o2,σ'=[some v,some u,some (.ref L),some (.ref R),o1,o2]/\bY H H'/\H' L=some (.lst xs)/\H' R=some (.lst ys)/\aH H xs ds/\aH H ys ds/\m'=D.sizes ds/\D.sizes ds<=1000000,fun σ' H' z=>z,?_⟩
   refine⟨_,rfl,.inl ⟨rfl,_,cu.of gL3⟩,L,_,x,rfl,rfl,gL3,agm _ _,?_⟩
   rw[agn]
   have gR4:upd H3 L (.lst xs0) R=some (.lst (ys0++[y])):=by rw[az nLR.symm];exact gR3
   refine⟨_,rfl,.inl ⟨rfl,_,cu.of gR4⟩,R,_,y,rfl,rfl,gR4,agm _ _,?_⟩
   rw[agn]
   have s5:bY H (upd (upd H3 L (.lst xs0)) R (.lst ys0)):=fun b o hbo=>by
    rw[az (aG hbo hR0),az (aG hbo hL)]
    exact s3 b o hbo
   have gL5:upd (upd H3 L (.lst xs0)) R (.lst ys0) L=some (.lst xs0):=by rw[az nLR,aj]
   have gR5:upd (upd H3 L (.lst xs0)) R (.lst ys0) R=some (.lst ys0):=aj
   generalize upd (upd H3 L (.lst xs0)) R (.lst ys0)=H5 at s5 gL5 gR5
   have aBq:D.sizes (ds0++[dd])=D.sizes ds0+dd.size:=by rw[D.jh];simp[D.sizes]
   have go:∀(H6:Hp),bY H5 H6->∃m',m'<D.sizes (ds0++[dd])/\∃ds xs ys o1 o2,[some v,some u,some (.ref L),some (.ref R),some x,some y]=[some v,some u,some (.ref L),some (.ref R),o1,o2]/\bY H H6/\H6 L=some (.lst xs)/\H6 R=some (.lst ys)/\aH H xs ds/\aH H ys ds/\m'=D.sizes ds/\D.sizes ds<=1000000:=fun H6 s6=>by
    have:=dd.size_pos
    exact⟨_,by lia,ds0,xs0,ys0,_,_,rfl,s5.trans s6,s6 _ _ gL5,s6 _ _ gR5,rx0,ry0,rfl,by lia⟩
   refine⟨_,rfl,uA,fun tt ht=>?_⟩
   have s6:bY H5 (upd H5 tt (.tup [.ty "list",.ty "tuple"])):=aB ht
   have h6:upd H5 tt (.tup [.ty "list",.ty "tuple"]) tt=some (.tup [.ty "list",.ty "tuple"]):=aj
   generalize upd H5 tt (.tup [.ty "list",.ty "tuple"])=H6 at s6 h6
   have sH6:=s5.trans s6
   have grow:∀(es:List D) (zs ws:List V),aH H zs es->aH H ws es->dd.size=1+D.sizes es->∀H7,bY H6 H7->∃m',m'<D.sizes (ds0++[dd])/\∃ds xs ys o1 o2,[some v,some u,some (.ref L),some (.ref R),some x,some y]=[some v,some u,some (.ref L),some (.ref R),o1,o2]/\bY H (upd (upd H7 L (.lst (xs0++zs))) R (.lst (ys0++ws)))/\(upd (upd H7 L (.lst (xs0++zs))) R (.lst (ys0++ws))) L=some (.lst xs)/\(upd (upd H7 L (.lst (xs0++zs))) R (.lst (ys0++ws))) R=some (.lst ys)/\aH H xs ds/\aH H ys ds/\m'=D.sizes ds/\D.sizes ds<=1000000:=fun es zs ws rz rw' he H7 s7=>by
    refine⟨_,?_,ds0++es,xs0++zs,ys0++ws,_,_,rfl,fun b o hbo=>?_,by rw[az nLR,aj],aj,rx0.append rz,ry0.append rw',rfl,?_⟩
    ·rw[D.jh];lia
    ·rw[az (aG hbo hR0),az (aG hbo hL)]
     exact s7 b o (sH6 b o hbo)
    ·rw[D.jh];lia
   rcases aki rxl with ⟨rfl,rfl⟩ | ⟨k1,rfl,rfl⟩ | ⟨x1,rfl,rfl⟩ | ⟨es,a,zs,rfl,rfl,ha,rz⟩ | ⟨es,a,zs,rfl,rfl,ha,rz⟩
   ·simp only[Rep]at ryl
    subst ryl
    refine⟨_,_,_,false,rfl,.non,.inr ⟨tt,_,[.type "list",.type "tuple"],rfl,h6,rfl,arj⟩,_,rfl,uB ?_⟩
    refine⟨_,rfl,_,rfl,bH rfl ?_⟩
    refine⟨_,rfl,_,rfl,aP rfl ?_⟩
    exact go H6 s6
   ·simp only[Rep]at ryl
    subst ryl
    refine⟨_,_,_,false,rfl,.int _,.inr ⟨tt,_,[.type "list",.type "tuple"],rfl,h6,rfl,arh⟩,_,rfl,uB ?_⟩
    refine⟨_,rfl,_,rfl,aP rfl ?_⟩
    refine⟨_,rfl,_,_,_,false,rfl,.int _,.inl ⟨_,rfl,kit_is⟩,_,rfl,uB ?_⟩
    refine⟨_,rfl,k1,rfl,_,rfl,uB ?_⟩
    refine⟨_,rfl,_,rfl,rfl,_,rfl,aP (by simp) ?_⟩
    exact go H6 s6
   ·simp only[Rep]at ryl
    subst ryl
    refine⟨_,_,_,false,rfl,.str _,.inr ⟨tt,_,[.type "list",.type "tuple"],rfl,h6,rfl,ari⟩,_,rfl,uB ?_⟩
    refine⟨_,rfl,_,rfl,aP rfl ?_⟩
    refine⟨_,rfl,_,_,_,true,rfl,.str _,.inl ⟨_,rfl,alr⟩,_,rfl,mG ?_⟩
    refine⟨_,rfl,_,_,_,true,rfl,.str _,.inl ⟨_,rfl,alr⟩,_,rfl,uB ?_⟩
    refine⟨_,rfl,_,rfl,rfl,_,rfl,aP (by simp) ?_⟩
    exact go H6 s6
   ·simp only[Rep]at ryl
    obtain⟨a2,zs2,rfl,ha2,rz2⟩:=ryl
    have ha6:=sH6 _ _ ha
    have Xv:=sH6 _ _ ha2
    have hl1:=rz.length
    have hl2:=rz2.length
    refine⟨_,_,_,true,rfl,.tup Xv,.inr ⟨tt,_,[.type "list",.type "tuple"],rfl,h6,rfl,kit_at⟩,_,rfl,mG ?_⟩
    refine⟨_,rfl,_,_,_,false,rfl,.tup ha6,.inl ⟨_,rfl,alu⟩,_,rfl,_,_,_,false,rfl,.tup Xv,.inl ⟨_,rfl,alu⟩,rfl,_,rfl,aP rfl ?_⟩
    refine⟨_,rfl,_,_,_,true,rfl,.tup ha6,.inl ⟨_,rfl,ahO⟩,_,rfl,_,_,_,true,rfl,.tup Xv,.inl ⟨_,rfl,ahO⟩,rfl,_,rfl,aP rfl ?_⟩
    refine⟨_,rfl,a,zs,rfl,.inr (di.of ha6),_,rfl,a2,zs2,rfl,.inr (di.of Xv),rfl,_,rfl,aP (by rw[hl1,hl2];simp) ?_⟩
    have b1:xs0.length+zs.length<=sizeLine:=by
     have q1:=rx0.length
     have q2:=D.dW ds0
     have q3:=D.dW es
     have q4:(D.t es).size=1+D.sizes es:=by simp[D.size]
     have:(1000000:Nat)<=sizeLine:=by decide
     lia
    have b2:ys0.length+zs2.length<=sizeLine:=by
     have q1:=ry0.length
     have q2:=D.dW ds0
     have q3:=D.dW es
     have q4:(D.t es).size=1+D.sizes es:=by simp[D.size]
     have:(1000000:Nat)<=sizeLine:=by decide
     lia
    have asu:a2≠L:=aG ha2 hL
    have gL6:=s6 _ _ gL5
    have gR6:upd H6 L (.lst (xs0++zs)) R=some (.lst ys0):=by rw[az nLR.symm];exact s6 _ _ gR5
    refine⟨_,rfl,.inl ⟨rfl,_,cu.of gL6⟩,_,rfl,L,a,xs0,zs,rfl,rfl,gL6,(.inr (di.of ha6)),b1,?_⟩
    refine⟨_,rfl,.inl ⟨rfl,_,cu.of gR6⟩,_,rfl,R,a2,ys0,zs2,rfl,rfl,gR6,(.inr (di.of (by rw[az asu];exact Xv))),b2,?_⟩
    exact grow es zs zs2 rz rz2 (by simp[D.size]) H6 (bY.refl _)
   ·simp only[Rep]at ryl
    obtain⟨a2,zs2,rfl,ha2,rz2⟩:=ryl
    have ha6:=sH6 _ _ ha
    have Xv:=sH6 _ _ ha2
    have hl1:=rz.length
    have hl2:=rz2.length
    refine⟨_,_,_,true,rfl,.lst Xv,.inr ⟨tt,_,[.type "list",.type "tuple"],rfl,h6,rfl,arf⟩,_,rfl,mG ?_⟩
    refine⟨_,rfl,_,_,_,true,rfl,.lst ha6,.inl ⟨_,rfl,als⟩,_,rfl,_,_,_,true,rfl,.lst Xv,.inl ⟨_,rfl,als⟩,rfl,_,rfl,aP rfl ?_⟩
    refine⟨_,rfl,_,_,_,false,rfl,.lst ha6,.inl ⟨_,rfl,alv⟩,_,rfl,_,_,_,false,rfl,.lst Xv,.inl ⟨_,rfl,alv⟩,rfl,_,rfl,aP rfl ?_⟩
    refine⟨_,rfl,a,zs,rfl,.inl (cu.of ha6),_,rfl,a2,zs2,rfl,.inl (cu.of Xv),rfl,_,rfl,aP (by rw[hl1,hl2];simp) ?_⟩
    have b1:xs0.length+zs.length<=sizeLine:=by
     have q1:=rx0.length
     have q2:=D.dW ds0
     have q3:=D.dW es
     have q4:(D.l es).size=1+D.sizes es:=by simp[D.size]
     have:(1000000:Nat)<=sizeLine:=by decide
     lia
    have b2:ys0.length+zs2.length<=sizeLine:=by
     have q1:=ry0.length
     have q2:=D.dW ds0
     have q3:=D.dW es
     have q4:(D.l es).size=1+D.sizes es:=by simp[D.size]
     have:(1000000:Nat)<=sizeLine:=by decide
     lia
    have asu:a2≠L:=aG ha2 hL
    have gL6:=s6 _ _ gL5
    have gR6:upd H6 L (.lst (xs0++zs)) R=some (.lst ys0):=by rw[az nLR.symm];exact s6 _ _ gR5
    refine⟨_,rfl,.inl ⟨rfl,_,cu.of gL6⟩,_,rfl,L,a,xs0,zs,rfl,rfl,gL6,(.inl (cu.of ha6)),b1,?_⟩
    refine⟨_,rfl,.inl ⟨rfl,_,cu.of gR6⟩,_,rfl,R,a2,ys0,zs2,rfl,rfl,gR6,(.inl (cu.of (by rw[az asu];exact Xv))),b2,?_⟩
    exact grow es zs zs2 rz rz2 (by simp[D.size]) H6 (bY.refl _)
end
end gH
namespace gH
open PySem L2
def nm0(ns:List Int)(i:Int):Int:=(ns[i.toNat]?).getD 0
def S0(ns:List Int):TS:=⟨fun _=>⟨fun _=>.no,nm0 ns,none⟩,pg0 ns,fun _=>[],fun _=>[],[]⟩
theorem aoi(ns:List Int):ns.map V.int=(List.range ns.length).map fun p:Nat=>V.int (nm0 ns p):=by
 refine List.ext_getElem? fun i=>?_
 rw[List.getElem?_map,List.getElem?_map]
 by_cases h:i<ns.length
 ·rw[List.getElem?_range h,List.getElem?_eq_getElem h]
  simp[nm0,h]
 ·rw[List.getElem?_eq_none (by lia),List.getElem?_eq_none (by simpa using h)]
  rfl
theorem akj(n:Nat)(v:V):List.replicate n v=(List.range n).map fun _=>v:=by
 rw[List.map_const',List.length_range]
theorem ye{n:Nat}{acc:Addr}{te:TE}{σ:St}{H1:Hp}{Q:VK}{c:List V}(Pσ:St->Prop)(h0:Pσ σ)(hacc:H1 acc=none)(hn:n<=1000)
 (hg:∀i σ',Pσ σ'->Pσ (σ'.set 0 (some (.int i))))
 (hel:∀σ' H' (R:VK),Pσ σ'->bY H1 H'->(∀l Zz,H' l=none->bY H' Zz->Zz l=some (.lst c)->R (.ref l) Zz)->te σ' H' R)
 (hd:∀(f:Nat->Addr) H',bY H1 H'->H' acc=some (.lst ((List.range n).map fun d=>V.ref (f d)))->(∀d,d<n->H1 (f d)=none/\f d≠acc/\H' (f d)=some (.lst c))->(∀d e,d<n->e<n->f d=f e->d=e)->Q (.ref acc) H') :
 DN (Itr 0 n) (abt 0) aj1 te σ acc H1 Q:=by
 have sl:sizeLine=16777216:=by decide
 let PV1:Nat->List V->St->Hp->Prop:=fun i zs σ' H'=>Pσ σ'/\bY H1 H'/\H' acc=some (.lst zs)/\∃f:Nat->Addr,zs=(List.range i).map (fun d=>V.ref (f d))/\(∀d,d<i->H1 (f d)=none/\f d≠acc/\H' (f d)=some (.lst c))/\∀d e,d<i->e<i->f d=f e->d=e
 refine yP PV1 ?_ ?_ ?_ ?_
 ·exact⟨h0,aB hacc,aj,fun _=>0,rfl,fun d hd=>absurd hd (Nat.not_lt_zero _),fun d e hd=>absurd hd (Nat.not_lt_zero _)⟩
 ·rintro i zs σ' H' _ ⟨_,_,h,_⟩
  exact h
 ·rintro i zs σ' H' hi ⟨hp,s',ha',f,rfl,hf,inj⟩
  refine aco (hel _ H' _ (hg _ _ hp) s' fun l Zz hl s'' hl''=>?_)
  have aoj:=s'' _ _ ha'
  have nal:acc≠l:=aG ha' hl
  have hz:((List.range i).map fun d=>V.ref (f d)).length<sizeLine:=by rw[List.length_map,List.length_range];lia
  refine wY.mk hi aoj hz ⟨hg _ _ hp,fC (s'.trans s'') hacc,aj,bL f i l,?_,fun d hd=>?_,fun d e hd he h=>?_⟩
  ·rw[List.range_succ,List.map_append]
   congr 1
   ·refine List.map_congr_left fun d hd=>?_
    rw[bD _ _ (Nat.ne_of_lt (List.mem_range.mp hd))]
   ·show [V.ref l]=[V.ref _];rw[aL]
  ·by_cases e:d=i
   ·subst e
    rw[aL]
    exact⟨bY.free s' hl,nal.symm,by rw[az nal.symm];exact hl''⟩
   ·rw[bD _ _ e]
    obtain⟨h1,h2,h3⟩:=hf d (by lia)
    exact⟨h1,h2,by rw[az h2];exact s'' _ _ h3⟩
  ·have nl:∀d,d<i->f d≠l:=fun d hd=>aG (hf d hd).2.2 hl
   by_cases h1:d=i
   ·by_cases h2:e=i
    ·rw[h1,h2]
    ·rw[h1,aL,bD _ _ h2]at h;exact absurd h.symm (nl e (by lia))
   ·by_cases h2:e=i
    ·rw[h2,aL,bD _ _ h1]at h;exact absurd h (nl d (by lia))
    ·rw[bD _ _ h1,bD _ _ h2]at h;exact inj d e (by lia) (by lia) h
 ·rintro zs σ' H' ⟨_,s',ha',f,rfl,hf,inj⟩
  exact hd f H' s' ha' hf inj
def oc(n:Nat)(ns:List Int)(A:Mb->Addr):Mb->HO
 | .dF=>.lst (List.replicate n .non)
 | .rights=>.lst ((List.range n).map fun d=>V.ref (A (.rt d)))
 | .copies=>.lst ((List.range n).map fun d=>V.ref (A (.cp d)))
 | .ups=>.lst ((List.range n).map fun d=>V.ref (A (.up d)))
 | .downs=>.lst ((List.range n).map fun d=>V.ref (A (.dn d)))
 | .rt _=>.lst (List.replicate ns.length (.str "none"))
 | .cp _=>.lst (ns.map V.int)
 | .bR p=>.dK (yF (pg0 ns p) (A (.iM p)) (A (.jJ p)))
 | _=>.lst []
structure ZC(n:Nat)(ns:List Int)(H Hs:Hp)(A:Mb->Addr)(ok:Mb->Prop)(kv:List (Key×V))(zs:List V):Prop where
 sm:bY H Hs
 inj:∀x y,ok x->ok y->A x=A y->x=y
 fr:∀x,ok x->H (A x)=none
 ct:∀x,ok x->x≠.bf->x≠.cV->Hs (A x)=some (oc n ns A x)
 ot:ok .bf
 os:ok .cV
 tw:Hs (A .bf)=some (.dK kv)
 sh:Hs (A .cV)=some (.lst zs)
theorem ZC.live{n:Nat}{ns:List Int}{H Hs:Hp}{A:Mb->Addr}{ok:Mb->Prop}{kv:List (Key×V)}{zs:List V}(S:ZC n ns H Hs A ok kv zs)(x:Mb)(hx:ok x):∃o,Hs (A x)=some o:=by
 by_cases h1:x=.bf
 ·rw[h1];exact⟨_,S.tw⟩
 ·by_cases h2:x=.cV
  ·rw[h2];exact⟨_,S.sh⟩
  ·exact⟨_,S.ct x hx h1 h2⟩
theorem ZC.same{n:Nat}{ns:List Int}{H Hs H2:Hp}{A:Mb->Addr}{ok:Mb->Prop}{kv:List (Key×V)}{zs:List V}(S:ZC n ns H Hs A ok kv zs)(s:bY Hs H2):ZC n ns H H2 A ok kv zs :=
 ⟨S.sm.trans s,S.inj,S.fr,fun x hx h1 h2=>s _ _ (S.ct x hx h1 h2),S.ot,S.os,s _ _ S.tw,s _ _ S.sh⟩
theorem ZC.more{n:Nat}{ns:List Int}{H Hs H2:Hp}{A A':Mb->Addr}{ok new:Mb->Prop}{kv kv':List (Key×V)}{zs:List V}(S:ZC n ns H Hs A ok kv zs)(s2:bY Hs H2)(hA:∀x,ok x->A' x=A x)(hoc:∀x,ok x->oc n ns A' x=oc n ns A x)
 (hn:∀x,new x->Hs (A' x)=none/\H2 (A' x)=some (oc n ns A' x)) (hi:∀x y,new x->new y->A' x=A' y->x=y):ZC n ns H (upd H2 (A .bf) (.dK kv')) A' (fun x=>ok x\/new x) kv' zs:=by
 have ntw:∀x,ok x->x≠.bf->A x≠A .bf:=fun x hx h e=>h (S.inj _ _ hx S.ot e)
 have aie:∀x y,ok x->new y->A x≠A' y:=fun x y hx hy e=>by
  obtain⟨o,h1⟩:=S.live x hx
  rw[e,(hn y hy).1]at h1;cases h1
 have S2:=S.same s2
 refine⟨?_,fun x y hx hy e=>?_,fun x hx=>?_,fun x hx h1 h2=>?_,.inl S.ot,.inl S.os,?_,?_⟩
 ·exact fC (S.sm.trans s2) (S.fr _ S.ot)
 ·rcases hx with hx | hx
  ·rcases hy with hy | hy
   ·rw[hA x hx,hA y hy]at e;exact S.inj x y hx hy e
   ·rw[hA x hx]at e;exact absurd e (aie x y hx hy)
  ·rcases hy with hy | hy
   ·rw[hA y hy]at e;exact absurd e.symm (aie y x hy hx)
   ·exact hi x y hx hy e
 ·rcases hx with hx | hx
  ·rw[hA x hx];exact S.fr x hx
  ·exact bY.free S.sm (hn x hx).1
 ·rcases hx with hx | hx
  ·rw[hA x hx,hoc x hx,az (ntw x hx h1)];exact S2.ct x hx h1 h2
  ·rw[az (aie _ _ S.ot hx).symm];exact(hn x hx).2
 ·rw[hA _ S.ot,aj]
 ·rw[hA _ S.os,az (ntw _ S.os (by intro z;cases z))];exact S2.sh
theorem ZC.bR{n:Nat}{ns:List Int}{H Hs H2:Hp}{A A':Mb->Addr}{ok new:Mb->Prop}{kv:List (Key×V)}{zs zs':List V}(S:ZC n ns H Hs A ok kv zs)(s2:bY Hs H2)(hA:∀x,ok x->A' x=A x)(hoc:∀x,ok x->oc n ns A' x=oc n ns A x)
 (hn:∀x,new x->Hs (A' x)=none/\H2 (A' x)=some (oc n ns A' x)) (hi:∀x y,new x->new y->A' x=A' y->x=y):ZC n ns H (upd H2 (A .cV) (.lst zs')) A' (fun x=>ok x\/new x) kv zs':=by
 have nsh:∀x,ok x->x≠.cV->A x≠A .cV:=fun x hx h e=>h (S.inj _ _ hx S.os e)
 have aie:∀x y,ok x->new y->A x≠A' y:=fun x y hx hy e=>by
  obtain⟨o,h1⟩:=S.live x hx
  rw[e,(hn y hy).1]at h1;cases h1
 have S2:=S.same s2
 refine⟨?_,fun x y hx hy e=>?_,fun x hx=>?_,fun x hx h1 h2=>?_,.inl S.ot,.inl S.os,?_,?_⟩
 ·exact fC (S.sm.trans s2) (S.fr _ S.os)
 ·rcases hx with hx | hx
  ·rcases hy with hy | hy
   ·rw[hA x hx,hA y hy]at e;exact S.inj x y hx hy e
   ·rw[hA x hx]at e;exact absurd e (aie x y hx hy)
  ·rcases hy with hy | hy
   ·rw[hA y hy]at e;exact absurd e.symm (aie y x hy hx)
   ·exact hi x y hx hy e
 ·rcases hx with hx | hx
  ·rw[hA x hx];exact S.fr x hx
  ·exact bY.free S.sm (hn x hx).1
 ·rcases hx with hx | hx
  ·rw[hA x hx,hoc x hx,az (nsh x hx h2)];exact S2.ct x hx h1 h2
  ·rw[az (aie _ _ S.os hx).symm];exact(hn x hx).2
 ·rw[hA _ S.ot,az (nsh _ S.ot (by intro z;cases z))];exact S2.tw
 ·rw[hA _ S.os,aj]
theorem ZC.weak{n:Nat}{ns:List Int}{H Hs:Hp}{A:Mb->Addr}{ok ok':Mb->Prop}{kv:List (Key×V)}{zs:List V}(S:ZC n ns H Hs A ok kv zs)(h:∀x,ok' x->ok x)(ht:ok' .bf)(hs:ok' .cV):ZC n ns H Hs A ok' kv zs :=
 ⟨S.sm,fun x y hx hy e=>S.inj x y (h x hx) (h y hy) e,fun x hx=>S.fr x (h x hx),fun x hx=>S.ct x (h x hx),ht,hs,S.tw,S.sh⟩
theorem ZC.mir{n:Nat}{ns:List Int}{H Hs:Hp}{A:Mb->Addr}(S:ZC n ns H Hs A (Mb.ok n ns.length) (tkv A) ((List.range ns.length).map fun p=>V.ref (A (.bR p)))):aZ Hs A n ns.length (S0 ns) []:=by
 refine⟨S.inj,fun x hx=>?_⟩
 cases x with
 | bf=>exact⟨_,S.tw,rfl⟩
 | cV=>exact⟨_,S.sh,rfl⟩
 | row=>exact⟨_,S.ct .row hx (by intro z;cases z) (by intro z;cases z),[],rfl,by simp[S0,aH]⟩
 | sent=>exact⟨_,S.ct .sent hx (by intro z;cases z) (by intro z;cases z),[],rfl,by simp[aH]⟩
 | dF =>
   refine⟨_,S.ct .dF hx (by intro z;cases z) (by intro z;cases z),_,rfl,List.length_replicate,fun d hd=>⟨.non,?_,rfl⟩⟩
   rw[List.getElem?_replicate,if_pos hd]
 | rights=>exact⟨_,S.ct .rights hx (by intro z;cases z) (by intro z;cases z),rfl⟩
 | copies=>exact⟨_,S.ct .copies hx (by intro z;cases z) (by intro z;cases z),rfl⟩
 | ups=>exact⟨_,S.ct .ups hx (by intro z;cases z) (by intro z;cases z),rfl⟩
 | downs=>exact⟨_,S.ct .downs hx (by intro z;cases z) (by intro z;cases z),rfl⟩
 | rt d=>exact⟨_,S.ct (.rt d) hx (by intro z;cases z) (by intro z;cases z),by show HO.lst _=HO.lst _;rw[akj];rfl⟩
 | cp d=>exact⟨_,S.ct (.cp d) hx (by intro z;cases z) (by intro z;cases z),by show HO.lst _=HO.lst _;rw[aoi];rfl⟩
 | up d=>exact⟨_,S.ct (.up d) hx (by intro z;cases z) (by intro z;cases z),[],rfl,by simp[S0,aH]⟩
 | dn d=>exact⟨_,S.ct (.dn d) hx (by intro z;cases z) (by intro z;cases z),[],rfl,by simp[S0,aH]⟩
 | bR p=>exact⟨_,S.ct (.bR p) hx (by intro z;cases z) (by intro z;cases z),rfl⟩
 | iM p=>exact⟨_,S.ct (.iM p) hx (by intro z;cases z) (by intro z;cases z),rfl⟩
 | jJ p=>exact⟨_,S.ct (.jJ p) hx (by intro z;cases z) (by intro z;cases z),[],rfl,by simp[S0,pg0,aH]⟩
def ok0(x:Mb):Prop:=x=.bf\/x=.row\/x=.dF\/x=.cV\/x=.sent
def ok8(n:Nat)(x:Mb):Prop:=(((ok0 x\/(x=.rights\/∃d,d<n/\x=.rt d))\/(x=.copies\/∃d,d<n/\x=.cp d))\/(x=.ups\/∃d,d<n/\x=.up d))\/(x=.downs\/∃d,d<n/\x=.dn d)
def A0(tw row wi sh se:Addr):Mb->Addr
 | .bf=>tw
 | .row=>row
 | .dF=>wi
 | .cV=>sh
 | _=>se
def A1(A:Mb->Addr)(a:Addr)(f:Nat->Addr):Mb->Addr
 | .rights=>a
 | .rt d=>f d
 | x=>A x
def A2(A:Mb->Addr)(a:Addr)(f:Nat->Addr):Mb->Addr
 | .copies=>a
 | .cp d=>f d
 | x=>A x
def A3(A:Mb->Addr)(a:Addr)(f:Nat->Addr):Mb->Addr
 | .ups=>a
 | .up d=>f d
 | x=>A x
def A4(A:Mb->Addr)(a:Addr)(f:Nat->Addr):Mb->Addr
 | .downs=>a
 | .dn d=>f d
 | x=>A x
def Kq(row wi sh se:Addr):List (Key×V):=[(ks "row",.ref row),(ks "wishes",.ref wi),(ks "shelves",.ref sh),(ks "sent",.ref se)]
theorem akk{row wi sh se:Addr}:Jd [] (Kq row wi sh se)=Kq row wi sh se:=by kernel_rfl
theorem aol{row wi sh se a:Addr}:putK (Kq row wi sh se) (ks "rights") (.ref a)=Kq row wi sh se++[(ks "rights",.ref a)]:=by kernel_rfl
theorem aom{row wi sh se a b:Addr}:putK (Kq row wi sh se++[(ks "rights",.ref a)]) (ks "copies") (.ref b)=Kq row wi sh se++[(ks "rights",.ref a),(ks "copies",.ref b)]:=by kernel_rfl
theorem aon{row wi sh se a b c:Addr}:putK (Kq row wi sh se++[(ks "rights",.ref a),(ks "copies",.ref b)]) (ks "ups") (.ref c)=Kq row wi sh se++[(ks "rights",.ref a),(ks "copies",.ref b),(ks "ups",.ref c)]:=by kernel_rfl
theorem aoo{row wi sh se a b c d:Addr}:putK (Kq row wi sh se++[(ks "rights",.ref a),(ks "copies",.ref b),(ks "ups",.ref c)]) (ks "downs") (.ref d)=Kq row wi sh se++[(ks "rights",.ref a),(ks "copies",.ref b),(ks "ups",.ref c),(ks "downs",.ref d)]:=by kernel_rfl
theorem aop{row wi sh se:Addr}{l:List (Key×V)}:fP (Kq row wi sh se++l) (ks "shelves")=some (.ref sh):=by kernel_rfl
theorem ajt(n:Nat)(v:V):(List.replicate n [v]).flatten=List.replicate n v:=by
 induction n with
 | zero=>rfl
 | succ n ih=>rw[List.replicate_succ,List.flatten_cons,ih,List.replicate_succ];rfl
def kvS(x:Int)(r q:Addr):List (Key×V):=[(ks "number",.int x),(ks "writer",.int (-1)),(ks "readers",.ref r),(ks "asked",.ref q),(ks "missing",.int 0)]
theorem akl{x:Int}{r q:Addr}:Jd [] (kvS x r q)=yF ⟨x,none,[],[],0⟩ r q:=by kernel_rfl
def al9:Sp:=fun vs H Q _=>∃n l,∃ns:List Int,vs=[.int ((n:Nat):Int),.ref l]/\H l=some (.lst (ns.map V.int))/\n<=1000/\ns.length<=1000/\
 ∀A H',aZ H' A n ns.length (S0 ns) []->bY H H'->(∀x:Mb,x.ok n ns.length->H (A x)=none)->Q (.ref (A .bf)) H'
section
variable{P:Program}{w:World}{K:PySem.W.Frag}{mg:Str->Option Value}{base:Heap}{t:Jh}
theorem ac5(T:Txt K w mg t):c7 P w K mg base nP 1 t.jd t.zF ["_law_count","_law_numbers"] al9:=by
 refine T.RD.ok qX (fun vs H Q E h=>?_) (fun cdv A outer s H vs Q E hr h=>?_)
 ·obtain⟨n,l,ns,rfl,_⟩:=h;rfl
 ·obtain⟨n,l,ns,rfl,hl,hn,hm,k⟩:=h
  have hu:=kZ hr
  have sl:sizeLine=16777216:=by decide
  refine' ⟨_,?sr,?_⟩
  case' sr=>refine' ao ?Xw ?Jr
  case' Jr=>refine' ao ?Xx ?Js
  case' Js=>refine' ao ?Xy ?Jt
  case' Jt=>refine' ao ?Xz ?XC
  case' XC=>refine' ao ?agp ?XD
  case' XD=>refine' ao ?agq ?XF
  case' XF=>refine' aC ?agr
  case' Xw=>refine' bh (X:=_) (x:="_law_town") (e:=_) (te:=_) (i:=2) ?aoq ?aor ?aos ?asv ?aot ?aou
  case' aoq=>exact qX.nd
  case' aor=>rfl
  case' aos=>exact(Or.inl rfl)
  case' aot=>rfl
  case' aou=>exact .inl rfl
  case' asv=>refine' aiY (X:=_) (trs:=_) ?asw ?aov ?aow ?aox ?aoy
  case' aov=>rfl
  case' aow=>rfl
  case' aox=>exact List.cons_ne_nil _ _
  case' aoy=>decide
  case' asw=>refine' mF (X:=_) (tk:=_) (tv:=_) (trs:=_) ?aoz ?aoA ?ama
  case' aoz=>exact aD
  case' aoA=>refine' (bN aq)
  case' ama=>refine' mF (X:=_) (tk:=_) (tv:=_) (trs:=_) ?aoB ?aoC ?amb
  case' aoB=>exact aD
  case' aoC=>refine' bF alb ?amc ?amd
  case' amc=>refine' (bN (aa rP aq))
  case' amd=>refine' (pv 0)
  case' amb=>refine' mF (X:=_) (tk:=_) (tv:=_) (trs:=_) ?aoD ?aoE ?ame
  case' aoD=>exact aD
  case' aoE=>refine' (bN aq)
  case' ame=>refine' mF (X:=_) (tk:=_) (tv:=_) (trs:=_) ?aoF ?aoG ?amf
  case' aoF=>exact aD
  case' aoG=>refine' (bN aq)
  case' amf=>exact aiX
  case' Xx=>exact(lz hu (pv 2) aD (lA (gF (xs:=["_law_k"]) (ys:=["_law_numbers"]) (js:=[1]) rfl (by decide +kernel) (by decide +kernel) (by decide +kernel) (by rfl) ⟨⟨rfl,Or.inl rfl⟩,trivial⟩) rfl (gU (by rfl) T.lD (aa (pv 0) aq)) (fun _ _ _ _ _=>(cU (i:=0) (show List.Nodup ((["_law_k"]:List Str)++(["_law_numbers"]:List Str):List Str)by decide +kernel) rfl (Or.inl rfl))) (fun _ _ _ _ _=>qU) (fun _ _ _ _ _=>(bF alb (bN (aa aD aq)) (dM (ZK (K:=K) rfl) (by rfl) T.Be PySem.boot_len (aa (pv 1) aq))))) (by rfl))
  case' Xy=>exact(lz hu (pv 2) aD (lA (gF (xs:=["_law_k"]) (ys:=["_law_numbers"]) (js:=[1]) rfl (by decide +kernel) (by decide +kernel) (by decide +kernel) (by rfl) ⟨⟨rfl,Or.inl rfl⟩,trivial⟩) rfl (gU (by rfl) T.lD (aa (pv 0) aq)) (fun _ _ _ _ _=>(cU (i:=0) (show List.Nodup ((["_law_k"]:List Str)++(["_law_numbers"]:List Str):List Str)by decide +kernel) rfl (Or.inl rfl))) (fun _ _ _ _ _=>qU) (fun _ _ _ _ _=>(iQ (ZL (K:=K) rfl) (by rfl) T.Qp PyProof.Rows.Boot.«list» (aa (pv 1) aq)))) (by rfl))
  case' Xz=>exact(lz hu (pv 2) aD (lA (gF (xs:=["_law_k"]) (ys:=[]) (js:=[]) rfl (by decide +kernel) (by decide +kernel) (by decide +kernel) (by rfl) trivial) rfl (gU (by rfl) T.lD (aa (pv 0) aq)) (fun _ _ _ _ _=>(cU (i:=0) (show List.Nodup ((["_law_k"]:List Str)++([]:List Str):List Str)by decide +kernel) rfl (Or.inl rfl))) (fun _ _ _ _ _=>qU) (fun _ _ _ _ _=>(bN aq))) (by rfl))
  case' agp=>exact(lz hu (pv 2) aD (lA (gF (xs:=["_law_k"]) (ys:=[]) (js:=[]) rfl (by decide +kernel) (by decide +kernel) (by decide +kernel) (by rfl) trivial) rfl (gU (by rfl) T.lD (aa (pv 0) aq)) (fun _ _ _ _ _=>(cU (i:=0) (show List.Nodup ((["_law_k"]:List Str)++([]:List Str):List Str)by decide +kernel) rfl (Or.inl rfl))) (fun _ _ _ _ _=>qU) (fun _ _ _ _ _=>(bN aq))) (by rfl))
  case' agq=>refine' yK PassesOwn.never rfl (uD (pv 1)) (cU (i:=3) qX.nd rfl (Or.inl rfl)) ?amg
  case' amg=>refine' ao ?XH ?XJ
  case' XJ=>refine' aC ?ags
  case' XH=>refine' bh (X:=_) (x:="_law_shelf") (e:=_) (te:=_) (i:=4) ?aoH ?aoI ?aoJ ?asx ?aoK ?aoL
  case' aoH=>exact qX.nd
  case' aoI=>rfl
  case' aoJ=>exact(Or.inl rfl)
  case' aoK=>rfl
  case' aoL=>exact .inl rfl
  case' asx=>refine' aiY (X:=_) (trs:=_) ?asy ?aoM ?aoN ?aoO ?aoP
  case' aoM=>rfl
  case' aoN=>rfl
  case' aoO=>exact List.cons_ne_nil _ _
  case' aoP=>decide
  case' asy=>refine' mF (X:=_) (tk:=_) (tv:=_) (trs:=_) ?aoQ ?aoR ?amh
  case' aoQ=>exact aD
  case' aoR=>refine' (pv 3)
  case' amh=>refine' mF (X:=_) (tk:=_) (tv:=_) (trs:=_) ?aoS ?aoT ?ami
  case' aoS=>exact aD
  case' aoT=>refine' (Rr Dy aA)
  case' ami=>refine' mF (X:=_) (tk:=_) (tv:=_) (trs:=_) ?aoU ?aoV ?amj
  case' aoU=>exact aD
  case' aoV=>refine' (bN aq)
  case' amj=>refine' mF (X:=_) (tk:=_) (tv:=_) (trs:=_) ?aoW ?aoX ?amk
  case' aoW=>exact aD
  case' aoX=>refine' (bN aq)
  case' amk=>refine' mF (X:=_) (tk:=_) (tv:=_) (trs:=_) ?aoY ?aoZ ?aml
  case' aoY=>exact aD
  case' aoZ=>refine' aA
  case' aml=>exact aiX
  case' ags=>exact(bO (fj PySem.F.plainAttrs_list PySem.F.slot_list_append PySem.F.type_list_append cH (bG hu (pv 2) aD (fun _ _=>rfl)) (aa (pv 4) aq)))
  case' agr=>exact(bw (pv 2))
  try dsimp only[dw,Cx.kI]
  show let Z1:L2.TS:=_;let Z2:L2.TS:=_;let Z3:L2.TS:=_;let Z4:L2.TS:=_;let Z5:L2.TS:=_;let Z6:L2.TS:=_;let Z7:L2.TS:=_;let Z8:L2.TS:=aR Z6 (Z7);let Z9:L2.TS:=ZF _ _ Z8;let Bh:L2.TS:=_;let D0:Ends:=_;(aR Z1 (aR Z2 (aR Z3 (aR Z4 (aR Z5 (aR Z9 (Bh))))))) D0 _ _
  intro Z1 Z2 Z3 Z4 Z5 Z6 Z7 Z8 Z9 Bh D0
  refine fun tw htw=>⟨Dw,fun row hrow=>⟨zz1,fun q0 hq0=>⟨_,rfl,q0,(n:Int),[.non],rfl,rfl,aj,(by lia),(by lia),?_,fun wi hwi=>⟨Dw,fun sh hsh=>⟨Dw,fun se hse=>?_⟩⟩⟩⟩⟩
  ·rw[Int.toNat_natCast];simp only[List.length_singleton];lia
  rw[Int.toNat_natCast,ajt]at *
  have ntr:tw≠row:=fun z=>by rw[<-z,aj]at hrow;cases hrow
  have ntq:tw≠q0:=fun z=>by rw[<-z,az ntr,aj]at hq0;cases hq0
  have nrq:row≠q0:=fun z=>by rw[<-z,aj]at hq0;cases hq0
  have ntw:tw≠wi:=fun z=>by rw[<-z,az ntq,az ntr,aj]at hwi;cases hwi
  have nrw:row≠wi:=fun z=>by rw[<-z,az nrq,aj]at hwi;cases hwi
  have nqw:q0≠wi:=fun z=>by rw[<-z,aj]at hwi;cases hwi
  have nts:tw≠sh:=fun z=>by rw[<-z,az ntw,az ntq,az ntr,aj]at hsh;cases hsh
  have nrs:row≠sh:=fun z=>by rw[<-z,az nrw,az nrq,aj]at hsh;cases hsh
  have nqs:q0≠sh:=fun z=>by rw[<-z,az nqw,aj]at hsh;cases hsh
  have nws:wi≠sh:=fun z=>by rw[<-z,aj]at hsh;cases hsh
  have nte:tw≠se:=fun z=>by rw[<-z,az nts,az ntw,az ntq,az ntr,aj]at hse;cases hse
  have nre:row≠se:=fun z=>by rw[<-z,az nrs,az nrw,az nrq,aj]at hse;cases hse
  have nqe:q0≠se:=fun z=>by rw[<-z,az nqs,az nqw,aj]at hse;cases hse
  have nwe:wi≠se:=fun z=>by rw[<-z,az nws,aj]at hse;cases hse
  have nse:sh≠se:=fun z=>by rw[<-z,aj]at hse;cases hse
  refine⟨by rw[az nte,az nts,az ntw,az ntq,az ntr,aj],Kq row wi sh se,rfl,(by show 4<=15;decide),?_⟩
  rw[akk]
  have ayB:H row=none:=Lv.upd _ hrow
  have fwi:H wi=none:=Lv.upd _ (Lv.upd _ (Lv.upd _ hwi))
  have fsh:H sh=none:=Lv.upd _ (Lv.upd _ (Lv.upd _ (Lv.upd _ hsh)))
  have fse:H se=none:=Lv.upd _ (Lv.upd _ (Lv.upd _ (Lv.upd _ (Lv.upd _ hse))))
  have G0:ZC n ns H (upd (upd (upd (upd (upd (upd (upd H tw (.dK [])) row (.lst [])) q0 (.lst [.non])) wi (.lst (List.replicate n .non))) sh (.lst [])) se (.lst [])) tw (.dK (Kq row wi sh se))) (A0 tw row wi sh se) ok0 (Kq row wi sh se) []:=by
   refine⟨?_,fun x y hx hy e=>?_,fun x hx=>?_,fun x hx h1 h2=>?_,.inl rfl,.inr (.inr (.inr (.inl rfl))),aj,?_⟩
   ·refine fC ?_ htw
    exact(((((aB htw).trans (aB hrow)).trans (aB hq0)).trans (aB hwi)).trans (aB hsh)).trans (aB hse)
   ·rcases hx with rfl | rfl | rfl | rfl | rfl<;>rcases hy with rfl | rfl | rfl | rfl | rfl<;>first
     | rfl
     | (exfalso;exact ntr e) | (exfalso;exact ntw e) | (exfalso;exact nts e) | (exfalso;exact nte e) | (exfalso;exact nrw e) | (exfalso;exact nrs e) | (exfalso;exact nre e) | (exfalso;exact nws e) | (exfalso;exact nwe e) | (exfalso;exact nse e)
     | (exfalso;exact ntr e.symm) | (exfalso;exact ntw e.symm) | (exfalso;exact nts e.symm) | (exfalso;exact nte e.symm) | (exfalso;exact nrw e.symm) | (exfalso;exact nrs e.symm) | (exfalso;exact nre e.symm) | (exfalso;exact nws e.symm) | (exfalso;exact nwe e.symm) | (exfalso;exact nse e.symm)
   ·rcases hx with rfl | rfl | rfl | rfl | rfl
    ·exact htw
    ·exact ayB
    ·exact fwi
    ·exact fsh
    ·exact fse
   ·rcases hx with rfl | rfl | rfl | rfl | rfl
    ·exact absurd rfl h1
    ·show upd _ tw _ row=_;rw[az ntr.symm,az nre,az nrs,az nrw,az nrq,aj];rfl
    ·show upd _ tw _ wi=_;rw[az ntw.symm,az nwe,az nws,aj];rfl
    ·exact absurd rfl h2
    ·show upd _ tw _ se=_;rw[az nte.symm,aj];rfl
   ·show upd _ tw _ sh=_;rw[az nts.symm,az nse,aj]
  generalize upd (upd (upd (upd (upd (upd (upd H tw (.dK [])) row (.lst [])) q0 (.lst [.non])) wi (.lst (List.replicate n .non))) sh (.lst [])) se (.lst [])) tw (.dK (Kq row wi sh se))=H0 at G0
  clear hrow hq0 hwi hsh hse ntr ntq nrq ntw nrw nqw nts nrs nqs nws nte nre nqe nwe nse
  have nb : -(2 ^ 62)<=((n:Nat):Int)/\((n:Nat):Int)<2 ^ 62:=⟨by lia,by lia⟩
  refine⟨_,rfl,(n:Int),rfl,nb.1,nb.2,fun ar har=>?_⟩
  rw[Int.toNat_natCast]
  refine ye (c:=List.replicate ns.length (.str "none")) (fun σ'=>∃o,σ'=[o,some (.ref l)]) ⟨_,rfl⟩ har hn (fun i σ' h=>by obtain⟨o,rfl⟩:=h;exact⟨_,rfl⟩) (fun σ' H' R ⟨o,e⟩ s' hR=>?_) (fun f1 H1 s1 ha1 hf1 ayC=>?_)
  ·subst e
   have hl':=s' _ _ (G0.sm _ _ hl)
   refine⟨zz1,fun q hq=>⟨_,rfl,l,_,rfl,.inl (cu.of (aB hq _ _ hl')),q,_,[.str "none"],rfl,rfl,aj,(by lia),?_,?_,fun z hz=>?_⟩⟩
   ·rw[List.length_map];lia
   ·rw[List.length_map,Int.toNat_natCast];simp only[List.length_singleton];lia
   ·rw[List.length_map,Int.toNat_natCast,ajt]
    exact hR z _ (Lv.upd _ hz) ((aB hq).trans (aB hz)) aj
  have gt1:H1 tw=some (.dK _):=s1 _ _ G0.tw
  refine⟨_,rfl,tw,_,rfl,dput gt1 (by show 4<sizeLine;decide) aol,?_⟩
  have G1:=G0.more (A':=A1 (A0 tw row wi sh se) ar f1) (new:=fun x=>x=.rights\/∃d,d<n/\x=.rt d) (kv':=Kq row wi sh se++[(ks "rights",.ref ar)]) s1 (fun x hx=>by rcases hx with rfl | rfl | rfl | rfl | rfl<;>rfl) (fun x hx=>by rcases hx with rfl | rfl | rfl | rfl | rfl<;>rfl)
   (fun x hx=>by
     rcases hx with rfl | ⟨d,hd,rfl⟩
     ·exact⟨har,ha1⟩
     ·exact⟨(hf1 d hd).1,(hf1 d hd).2.2⟩)
   (fun x y hx hy e=>by
     rcases hx with rfl | ⟨d,hd,rfl⟩<;>rcases hy with rfl | ⟨d',hd',rfl⟩
     ·rfl
     ·exact absurd e.symm (hf1 d' hd').2.1
     ·exact absurd e (hf1 d hd).2.1
     ·rw[ayC d d' hd hd' e])
  have G1':ZC n ns H (upd H1 tw (.dK (Kq row wi sh se++[(ks "rights",.ref ar)]))) _ _ _ []:=G1
  generalize upd H1 tw (.dK (Kq row wi sh se++[(ks "rights",.ref ar)]))=H1' at G1'
  clear G1
  refine⟨_,rfl,(n:Int),rfl,nb.1,nb.2,fun ac hac=>?_⟩
  rw[Int.toNat_natCast]
  refine ye (c:=ns.map V.int) (fun σ'=>∃o,σ'=[o,some (.ref l)]) ⟨_,rfl⟩ hac hn (fun i σ' h=>by obtain⟨o,rfl⟩:=h;exact⟨_,rfl⟩) (fun σ' H' R ⟨o,e⟩ s' hR=>?_) (fun f2 H2 s2 ha2 hf2 amm=>?_)
  ·subst e
   have hl':=s' _ _ (G1'.sm _ _ hl)
   exact⟨_,rfl,l,_,rfl,.inl (cu.of hl'),fun z hz=>hR z _ hz (aB hz) aj⟩
  have gt2:H2 tw=some (.dK _):=s2 _ _ G1'.tw
  refine⟨_,rfl,tw,_,rfl,dput gt2 (by show 5<sizeLine;decide) aom,?_⟩
  have G2:=G1'.more (A':=A2 (A1 (A0 tw row wi sh se) ar f1) ac f2) (new:=fun x=>x=.copies\/∃d,d<n/\x=.cp d) (kv':=Kq row wi sh se++[(ks "rights",.ref ar),(ks "copies",.ref ac)]) s2 (fun x hx=>by rcases hx with (rfl | rfl | rfl | rfl | rfl) | rfl | ⟨d,_,rfl⟩<;>rfl) (fun x hx=>by rcases hx with (rfl | rfl | rfl | rfl | rfl) | rfl | ⟨d,_,rfl⟩<;>rfl)
   (fun x hx=>by
     rcases hx with rfl | ⟨d,hd,rfl⟩
     ·exact⟨hac,ha2⟩
     ·exact⟨(hf2 d hd).1,(hf2 d hd).2.2⟩)
   (fun x y hx hy e=>by
     rcases hx with rfl | ⟨d,hd,rfl⟩<;>rcases hy with rfl | ⟨d',hd',rfl⟩
     ·rfl
     ·exact absurd e.symm (hf2 d' hd').2.1
     ·exact absurd e (hf2 d hd).2.1
     ·rw[amm d d' hd hd' e])
  have G2':ZC n ns H (upd H2 tw (.dK (Kq row wi sh se++[(ks "rights",.ref ar),(ks "copies",.ref ac)]))) _ _ _ []:=G2
  generalize upd H2 tw (.dK (Kq row wi sh se++[(ks "rights",.ref ar),(ks "copies",.ref ac)]))=H2' at G2'
  clear G2
  refine⟨_,rfl,(n:Int),rfl,nb.1,nb.2,fun au hau=>?_⟩
  rw[Int.toNat_natCast]
  refine ye (c:=[]) (fun σ'=>∃o,σ'=[o]) ⟨_,rfl⟩ hau hn (fun i σ' h=>by obtain⟨o,rfl⟩:=h;exact⟨_,rfl⟩) (fun σ' H' R ⟨o,e⟩ s' hR=>?_) (fun f3 H3 s3 ha3 hf3 ayE=>?_)
  ·exact⟨Dw,fun z hz=>hR z _ hz (aB hz) aj⟩
  have gt3:H3 tw=some (.dK _):=s3 _ _ G2'.tw
  refine⟨_,rfl,tw,_,rfl,dput gt3 (by show 6<sizeLine;decide) aon,?_⟩
  have G3:=G2'.more (A':=A3 (A2 (A1 (A0 tw row wi sh se) ar f1) ac f2) au f3) (new:=fun x=>x=.ups\/∃d,d<n/\x=.up d) (kv':=Kq row wi sh se++[(ks "rights",.ref ar),(ks "copies",.ref ac),(ks "ups",.ref au)]) s3 (fun x hx=>by rcases hx with ((rfl | rfl | rfl | rfl | rfl) | rfl | ⟨d,_,rfl⟩) | rfl | ⟨d,_,rfl⟩<;>rfl) (fun x hx=>by rcases hx with ((rfl | rfl | rfl | rfl | rfl) | rfl | ⟨d,_,rfl⟩) | rfl | ⟨d,_,rfl⟩<;>rfl)
   (fun x hx=>by
     rcases hx with rfl | ⟨d,hd,rfl⟩
     ·exact⟨hau,ha3⟩
     ·exact⟨(hf3 d hd).1,(hf3 d hd).2.2⟩)
   (fun x y hx hy e=>by
     rcases hx with rfl | ⟨d,hd,rfl⟩<;>rcases hy with rfl | ⟨d',hd',rfl⟩
     ·rfl
     ·exact absurd e.symm (hf3 d' hd').2.1
     ·exact absurd e (hf3 d hd).2.1
     ·rw[ayE d d' hd hd' e])
  have G3':ZC n ns H (upd H3 tw (.dK (Kq row wi sh se++[(ks "rights",.ref ar),(ks "copies",.ref ac),(ks "ups",.ref au)]))) _ _ _ []:=G3
  generalize upd H3 tw (.dK (Kq row wi sh se++[(ks "rights",.ref ar),(ks "copies",.ref ac),(ks "ups",.ref au)]))=H3' at G3'
  clear G3
  refine⟨_,rfl,(n:Int),rfl,nb.1,nb.2,fun ad had=>?_⟩
  rw[Int.toNat_natCast]
  refine ye (c:=[]) (fun σ'=>∃o,σ'=[o]) ⟨_,rfl⟩ had hn (fun i σ' h=>by obtain⟨o,rfl⟩:=h;exact⟨_,rfl⟩) (fun σ' H' R ⟨o,e⟩ s' hR=>?_) (fun f4 H4 s4 ha4 hf4 asz=>?_)
  ·exact⟨Dw,fun z hz=>hR z _ hz (aB hz) aj⟩
  have gt4:H4 tw=some (.dK _):=s4 _ _ G3'.tw
  refine⟨_,rfl,tw,_,rfl,dput gt4 (by show 7<sizeLine;decide) aoo,?_⟩
  have G4:=G3'.more (A':=A4 (A3 (A2 (A1 (A0 tw row wi sh se) ar f1) ac f2) au f3) ad f4) (new:=fun x=>x=.downs\/∃d,d<n/\x=.dn d) (kv':=Kq row wi sh se++[(ks "rights",.ref ar),(ks "copies",.ref ac),(ks "ups",.ref au),(ks "downs",.ref ad)]) s4 (fun x hx=>by rcases hx with (((rfl | rfl | rfl | rfl | rfl) | rfl | ⟨d,_,rfl⟩) | rfl | ⟨d,_,rfl⟩) | rfl | ⟨d,_,rfl⟩<;>rfl) (fun x hx=>by rcases hx with (((rfl | rfl | rfl | rfl | rfl) | rfl | ⟨d,_,rfl⟩) | rfl | ⟨d,_,rfl⟩) | rfl | ⟨d,_,rfl⟩<;>rfl)
   (fun x hx=>by
     rcases hx with rfl | ⟨d,hd,rfl⟩
     ·exact⟨had,ha4⟩
     ·exact⟨(hf4 d hd).1,(hf4 d hd).2.2⟩)
   (fun x y hx hy e=>by
     rcases hx with rfl | ⟨d,hd,rfl⟩<;>rcases hy with rfl | ⟨d',hd',rfl⟩
     ·rfl
     ·exact absurd e.symm (hf4 d' hd').2.1
     ·exact absurd e (hf4 d hd).2.1
     ·rw[asz d d' hd hd' e])
  have G4':ZC n ns H (upd H4 tw (.dK (Kq row wi sh se++[(ks "rights",.ref ar),(ks "copies",.ref ac),(ks "ups",.ref au),(ks "downs",.ref ad)]))) _ _ _ []:=G4
  generalize upd H4 tw (.dK (Kq row wi sh se++[(ks "rights",.ref ar),(ks "copies",.ref ac),(ks "ups",.ref au),(ks "downs",.ref ad)]))=H4' at G4'
  clear G4
  have okB:∀x,ok8 n x->(((ok0 x\/(x=.rights\/∃d,d<n/\x=.rt d))\/(x=.copies\/∃d,d<n/\x=.cp d))\/(x=.ups\/∃d,d<n/\x=.up d))\/(x=.downs\/∃d,d<n/\x=.dn d):=fun x hx=>hx
  have G5:=G4'.weak (ok':=ok8 n) okB (.inl (.inl (.inl (.inl (.inl rfl))))) (.inl (.inl (.inl (.inl (.inr (.inr (.inr (.inl rfl))))))))
  clear G4' okB
  generalize hAB:A4 (A3 (A2 (A1 (A0 tw row wi sh se) ar f1) ac f2) au f3) ad f4=AB at G5
  have hkv:Kq row wi sh se++[(ks "rights",.ref ar),(ks "copies",.ref ac),(ks "ups",.ref au),(ks "downs",.ref ad)]=tkv AB:=by rw[<-hAB];rfl
  have avI:AB .bf=tw:=by rw[<-hAB];rfl
  have ayH:AB .cV=sh:=by rw[<-hAB];rfl
  refine⟨_,rfl,l,rfl,⟨_,cu.of (G5.sm _ _ hl)⟩,?_⟩
  let PV2:Nat->St->Hp->Prop:=fun i σ' H'=>(∃o3 o4,σ'=[some (.int n),some (.ref l),some (.ref tw),o3,o4])/\∃A,(∀x,ok8 n x->A x=AB x)/\ZC n ns H H' A (fun x=>ok8 n x\/∃p,p<i/\(x=.bR p\/x=.iM p\/x=.jJ p)) (Kq row wi sh se++[(ks "rights",.ref ar),(ks "copies",.ref ac),(ks "ups",.ref au),(ks "downs",.ref ad)]) ((List.range i).map fun p=>V.ref (A (.bR p)))
  refine wV (xs:=ns.map V.int) PV2 ?_ ?_ ?_ ?_
  ·refine⟨⟨_,_,rfl⟩,AB,fun x _=>rfl,G5.weak (fun x hx=>hx.elim id fun z=>by obtain⟨p,hp,_⟩:=z;exact absurd hp (Nat.not_lt_zero _)) (.inl G5.ot) (.inl G5.os)⟩
  ·rintro i σ' H' _ ⟨_,A',_,G⟩
   exact cu.of (G.sm _ _ hl)
  ·rintro i y σ' H' hy ⟨⟨o3,o4,rfl⟩,A',hA',G⟩
   have hi:i<ns.length:=by have:=(List.getElem?_eq_some_iff.mp hy).1;simpa using this
   have hy':y=.int ns[i]:=by
    rw[List.getElem?_map,List.getElem?_eq_getElem hi]at hy
    exact(Option.some.inj hy).symm
   subst hy'
   refine fun sf hsf=>⟨_,rfl,_,rfl,⟨Dw,fun r hr=>⟨Dw,fun q hq=>?_⟩⟩⟩
   have nsr:sf≠r:=fun z=>by rw[<-z,aj]at hr;cases hr
   have nsq:sf≠q:=fun z=>by rw[<-z,az nsr,aj]at hq;cases hq
   have nrq:r≠q:=fun z=>by rw[<-z,aj]at hq;cases hq
   have hr0:H' r=none:=Lv.upd _ hr
   have hq0:H' q=none:=Lv.upd _ (Lv.upd _ hq)
   refine⟨by rw[az nsq,az nsr,aj],kvS ns[i] r q,rfl,(by show 5<=15;decide),?_⟩
   rw[akl]
   have hpg:pg0 ns i=⟨ns[i],none,[],[],0⟩:=by unfold pg0;rw[List.getElem?_eq_getElem hi];rfl
   rw[<-hpg]
   have s1:bY H' (upd (upd (upd (upd H' sf (.dK [])) r (.lst [])) q (.lst [])) sf (.dK (yF (pg0 ns i) r q))):=fC (((aB hsf).trans (aB hr)).trans (aB hq)) hsf
   have c1:upd (upd (upd (upd H' sf (.dK [])) r (.lst [])) q (.lst [])) sf (.dK (yF (pg0 ns i) r q)) sf=some (.dK (yF (pg0 ns i) r q)):=aj
   have c2:upd (upd (upd (upd H' sf (.dK [])) r (.lst [])) q (.lst [])) sf (.dK (yF (pg0 ns i) r q)) r=some (.lst []):=by rw[az nsr.symm,az nrq,aj]
   have c3:upd (upd (upd (upd H' sf (.dK [])) r (.lst [])) q (.lst [])) sf (.dK (yF (pg0 ns i) r q)) q=some (.lst []):=by rw[az nsq.symm,aj]
   generalize upd (upd (upd (upd H' sf (.dK [])) r (.lst [])) q (.lst [])) sf (.dK (yF (pg0 ns i) r q))=H2 at s1 c1 c2 c3
   have htw:A' .bf=tw:=by rw[hA' _ G5.ot,avI]
   have hsh:A' .cV=sh:=by rw[hA' _ G5.os,ayH]
   have gt:=s1 _ _ G.tw
   have gs:=s1 _ _ G.sh
   rw[htw]at gt
   rw[hsh]at gs
   refine zd rfl (eG gt aop) ⟨.inl ⟨rfl,_,cu.of gs⟩,_,rfl,sh,_,_,rfl,rfl,gs,by rw[List.length_map,List.length_range];lia,?_⟩
   have asA:∀x,(ok8 n x\/∃p,p<i/\(x=.bR p\/x=.iM p\/x=.jJ p))->x≠.bR i/\x≠.iM i/\x≠.jJ i:=by
    intro x hx
    rcases hx with hx | ⟨p,hp,hx⟩
    ·refine⟨?_,?_,?_⟩<;>(intro z;subst z;simp[ok8,ok0]at hx)
    ·rcases hx with rfl | rfl | rfl<;>refine⟨?_,?_,?_⟩<;>(intro z;cases z<;>exact absurd hp (Nat.lt_irrefl _))
   generalize hA2:jM (jM (jM A' (.bR i) sf) (.iM i) r) (.jJ i) q=A2'
   have e1:A2' (.bR i)=sf:=by rw[<-hA2];simp[jM]
   have e2:A2' (.iM i)=r:=by rw[<-hA2];simp[jM]
   have e3:A2' (.jJ i)=q:=by rw[<-hA2];simp[jM]
   have eo:∀x,x≠.bR i->x≠.iM i->x≠.jJ i->A2' x=A' x:=fun x h1 h2 h3=>by rw[<-hA2,bI _ _ h3,bI _ _ h2,bI _ _ h1]
   have G6:=G.bR (A':=A2') (new:=fun x=>x=.bR i\/x=.iM i\/x=.jJ i) (zs':=((List.range i).map fun p=>V.ref (A' (.bR p)))++[.ref sf]) s1
    (fun x hx=>by obtain⟨h1,h2,h3⟩:=asA x hx;exact eo x h1 h2 h3)
    (fun x hx=>by
      obtain⟨h1,h2,h3⟩:=asA x hx
      cases x with
      | bR p =>
        have hp:p≠i:=fun z=>h1 (by rw[z])
        show HO.dK _=HO.dK _
        rw[eo (.iM p) (by intro z;cases z) (by intro z;cases z;exact hp rfl) (by intro z;cases z),eo (.jJ p) (by intro z;cases z) (by intro z;cases z) (by intro z;cases z;exact hp rfl)]
      | rights=>show HO.lst _=HO.lst _;congr 1;exact List.map_congr_left fun d _=>by rw[eo (.rt d) (by intro z;cases z) (by intro z;cases z) (by intro z;cases z)]
      | copies=>show HO.lst _=HO.lst _;congr 1;exact List.map_congr_left fun d _=>by rw[eo (.cp d) (by intro z;cases z) (by intro z;cases z) (by intro z;cases z)]
      | ups=>show HO.lst _=HO.lst _;congr 1;exact List.map_congr_left fun d _=>by rw[eo (.up d) (by intro z;cases z) (by intro z;cases z) (by intro z;cases z)]
      | downs=>show HO.lst _=HO.lst _;congr 1;exact List.map_congr_left fun d _=>by rw[eo (.dn d) (by intro z;cases z) (by intro z;cases z) (by intro z;cases z)]
      | _=>rfl)
    (fun x hx=>by
      rcases hx with rfl | rfl | rfl
      ·rw[e1];exact⟨hsf,by rw[c1];show some (HO.dK _)=some (HO.dK _);rw[e2,e3]⟩
      ·rw[e2];exact⟨hr0,c2⟩
      ·rw[e3];exact⟨hq0,c3⟩)
    (fun x y hx hy e=>by
      rcases hx with rfl | rfl | rfl<;>rcases hy with rfl | rfl | rfl<;>first
       | rfl
       | (exfalso;rw[e1,e2]at e;exact nsr e) | (exfalso;rw[e1,e3]at e;exact nsq e) | (exfalso;rw[e2,e3]at e;exact nrq e)
       | (exfalso;rw[e2,e1]at e;exact nsr e.symm) | (exfalso;rw[e3,e1]at e;exact nsq e.symm) | (exfalso;rw[e3,e2]at e;exact nrq e.symm))
   rw[hsh]at G6
   refine⟨⟨_,_,rfl⟩,A2',fun x hx=>?_,?_⟩
   ·obtain⟨h1,h2,h3⟩:=asA x (.inl hx)
    rw[eo x h1 h2 h3];exact hA' x hx
   ·have ez:((List.range i).map fun p=>V.ref (A' (.bR p)))++[.ref sf]=(List.range (i+1)).map fun p=>V.ref (A2' (.bR p)):=by
     rw[List.range_succ,List.map_append]
     congr 1
     ·exact List.map_congr_left fun p hp=>by rw[eo (.bR p) (by intro z;cases z;exact absurd (List.mem_range.mp hp) (Nat.lt_irrefl _)) (by intro z;cases z) (by intro z;cases z)]
     ·show [V.ref sf]=[V.ref _];rw[e1]
    rw[ez]at G6 ⊢
    refine G6.weak (ok':=fun x=>ok8 n x\/∃p,p<i+1/\(x=.bR p\/x=.iM p\/x=.jJ p)) (fun x hx=>?_) (Or.inl G5.ot) (Or.inl G5.os)
    rcases hx with hx | ⟨p,hp,hx⟩
    ·exact .inl (.inl hx)
    ·by_cases e:p=i
     ·subst e;exact .inr hx
     ·exact .inl (.inr ⟨p,by lia,hx⟩)
  ·rintro σ' H' ⟨⟨o3,o4,rfl⟩,A',hA',G⟩
   rw[List.length_map]at G
   have hk:Kq row wi sh se++[(ks "rights",.ref ar),(ks "copies",.ref ac),(ks "ups",.ref au),(ks "downs",.ref ad)]=tkv A':=by
    rw[hkv]
    unfold tkv
    have o:∀x,ok8 n x->AB x=A' x:=fun x hx=>(hA' x hx).symm
    rw[o .row (.inl (.inl (.inl (.inl (.inr (.inl rfl)))))),o .dF (.inl (.inl (.inl (.inl (.inr (.inr (.inl rfl))))))),o .cV (.inl (.inl (.inl (.inl (.inr (.inr (.inr (.inl rfl)))))))),o .sent (.inl (.inl (.inl (.inl (.inr (.inr (.inr (.inr rfl)))))))),o .rights (.inl (.inl (.inl (.inr (.inl rfl))))),o .copies (.inl (.inl (.inr (.inl rfl)))),o .ups (.inl (.inr (.inl rfl))),o .downs (.inr (.inl rfl))]
   rw[hk]at G
   have okF:∀x:Mb,x.ok n ns.length->ok8 n x\/∃p,p<ns.length/\(x=.bR p\/x=.iM p\/x=.jJ p):=by
    intro x hx
    cases x with
    | bf=>exact .inl (.inl (.inl (.inl (.inl (.inl rfl)))))
    | row=>exact .inl (.inl (.inl (.inl (.inl (.inr (.inl rfl))))))
    | dF=>exact .inl (.inl (.inl (.inl (.inl (.inr (.inr (.inl rfl)))))))
    | cV=>exact .inl (.inl (.inl (.inl (.inl (.inr (.inr (.inr (.inl rfl))))))))
    | sent=>exact .inl (.inl (.inl (.inl (.inl (.inr (.inr (.inr (.inr rfl))))))))
    | rights=>exact .inl (.inl (.inl (.inl (.inr (.inl rfl)))))
    | copies=>exact .inl (.inl (.inl (.inr (.inl rfl))))
    | ups=>exact .inl (.inl (.inr (.inl rfl)))
    | downs=>exact .inl (.inr (.inl rfl))
    | rt d=>exact .inl (.inl (.inl (.inl (.inr (.inr ⟨d,hx,rfl⟩)))))
    | cp d=>exact .inl (.inl (.inl (.inr (.inr ⟨d,hx,rfl⟩))))
    | up d=>exact .inl (.inl (.inr (.inr ⟨d,hx,rfl⟩)))
    | dn d=>exact .inl (.inr (.inr ⟨d,hx,rfl⟩))
    | bR p=>exact .inr ⟨p,hx,.inl rfl⟩
    | iM p=>exact .inr ⟨p,hx,.inr (.inl rfl)⟩
    | jJ p=>exact .inr ⟨p,hx,.inr (.inr rfl)⟩
   have G7:=G.weak (ok':=Mb.ok n ns.length) okF trivial trivial
   have htw:A' .bf=tw:=by rw[hA' _ G5.ot,avI]
   refine⟨_,rfl,?_⟩
   rw[<-htw]
   exact k A' H' G7.mir G7.sm G7.fr
end
end gH
namespace gH
open PySem L2
theorem abU{i j:Int}(h:i=j):decide (V.int i=V.int j)=true:=decide_eq_true (by rw[h])
theorem abV{i j:Int}(h:i≠j):decide (V.int i=V.int j)=false:=decide_eq_false fun z=>h (V.int.inj z)
theorem RP{ns:List Int}{k:Int}(h0:0<=k)(h1:k<(ns.length:Nat)):∃z,Py (ns.map V.int) k=some (.int z):=by
 obtain⟨j,rfl⟩:∃j:Nat,k=(j:Int):=⟨k.toNat,by lia⟩
 have hj:j<ns.length:=by lia
 exact⟨ns[j],yL (by rw[List.getElem?_map,List.getElem?_eq_getElem hj];rfl)⟩
theorem cG.flat(x:cG):x.d.flat:=by cases x<;>simp[cG.d,D.flat,D.flats]
theorem amn{H:Hp}{b:Addr}{x:cG}(h:H b=some (.tup (cG.vs x))):Rep H (.ref b) x.d:=by
 cases x with
 | look d p=>simp only[cG.d,Rep,aH];exact⟨b,_,rfl,h,_,_,rfl,rfl,_,_,rfl,rfl,_,_,rfl,rfl,rfl⟩
 | put d p n=>simp only[cG.d,Rep,aH];exact⟨b,_,rfl,h,_,_,rfl,rfl,_,_,rfl,rfl,_,_,rfl,rfl,_,_,rfl,rfl,rfl⟩
 | rest d p=>simp only[cG.d,Rep,aH];exact⟨b,_,rfl,h,_,_,rfl,rfl,_,_,rfl,rfl,_,_,rfl,rfl,rfl⟩
 | up d=>simp only[cG.d,Rep,aH];exact⟨b,_,rfl,h,_,_,rfl,rfl,_,_,rfl,rfl,rfl⟩
 | down d=>simp only[cG.d,Rep,aH];exact⟨b,_,rfl,h,_,_,rfl,rfl,_,_,rfl,rfl,rfl⟩
theorem agu{H:Hp}{v:V}{x:cG}(h:Rep H v x.d):∃b,v=.ref b/\H b=some (.tup (cG.vs x)):=by
 cases x with
 | look d p=>simp only[cG.d,Rep,aH]at h;obtain⟨b,xs,rfl,hb,_,_,rfl,rfl,_,_,rfl,rfl,_,_,rfl,rfl,rfl⟩:=h;exact⟨b,rfl,hb⟩
 | put d p n=>simp only[cG.d,Rep,aH]at h;obtain⟨b,xs,rfl,hb,_,_,rfl,rfl,_,_,rfl,rfl,_,_,rfl,rfl,_,_,rfl,rfl,rfl⟩:=h;exact⟨b,rfl,hb⟩
 | rest d p=>simp only[cG.d,Rep,aH]at h;obtain⟨b,xs,rfl,hb,_,_,rfl,rfl,_,_,rfl,rfl,_,_,rfl,rfl,rfl⟩:=h;exact⟨b,rfl,hb⟩
 | up d=>simp only[cG.d,Rep,aH]at h;obtain⟨b,xs,rfl,hb,_,_,rfl,rfl,_,_,rfl,rfl,rfl⟩:=h;exact⟨b,rfl,hb⟩
 | down d=>simp only[cG.d,Rep,aH]at h;obtain⟨b,xs,rfl,hb,_,_,rfl,rfl,_,_,rfl,rfl,rfl⟩:=h;exact⟨b,rfl,hb⟩
def DL(H:Hp)(vs:List V)(k:Nat):Prop:=∃ds:List cG,aH H vs (ds.map cG.d)/\ds.length<=k
theorem DL.nil(H:Hp):DL H [] 0:=⟨[],by simp[aH],Nat.le_refl _⟩
theorem DL.aX{H H':Hp}{vs:List V}{k:Nat}(t:b8 H H')(h:DL H vs k):DL H' vs k:=by obtain⟨ds,r,l⟩:=h;exact⟨ds,r.aX t (bW cG.flat _),l⟩
theorem DL.more{H:Hp}{vs:List V}{k j:Nat}(h:DL H vs k)(hk:k<=j):DL H vs j:=by obtain⟨ds,r,l⟩:=h;exact⟨ds,r,Nat.le_trans l hk⟩
theorem DL.append{H:Hp}{vs us:List V}{k j:Nat}(a:DL H vs k)(b:DL H us j):DL H (vs++us) (k+j):=by
 obtain⟨ds,r,l⟩:=a
 obtain⟨es,r',l'⟩:=b
 exact⟨ds++es,by rw[List.map_append];exact r.append r',by rw[List.length_append];lia⟩
theorem DL.cons{H:Hp}{us:List V}{k:Nat}{b:Addr}(x:cG)(h:H b=some (.tup (cG.vs x)))(r:DL H us k):DL H (.ref b::us) (k+1):=by
 obtain⟨ds,r,l⟩:=r
 refine⟨x::ds,?_,by simp;lia⟩
 simp only[List.map_cons,aH]
 exact⟨_,_,rfl,amn h,r⟩
theorem DL.one{H:Hp}{b:Addr}(x:cG)(h:H b=some (.tup (cG.vs x))):DL H [.ref b] 1:=DL.cons x h (DL.nil H)
theorem DL.len{H:Hp}{vs:List V}{k:Nat}(h:DL H vs k):vs.length<=k:=by obtain⟨ds,r,l⟩:=h;rw[r.length,List.length_map];exact l
theorem ao1{H:Hp}{d z fl:Addr}{us zs fs:List V}{Q:VK}{o:Option (Option V)}(ho:o=some (some (.ref fl)))(hd:H d=some (.lst us))(hz:H z=some (.lst zs))(hf:H fl=some (.lst fs))(hl:us.length+zs.length+fs.length<=16000000)
 (k:∀r H',bY H H'->H r=none->H' r=some (.lst (us++zs++fs))->Q (.ref r) H'):aqY (.ref d) (.ref z) H fun x H1=>∃v,o=some (some v)/\aqY x v H1 Q:=by
 have sl:sizeLine=16777216:=by decide
 refine⟨d,z,us,zs,rfl,rfl,hd,hz,by lia,fun p hp=>⟨_,ho,p,fl,_,fs,rfl,rfl,aj,aB hp _ _ hf,by rw[List.length_append];lia,fun q hq=>?_⟩⟩
 exact k q _ ((aB hp).trans (aB hq)) (Lv.upd _ hq) aj
def asC:Sp:=fun vs H Q _=>∃c:Int,∃m:Nat,vs=[.int c,.int m]/\m<=1000/\∀l (ns:List Int) H',ns.length=m->H l=none->bY H H'->H' l=some (.lst (ns.map V.int))->Q (.ref l) H'
def ao2:Sp:=fun vs H Q _=>∃n:Nat,∃c:Int,vs=[.int n,.int c]/\n<=100/\∀l us H',H l=none->bY H H'->H' l=some (.lst us)->DL H' us (20*n+100)->Q (.ref l) H'
section
variable{P:Program}{w:World}{K:PySem.W.Frag}{mg:Str->Option Value}{base:Heap}{t:Jh}
theorem T6(T:Txt K w mg t):c7 P w K mg base nP 1 t.fV t.qF ["_law_cell","_law_pages"] asC:=by
 refine T.Fg.ok qt (fun vs H Q E h=>?_) (fun cdv A outer s H vs Q E hr h=>?_)
 ·obtain⟨c,m,rfl,_⟩:=h;rfl
 ·obtain⟨c,m,rfl,hm,k⟩:=h
  have sl:sizeLine=16777216:=by decide
  refine⟨_,(ao (bh (i:=2) qt.nd rfl (Or.inl rfl) (bF eN (bF vN (pv 0) aA) (bF acd aA aA)))
   (ao (bh (i:=3) qt.nd rfl (Or.inr rfl) (bN (aa aA (aa (Rr Dy aA) (aa aA (aa (pv 2) (aa (bF Jb aA (pv 2)) aq)))))))
   (aC (bw (lA (gF (xs:=["_law_k"]) (ys:=["_law_some","_law_cell"]) (js:=[3,0]) rfl (by decide +kernel) (by decide +kernel) (by decide +kernel) (by rfl) ⟨⟨rfl,Or.inl rfl⟩,⟨⟨rfl,Or.inl rfl⟩,trivial⟩⟩) rfl (gU (by rfl) T.lD (aa (pv 1) aq)) (fun _ _ _ _ _=>(cU (i:=0) (show List.Nodup ((["_law_k"]:List Str)++(["_law_some","_law_cell"]:List Str):List Str)by decide +kernel) rfl (Or.inl rfl))) (fun _ _ _ _ _=>qU) (fun _ _ _ _ _=>(bF jg (aN (ap9 (K:=K) (r:=ahD) bB rfl) (pv 1) (bF eN (bF jg (pv 2) (pv 0)) aA) (fun _ _=>rfl)) (bF vN aA (pv 0))))))))),?_⟩
  try dsimp only[dw,Cx.kI]
  show let Z1:L2.TS:=_;let Z2:L2.TS:=_;let Z3:L2.TS:=_;let D0:Ends:=_;(aR Z1 (aR Z2 (Z3))) D0 _ _
  intro Z1 Z2 Z3 D0
  refine⟨_,rfl,_,_,rfl,rfl,.inr ⟨by decide,by decide⟩,_,_,rfl,rfl,⟨by decide,by decide,by decide⟩,_,_,rfl,rfl,(show(0:Int)<(10:Int) ^ (30:Int).toNat by decide),?_⟩
  refine⟨_,rfl,_,rfl,_,rfl,_,_,rfl,rfl,zz5,fun z hz=>?_⟩
  have fact:∃far:Int,bY H (upd H z (.lst [.int 0,.int (-1),.int 1000000000000,.int (c*48271 % (10:Int) ^ (30:Int).toNat),.int (0 - c*48271 % (10:Int) ^ (30:Int).toNat)]))/\upd H z (.lst [.int 0,.int (-1),.int 1000000000000,.int (c*48271 % (10:Int) ^ (30:Int).toNat),.int (0 - c*48271 % (10:Int) ^ (30:Int).toNat)]) z=some (.lst ([0,-1,1000000000000,far,0 - far].map V.int)):=⟨_,aB hz,aj⟩
  obtain⟨far,s1,hz'⟩:=fact
  have go:∀H1:Hp,bY H H1->H1 z=some (.lst ([0,-1,1000000000000,far,0 - far].map V.int))->∀acc,H1 acc=none->DN (Itr 0 m) (abt 0) aj1 (Wa (rI0 fun i j=>V.int (i+j)) (Wa (ahD K) (jf 1) (Wa (rI (fun _ j=>0<j) fun i j=>V.int (i % j)) (Wa (rI0 fun i j=>V.int (i+j)) (jf 2) (jf 0)) (tC (V.int 5)))) (Wa (rI ajO fun i j=>V.int (i*j)) (tC (V.int 5)) (jf 0))) [none,some (.ref z),some (.int c)] acc H1 Q:=fun H1 s1 hz' acc hacc => ?go
  ·refine⟨_,rfl,(m:Int),rfl,(by lia),(by lia),fun acc hacc=>?_⟩
   exact go _ s1 hz' acc hacc
  let PV1:Nat->List V->St->Hp->Prop:=fun i zs σ' H'=>(∃o,σ'=[o,some (.ref z),some (.int c)])/\bY H1 H'/\H' acc=some (.lst zs)/\∃ns:List Int,ns.length=i/\zs=ns.map V.int
  refine yP PV1 ?_ ?_ ?_ ?_
  ·exact⟨⟨_,rfl⟩,aB hacc,aj,[],rfl,rfl⟩
  ·rintro i zs σ' H' _ ⟨_,_,h,_⟩;exact h
  ·rintro i zs σ' H' hi ⟨⟨o,rfl⟩,s',ha',ns,hl,rfl⟩
   obtain⟨y,hy⟩:=RP (ns:=[0,-1,1000000000000,far,0 - far]) (k:=(c+(0+(i:Int))) % 5) (by lia) (by show _<((5:Nat):Int);lia)
   refine aco ⟨_,rfl,_,rfl,_,rfl,_,_,rfl,rfl,_,_,rfl,rfl,(show(0:Int)<5 by decide),z,_,_,_,rfl,rfl,cu.of (s' _ _ hz'),hy,_,rfl,_,_,rfl,rfl,.inl ⟨by decide,by decide⟩,_,_,rfl,rfl,?_⟩
   refine wY.mk hi ha' (by rw[List.length_map];lia) ⟨⟨_,rfl⟩,fC s' hacc,aj,ns++[y+5*(0+(i:Int))],by rw[List.length_append,hl];rfl,by rw[List.map_append];rfl⟩
  ·rintro zs σ' H' ⟨_,s',ha',ns,hl,rfl⟩
   exact k acc ns H' hl (bY.free s1 hacc) (s1.trans s') ha'
theorem Qt(T:Txt K w mg t):c7 P w K mg base nP 1 t.fB t.oU ["_law_count","_law_cell"] ao2:=by
 refine T.Bc.ok cT (fun vs H Q E h=>?_) (fun cdv A outer s H vs Q E hr h=>?_)
 ·obtain⟨n,c,rfl,_⟩:=h;rfl
 ·obtain⟨n,c,rfl,hn,k⟩:=h
  have sl:sizeLine=16777216:=by decide
  refine' ⟨_,?sr,?_⟩
  case' sr=>refine' ao ?Xw ?Jr
  case' Jr=>refine' ao ?Xx ?Js
  case' Js=>refine' ao ?Xy ?Jt
  case' Jt=>refine' ao ?Xz ?XC
  case' XC=>refine' ao ?agp ?XD
  case' XD=>refine' ao ?agq ?XF
  case' XF=>refine' ao ?agr ?aif
  case' aif=>refine' ao ?amo ?aih
  case' aih=>refine' ao ?amq ?aii
  case' aii=>refine' ao ?amr ?aij
  case' aij=>refine' aC ?aik
  case' Xw=>exact(bh (i:=2) cT.nd rfl (Or.inl rfl) (bF Jb (pv 0) aA))
  case' Xx=>exact(bh (i:=3) cT.nd rfl (Or.inl rfl) (bN aq))
  case' Xy=>refine' yK PassesOwn.never rfl (gU (by rfl) T.lD (aa (pv 0) aq)) (cU (i:=4) cT.nd rfl (Or.inl rfl)) ?ams
  case' ams=>refine' aC ?XH
  case' XH=>exact(bO (fj PySem.F.plainAttrs_list PySem.F.slot_list_extend PySem.F.type_list_extend lE (pv 3) (aa (bN (aa (bZ (aa aD (aa (pv 4) aq))) (aa (bZ (aa aD (aa (pv 4) aq))) aq))) aq)))
  case' Xz=>exact(bh (i:=3) cT.nd rfl (Or.inl rfl) (bF mD (pv 3) (pv 3)))
  case' agp=>exact(bh (i:=5) cT.nd rfl (Or.inl rfl) (bN aq))
  case' agq=>refine' yK PassesOwn.never rfl (gU (by rfl) T.lD (aa (pv 0) aq)) (cU (i:=4) cT.nd rfl (Or.inl rfl)) ?amg
  case' amg=>refine' aC ?agv
  case' agv=>exact(bO (fj PySem.F.plainAttrs_list PySem.F.slot_list_extend PySem.F.type_list_extend lE (pv 5) (aa (bN (aa (bZ (aa aD (aa (pv 4) (aa aA aq)))) (aa (bZ (aa aD (aa (pv 4) aq))) (aa (bZ (aa aD (aa (pv 4) aq))) aq)))) aq)))
  case' agr=>exact(bh (i:=5) cT.nd rfl (Or.inl rfl) (bF mD (pv 5) (bN (aa (bZ (aa aD (aa aA (aa aA aq)))) (aa (bZ (aa aD (aa aA (aa aA aq)))) (aa (bZ (aa aD (aa aA aq))) (aa (bZ (aa aD (aa aA aq))) aq)))))))
  case' amo=>exact(bh (i:=5) cT.nd rfl (Or.inl rfl) (bF mD (bF mD (pv 5) (bN (aa (bZ (aa aD (aa (pv 2) (aa aA (aa (aN bB (bN (aa aA (aa aA aq))) (bF eN (pv 1) aA) (fun _ _=>rfl)) aq))))) (aa (bZ (aa aD (aa (pv 2) aq))) aq)))) (pv 3)))
  case' amq=>exact(cg (aU cQ (bF eN (bF iK (pv 1) aA) aA) aA (bj _)) (aC (bh (i:=5) cT.nd rfl (Or.inl rfl) (bF mD (bF mD (pv 5) (bN (aa (bZ (aa aD (aa (pv 2) (aa aA aq)))) aq))) (pv 3)))) bC)
  case' amr=>exact(bh (i:=5) cT.nd rfl (Or.inl rfl) (bF mD (bF mD (pv 5) (bN (aa (bZ (aa aD (aa aA (aa aA aq)))) (aa (bZ (aa aD (aa aA aq))) aq)))) (pv 3)))
  case' aik=>exact(bw (bF mD (bF mD (pv 5) (bN (aa (bZ (aa aD (aa aA (aa aA (aa aA aq))))) (aa (bZ (aa aD (aa aA aq))) aq)))) (pv 3)))
  try dsimp only[dw,Cx.kI]
  show let Z1:L2.TS:=_;let Z2:L2.TS:=_;let Z3:L2.TS:=_;let Z4:L2.TS:=ZF _ _ Z3;let Z5:L2.TS:=_;let Z6:L2.TS:=_;let Z7:L2.TS:=_;let Z8:L2.TS:=ZF _ _ Z7;let Z9:L2.TS:=_;let Bh:L2.TS:=_;let Mh:L2.TS:=_;let Mi:L2.TS:=dg _ Mh bK;let RL:L2.TS:=_;let RM:L2.TS:=_;let D0:Ends:=_;(aR Z1 (aR Z2 (aR Z4 (aR Z5 (aR Z6 (aR Z8 (aR Z9 (aR Bh (aR Mi (aR RL (RM))))))))))) D0 _ _
  intro Z1 Z2 Z3 Z4 Z5 Z6 Z7 Z8 Z9 Bh Mh Mi RL RM D0
  refine⟨_,rfl,_,_,rfl,rfl,?_⟩
  refine⟨Dw,fun fl hfl=>?_⟩
  have nb : -(2 ^ 62)<=((n:Nat):Int)/\((n:Nat):Int)<2 ^ 62:=⟨by lia,by lia⟩
  refine⟨_,rfl,(n:Int),rfl,nb.1,nb.2,?_⟩
  rw[Int.toNat_natCast]
  let PV2:Nat->St->Hp->Prop:=fun i σ' H'=>(∃o4,σ'=[some (.int n),some (.int c),some (.int ((n:Int) - 1)),some (.ref fl),o4,none])/\bY H H'/\∃us,H' fl=some (.lst us)/\DL H' us (2*i)
  refine Pr PV2 ?_ ?_ ?_
  ·exact⟨⟨_,rfl⟩,aB hfl,[],aj,DL.nil _⟩
  ·rintro i σ' H' hi ⟨⟨o4,rfl⟩,s',us,hf',dl⟩
   refine⟨_,rfl,.inl ⟨rfl,_,cu.of hf'⟩,⟨_,rfl,uA,fun b1 h1=>⟨_,rfl,uA,fun b2 h2=>⟨uA,fun z hz=>?_⟩⟩⟩⟩
   have sa:=((aB h1).trans (aB h2)).trans (aB (o:=.lst [.ref b1,.ref b2]) hz)
   have hlen:=dl.len
   refine⟨fl,z,us,_,rfl,rfl,sa _ _ hf',.inl (cu.of aj),by simp only[List.length_cons,List.length_nil];lia,?_⟩
   have n12:b1≠b2:=fun q=>by rw[<-q,aj]at h2;cases h2
   have c1:(upd (upd H' b1 (.tup [.str "down",.int (0+(i:Int))])) b2 (.tup [.str "up",.int (0+(i:Int))])) b1=some (.tup (cG.down (0+(i:Int))).vs):=by rw[az n12,aj];rfl
   have c2:(upd (upd H' b1 (.tup [.str "down",.int (0+(i:Int))])) b2 (.tup [.str "up",.int (0+(i:Int))])) b2=some (.tup (cG.up (0+(i:Int))).vs):=by rw[aj];rfl
   have sz:=aB (o:=.lst [.ref b1,.ref b2]) hz
   have tl:=lB (vs:=us++[.ref b1,.ref b2]) (sa _ _ hf')
   refine⟨⟨_,rfl⟩,fC (s'.trans sa) hfl,_,aj,?_⟩
   have:=((dl.aX (aY sa)).append (DL.cons _ (sz _ _ c1) (DL.one _ (sz _ _ c2)))).aX tl
   exact this.more (by lia)
  ·rintro σ' H1 ⟨⟨o4,rfl⟩,s1,us,hf1,dl1⟩
   have az0:=dl1.len
   refine⟨_,rfl,_,rfl,fl,fl,us,us,rfl,rfl,hf1,hf1,by lia,fun fl2 avK=>?_⟩
   have s2:=s1.trans (aB (o:=.lst (us++us)) avK)
   have dl2:DL (upd H1 fl2 (.lst (us++us))) (us++us) (4*n):=((dl1.append dl1).more (by lia)).aX (aY (aB avK))
   have hf2:upd H1 fl2 (.lst (us++us)) fl2=some (.lst (us++us)):=aj
   generalize upd H1 fl2 (.lst (us++us))=H2 at s2 dl2 hf2
   generalize us++us=fs at dl2 hf2
   refine⟨Dw,fun de hde=>?_⟩
   have hden:H de=none:=bY.free s2 hde
   have s3:=aB (o:=.lst []) hde
   refine⟨_,rfl,(n:Int),rfl,nb.1,nb.2,?_⟩
   rw[Int.toNat_natCast]
   let PV3:Nat->St->Hp->Prop:=fun i σ' H'=>(∃o4,σ'=[some (.int n),some (.int c),some (.int ((n:Int) - 1)),some (.ref fl2),o4,some (.ref de)])/\bY H2 H'/\∃us,H' de=some (.lst us)/\DL H' us (3*i)
   refine Pr PV3 ?_ ?_ ?_
   ·exact⟨⟨_,rfl⟩,s3,[],aj,DL.nil _⟩
   ·rintro i σ' H' hi ⟨⟨o4,rfl⟩,s',us,hf',dl⟩
    refine⟨_,rfl,.inl ⟨rfl,_,cu.of hf'⟩,⟨_,rfl,Zy,fun b1 h1=>⟨_,rfl,uA,fun b2 h2=>⟨_,rfl,uA,fun b3 h3=>⟨Zy,fun z hz=>?_⟩⟩⟩⟩⟩
    have sb2:=aB (o:=.tup [.str "up",.int (0+(i:Int))]) h2
    have sb3:=aB (o:=.tup [.str "down",.int (0+(i:Int))]) h3
    have sz:=aB (o:=.lst [.ref b1,.ref b2,.ref b3]) hz
    have sa:=(((aB h1).trans sb2).trans sb3).trans sz
    have hlen:=dl.len
    have c1:=sz _ _ (sb3 _ _ (sb2 _ _ (show upd H' b1 (.tup [.str "look",.int (0+(i:Int)),.int 0]) b1=some (.tup (cG.look (0+(i:Int)) 0).vs)from aj)))
    have c2:=sz _ _ (sb3 _ _ (show _=some (.tup (cG.up (0+(i:Int))).vs)from aj))
    have c3:=sz _ _ (show _=some (.tup (cG.down (0+(i:Int))).vs)from aj)
    refine⟨de,z,us,_,rfl,rfl,sa _ _ hf',.inl (cu.of aj),by simp only[List.length_cons,List.length_nil];lia,?_⟩
    have tl:=lB (vs:=us++[.ref b1,.ref b2,.ref b3]) (sa _ _ hf')
    refine⟨⟨_,rfl⟩,fC (s'.trans sa) hde,_,aj,?_⟩
    have:=((dl.aX (aY sa)).append (DL.cons _ c1 (DL.cons _ c2 (DL.one _ c3)))).aX tl
    exact this.more (by lia)
   ·rintro σ' H3 ⟨⟨o4,rfl⟩,s3',ZD,hd3,dl3⟩
    have hf3:=s3' _ _ hf2
    have avL:=dl2.aX (aY s3')
    have s03:=s2.trans s3'
    have hl3:=dl3.len
    refine⟨_,rfl,⟨Zy,fun b1 h1=>⟨Zy,fun b2 h2=>⟨uA,fun b3 h3=>⟨uA,fun b4 h4=>⟨zz4,fun z hz=>?_⟩⟩⟩⟩⟩⟩
    have sb2:=aB (o:=.tup [.str "look",.int 0,.int 0]) h2
    have sb3:=aB (o:=.tup [.str "up",.int 0]) h3
    have sb4:=aB (o:=.tup [.str "down",.int 0]) h4
    have sz:=aB (o:=.lst [.ref b1,.ref b2,.ref b3,.ref b4]) hz
    have sa:=((((aB h1).trans sb2).trans sb3).trans sb4).trans sz
    have c1:=sz _ _ (sb4 _ _ (sb3 _ _ (sb2 _ _ (show upd H3 b1 (.tup [.str "rest",.int 0,.int 0]) b1=some (.tup (cG.rest 0 0).vs)from aj))))
    have c2:=sz _ _ (sb4 _ _ (sb3 _ _ (show _=some (.tup (cG.look 0 0).vs)from aj)))
    have c3:=sz _ _ (sb4 _ _ (show _=some (.tup (cG.up 0).vs)from aj))
    have c4:=sz _ _ (show _=some (.tup (cG.down 0).vs)from aj)
    refine⟨de,z,ZD,_,rfl,rfl,sa _ _ hd3,aj,by simp only[List.length_cons,List.length_nil];lia,fun d4 hd4=>?_⟩
    have s4:=aB (o:=.lst (ZD++[.ref b1,.ref b2,.ref b3,.ref b4])) hd4
    have dl4:=((dl3.aX (aY sa)).append (DL.cons _ c1 (DL.cons _ c2 (DL.cons _ c3 (DL.one _ c4))))).aX (aY s4)
    have amt:=avL.aX (aY (sa.trans s4))
    have hf4:=(sa.trans s4) _ _ hf3
    have s04:=s03.trans (sa.trans s4)
    have ao7:upd (upd (upd (upd (upd (upd H3 b1 (.tup [.str "rest",.int 0,.int 0])) b2 (.tup [.str "look",.int 0,.int 0])) b3 (.tup [.str "up",.int 0])) b4 (.tup [.str "down",.int 0])) z (.lst [.ref b1,.ref b2,.ref b3,.ref b4])) d4 (.lst (ZD++[.ref b1,.ref b2,.ref b3,.ref b4])) d4=some (.lst (ZD++[.ref b1,.ref b2,.ref b3,.ref b4])):=aj
    generalize upd (upd (upd (upd (upd (upd H3 b1 (.tup [.str "rest",.int 0,.int 0])) b2 (.tup [.str "look",.int 0,.int 0])) b3 (.tup [.str "up",.int 0])) b4 (.tup [.str "down",.int 0])) z (.lst [.ref b1,.ref b2,.ref b3,.ref b4])) d4 (.lst (ZD++[.ref b1,.ref b2,.ref b3,.ref b4]))=H4 at dl4 amt hf4 s04 ao7
    generalize ZD++[.ref b1,.ref b2,.ref b3,.ref b4]=u4 at dl4 ao7
    clear sb2 sb3 sb4 sz sa c1 c2 c3 c4 s4 h1 h2 h3 h4 hz hd4 dl3 avL hf3 s03 hd3 s3' hl3
    have hl4:=dl4.len
    have hlf:=amt.len
    have hpk:∃x:Int,Py ([V.int 0,V.int 5]:List V) (c % 2)=some (.int x):=by
     have:c % 2=0\/c % 2=1:=by lia
     rcases this with e | e<;>rw[e]<;>exact⟨_,rfl⟩
    obtain⟨px,hpx⟩:=hpk
    refine⟨_,rfl,_,rfl,⟨uA,fun y hy=>⟨_,rfl,_,_,rfl,rfl,(show(0:Int)<2 by decide),y,_,_,_,rfl,rfl,cu.of aj,hpx,zz4,fun b1 h1=>⟨_,rfl,uA,fun b2 h2=>⟨uA,fun z hz=>?_⟩⟩⟩⟩⟩
    have sy:=aB (o:=.lst [.int 0,.int 5]) hy
    have sb1:=aB (o:=.tup [.str "put",.int ((n:Int) - 1),.int 0,.int px]) h1
    have sb2:=aB (o:=.tup [.str "up",.int ((n:Int) - 1)]) h2
    have sz:=aB (o:=.lst [.ref b1,.ref b2]) hz
    have sa:=((sy.trans sb1).trans sb2).trans sz
    have c1:=sz _ _ (sb2 _ _ (show _=some (.tup (cG.put ((n:Int) - 1) 0 px).vs)from aj))
    have c2:=sz _ _ (show _=some (.tup (cG.up ((n:Int) - 1)).vs)from aj)
    refine ao1 rfl (sa _ _ ao7) aj (sa _ _ hf4) (by simp only[List.length_cons,List.length_nil];lia) fun d5 H5 s5 hd5 asF=>?_
    have dl5:DL H5 _ _:=(((dl4.aX (aY sa)).append (DL.cons _ c1 (DL.one _ c2))).append (amt.aX (aY sa))).aX (aY s5)
    have asG:=amt.aX (aY (sa.trans s5))
    have hf5:=(sa.trans s5) _ _ hf4
    have s05:=s04.trans (sa.trans s5)
    generalize (u4++[.ref b1,.ref b2])++fs=u5 at dl5 asF
    clear sy sb1 sb2 sz sa c1 c2 s5 hy h1 h2 hz hd5 dl4 amt hf4 s04 ao7 hl4
    have hl5:=dl5.len
    try dsimp only[bK]
    refine fW (fun σ' H'=>∃o4 d6 us6,σ'=[some (.int n),some (.int c),some (.int ((n:Int) - 1)),some (.ref fl2),o4,some (.ref d6)]/\bY H H'/\H' fl2=some (.lst fs)/\DL H' fs (4*n)/\H' d6=some (.lst us6)/\DL H' us6 (11*n+20)) (fun N hN=>?_) ?_
    ·refine⟨_,rfl,_,_,rfl,rfl,⟨by decide,by decide⟩,_,_,rfl,rfl,(show(0:Int)<3 by decide),rfl,_,rfl,?_⟩
     by_cases e:c / 2 % 3=1
     ·refine bH (abU e) ?_
      refine⟨_,rfl,⟨_,rfl,Zy,fun b1 h1=>⟨zz1,fun z hz=>?_⟩⟩⟩
      have sb1:=aB (o:=.tup [.str "rest",.int ((n:Int) - 1),.int 0]) h1
      have sz:=aB (o:=.lst [.ref b1]) hz
      have sa:=sb1.trans sz
      have c1:=sz _ _ (show _=some (.tup (cG.rest ((n:Int) - 1) 0).vs)from aj)
      refine ao1 rfl (sa _ _ asF) aj (sa _ _ hf5) (by simp only[List.length_cons,List.length_nil];lia) fun d6 H6 s6 hd6 ayM=>?_
      have dl6:DL H6 _ _:=(((dl5.aX (aY sa)).append (DL.one _ c1)).append (asG.aX (aY sa))).aX (aY s6)
      exact hN _ _ ⟨_,d6,_,rfl,s05.trans (sa.trans s6),(sa.trans s6) _ _ hf5,asG.aX (aY (sa.trans s6)),ayM,dl6.more (by lia)⟩
     ·refine aP (abV e) ?_
      exact hN _ _ ⟨_,d5,_,rfl,s05,hf5,asG,asF,dl5.more (by lia)⟩
    ·rintro σ' H6 ⟨o4',d6,us6,rfl,s06,hf6,avO,hd6,dl6⟩
     have hl6:=dl6.len
     refine⟨_,rfl,⟨Zy,fun b1 h1=>⟨uA,fun b2 h2=>⟨uA,fun z hz=>?_⟩⟩⟩⟩
     have sb1:=aB (o:=.tup [.str "look",.int 0,.int 0]) h1
     have sb2:=aB (o:=.tup [.str "up",.int 0]) h2
     have sz:=aB (o:=.lst [.ref b1,.ref b2]) hz
     have sa:=(sb1.trans sb2).trans sz
     have c1:=sz _ _ (sb2 _ _ (show _=some (.tup (cG.look 0 0).vs)from aj))
     have c2:=sz _ _ (show _=some (.tup (cG.up 0).vs)from aj)
     refine ao1 rfl (sa _ _ hd6) aj (sa _ _ hf6) (by simp only[List.length_cons,List.length_nil];lia) fun d7 H7 s7 hd7 ayN=>?_
     have dl7:DL H7 _ _:=(((dl6.aX (aY sa)).append (DL.cons _ c1 (DL.one _ c2))).append (avO.aX (aY sa))).aX (aY s7)
     have ayO:=avO.aX (aY (sa.trans s7))
     have hf7:=(sa.trans s7) _ _ hf6
     have s07:=s06.trans (sa.trans s7)
     have hl7:=dl7.len
     clear sb1 sb2 sz sa c1 c2 s7 h1 h2 hz hd7
     refine⟨_,rfl,⟨zz4,fun e1 h1=>⟨uA,fun e2 h2=>⟨uA,fun z2 hz=>?_⟩⟩⟩⟩
     have sb1:=aB (o:=.tup [.str "put",.int 0,.int 0,.int 7]) h1
     have sb2:=aB (o:=.tup [.str "up",.int 0]) h2
     have sz:=aB (o:=.lst [.ref e1,.ref e2]) hz
     have sa:=(sb1.trans sb2).trans sz
     have c1:=sz _ _ (sb2 _ _ (show _=some (.tup (cG.put 0 0 7).vs)from aj))
     have c2:=sz _ _ (show _=some (.tup (cG.up 0).vs)from aj)
     refine ao1 rfl (sa _ _ ayN) aj (sa _ _ hf7) (by simp only[List.length_cons,List.length_nil];lia) fun d8 H8 s8 hd8 ayP=>?_
     have dl8:DL H8 _ _:=(((dl7.aX (aY sa)).append (DL.cons _ c1 (DL.one _ c2))).append (ayO.aX (aY sa))).aX (aY s8)
     exact k d8 _ H8 (bY.free (s07.trans sa) hd8) (s07.trans (sa.trans s8)) ayP (dl8.more (by lia))
end
end gH
namespace gH
open PySem L2
def ao9:Sp:=fun vs H Q _=>∃l,∃n m:Nat,∃cs:List Int,vs=[.ref l,.int n,.int m]/\H l=some (.lst (cs.map V.int))/\0<n/\n<=100/\0<m/\m<=100/\cs.length<=100/\
 ∀r us H',H r=none->bY H H'->H' r=some (.lst us)->DL H' us 400->Q (.ref r) H'
def wD:List V:=[.str "look",.str "put",.str "up",.str "down",.str "put",.str "look",.str "rest",.str "down"]
theorem amv{j:Int}(h0:0<=j)(h1:j<8):∃s:Str,Py wD j=some (.str s)/\(s="put"\/s="look"\/s="rest"\/s="up"\/s="down"):=by
 have:j=0\/j=1\/j=2\/j=3\/j=4\/j=5\/j=6\/j=7:=by lia
 rcases this with rfl | rfl | rfl | rfl | rfl | rfl | rfl | rfl
 ·exact⟨_,rfl,.inr (.inl rfl)⟩
 ·exact⟨_,rfl,.inl rfl⟩
 ·exact⟨_,rfl,.inr (.inr (.inr (.inl rfl)))⟩
 ·exact⟨_,rfl,.inr (.inr (.inr (.inr rfl)))⟩
 ·exact⟨_,rfl,.inl rfl⟩
 ·exact⟨_,rfl,.inr (.inl rfl)⟩
 ·exact⟨_,rfl,.inr (.inr (.inl rfl))⟩
 ·exact⟨_,rfl,.inr (.inr (.inr (.inr rfl)))⟩
section
variable{P:Program}{w:World}{K:PySem.W.Frag}{mg:Str->Option Value}{base:Heap}{t:Jh}
set_option maxHeartbeats 8000000 in
theorem aag(T:Txt K w mg t):c7 P w K mg base nP 1 t.iG t.wk ["_law_cells","_law_count","_law_pages"] ao9:=by
 refine T.LK.ok cA (fun vs H Q E h=>?_) (fun cdv A outer s H vs Q E hr h=>?_)
 ·obtain⟨l,n,m,cs,rfl,_⟩:=h;rfl
 ·obtain⟨l,n,m,cs,rfl,hl,hn0,hn,hm0,hm,hcs,k⟩:=h
  have sl:sizeLine=16777216:=by decide
  refine' ⟨_,?sr,?_⟩
  case' sr=>refine' ao ?Xw ?Jr
  case' Jr=>refine' ao ?Xx ?Js
  case' Js=>refine' ao ?Xy ?Jt
  case' Jt=>refine' aC ?Xz
  case' Xw=>exact(bh (i:=3) cA.nd rfl (Or.inl rfl) (bN (aa aD (aa aD (aa aD (aa aD (aa aD (aa aD (aa aD (aa aD aq))))))))))
  case' Xx=>exact(bh (i:=4) cA.nd rfl (Or.inl rfl) (bN aq))
  case' Xy=>refine' yK PassesOwn.never rfl (gU (by rfl) T.lD (aa (bF iK (dM dU (by rfl) T.Be PySem.boot_len (aa (pv 0) aq)) aA) aq)) (cU (i:=5) cA.nd rfl (Or.inl rfl)) ?ams
  case' ams=>refine' ao ?XH ?XJ
  case' XJ=>refine' ao ?ags ?ail
  case' ail=>refine' ao ?amw ?asH
  case' asH=>refine' ao ?avP ?asI
  case' asI=>refine' ao ?avQ ?asJ
  case' asJ=>refine' ao ?avR ?asK
  case' asK=>refine' ao ?avS ?asL
  case' asL=>refine' ao ?avT ?asM
  case' asM=>refine' ao ?avU ?asN
  case' asN=>refine' aC ?avV
  case' XH=>exact(bh (i:=6) cA.nd rfl (Or.inl rfl) (bF jg (bF iK (aN bB (pv 0) (bF vN aA (pv 5)) (fun _ _=>rfl)) aA) (pv 5)))
  case' ags=>exact(bh (i:=7) cA.nd rfl (Or.inl rfl) (bF jg (aN bB (pv 0) (bF jg (bF vN aA (pv 5)) aA) (fun _ _=>rfl)) (pv 5)))
  case' amw=>exact(bh (i:=8) cA.nd rfl (Or.inl rfl) (bF jg (aN bB (pv 0) (bF jg (bF vN aA (pv 5)) aA) (fun _ _=>rfl)) (pv 5)))
  case' avP=>exact(bh (i:=9) cA.nd rfl (Or.inl rfl) (aN bB (pv 3) (bF eN (bF jg (aN bB (pv 0) (bF vN aA (pv 5)) (fun _ _=>rfl)) (bF vN aA (pv 5))) aA) (fun _ _=>rfl)))
  case' avQ=>exact(bh (i:=10) cA.nd rfl (Or.inl rfl) (bF eN (pv 6) (pv 1)))
  case' avR=>exact(bh (i:=11) cA.nd rfl (Or.inl rfl) (bF eN (pv 7) (pv 2)))
  case' avS=>refine' cg (aU cQ (bF eN (bF iK (pv 8) aA) aA) aA (bj _)) ?avW ?avX
  case' avW=>refine' ao ?agv ?asO
  case' asO=>refine' aC ?avY
  case' agv=>exact(bh (i:=12) cA.nd rfl (Or.inl rfl) (bF eN (pv 6) (bF acd aA aA)))
  case' avY=>exact(bh (i:=10) cA.nd rfl (Or.inl rfl) (aN bB (bN (aa (Rr Dy aA) (aa (pv 1) (aa aA (aa (bF Jb (Rr Dy aA) (pv 12)) (aa (bF jg (pv 1) (pv 12)) aq)))))) (bF eN (pv 6) aA) (fun _ _=>rfl)))
  case' avX=>exact bC
  case' avT=>refine' cg (aU cQ (bF eN (bF iK (pv 8) aA) aA) aA (bj _)) ?avZ ?av0
  case' avZ=>refine' ao ?av1 ?asQ
  case' asQ=>refine' aC ?av2
  case' av1=>exact(bh (i:=12) cA.nd rfl (Or.inl rfl) (bF eN (pv 7) (bF acd aA aA)))
  case' av2=>exact(bh (i:=11) cA.nd rfl (Or.inl rfl) (aN bB (bN (aa (Rr Dy aA) (aa (pv 2) (aa aA (aa (bF Jb (Rr Dy aA) (pv 12)) (aa (bF jg (pv 2) (pv 12)) aq)))))) (bF eN (pv 7) aA) (fun _ _=>rfl)))
  case' av0=>exact bC
  case' avU=>refine' cg (aU cQ (pv 9) aD (bj _)) ?av3 ?av4
  case' av3=>refine' ao ?av5 ?asR
  case' asR=>refine' ao ?av6 ?asS
  case' asS=>refine' ao ?av7 ?asT
  case' asT=>refine' ao ?av8 ?asU
  case' asU=>refine' aC ?av9
  case' av5=>exact(bh (i:=13) cA.nd rfl (Or.inl rfl) (bF Jb (bF eN (bF jg (bF iK (pv 7) aA) (bF vN aA (pv 5))) aA) aA))
  case' av6=>refine' cg (aU apZ (pv 13) aA (bj _)) ?awa ?awb
  case' awa=>refine' aC ?awc
  case' awc=>exact(bh (i:=13) cA.nd rfl (Or.inl rfl) aA)
  case' awb=>refine' aC ?awd
  case' awd=>exact(cg (aU apZ (pv 13) aA (bj _)) (aC (bh (i:=13) cA.nd rfl (Or.inl rfl) (bF jg aA (pv 13)))) bC)
  case' av7=>exact(bh (i:=14) cA.nd rfl (Or.inl rfl) (bF eN (bF vN (pv 7) aA) (bF acd aA aA)))
  case' av8=>exact(bh (i:=13) cA.nd rfl (Or.inl rfl) (aN bB (bN (aa (pv 13) (aa (pv 13) (aa (pv 14) (aa (bF Jb aA (pv 14)) aq))))) (bF eN (pv 6) aA) (fun _ _=>rfl)))
  case' av9=>exact(bO (fj PySem.F.plainAttrs_list PySem.F.slot_list_append PySem.F.type_list_append cH (pv 4) (aa (bZ (aa (pv 9) (aa (pv 10) (aa (pv 11) (aa (pv 13) aq))))) aq)))
  case' av4=>refine' aC ?awe
  case' awe=>refine' cg (PW.pt (wU (aU cQ (pv 9) aD (bj _)) (qe (aU cQ (pv 9) aD (bj _))))) ?awf ?awg
  case' awf=>refine' ao ?awh ?asV
  case' asV=>refine' aC ?awi
  case' awh=>exact(bO (fj PySem.F.plainAttrs_list PySem.F.slot_list_append PySem.F.type_list_append cH (pv 4) (aa (bZ (aa (pv 9) (aa (pv 10) (aa (pv 11) aq)))) aq)))
  case' awi=>exact(cg (PW.pt (Pn (aU cQ (pv 9) aD (bj _)) (Ks (aU cQ (bF eN (bF iK (pv 7) aA) aA) aA (bj _))))) (aC (bO (fj PySem.F.plainAttrs_list PySem.F.slot_list_append PySem.F.type_list_append cH (pv 4) (aa (bZ (aa aD (aa (pv 10) (aa (pv 11) aq)))) aq)))) bC)
  case' awg=>refine' aC ?asW
  case' asW=>exact(bO (fj PySem.F.plainAttrs_list PySem.F.slot_list_append PySem.F.type_list_append cH (pv 4) (aa (bZ (aa (pv 9) (aa (pv 10) aq))) aq)))
  case' avV=>refine' cg (aU abu (bF eN (pv 8) aA) aA (bj _)) ?awj ?awk
  case' awj=>refine' ao ?asY ?apa
  case' apa=>refine' aC ?asZ
  case' asY=>exact(bO (fj PySem.F.plainAttrs_list PySem.F.slot_list_append PySem.F.type_list_append cH (pv 4) (aa (bZ (aa aD (aa (bF eN (pv 8) (pv 1)) aq))) aq)))
  case' asZ=>exact(bO (fj PySem.F.plainAttrs_list PySem.F.slot_list_append PySem.F.type_list_append cH (pv 4) (aa (bZ (aa aD (aa (bF eN (bF jg (bF iK (pv 8) aA) (pv 5)) (pv 1)) aq))) aq)))
  case' awk=>exact bC
  case' Xz=>exact(bw (pv 4))
  try dsimp only[dw,Cx.kI]
  show let Z1:L2.TS:=_;let Z2:L2.TS:=_;let Z3:L2.TS:=_;let Z4:L2.TS:=_;let Z5:L2.TS:=_;let Z6:L2.TS:=_;let Z7:L2.TS:=_;let Z8:L2.TS:=_;let Z9:L2.TS:=_;let Bh:L2.TS:=_;let Mh:L2.TS:=aR Z9 (Bh);let Mi:L2.TS:=dg _ Mh bK;let RL:L2.TS:=_;let RM:L2.TS:=_;let Z15:L2.TS:=aR RL (RM);let Z16:L2.TS:=dg _ Z15 bK;let Z17:L2.TS:=_;let Z18:L2.TS:=_;let Z19:L2.TS:=_;let Z20:L2.TS:=dg _ Z19 bK;let Z21:L2.TS:=dg _ Z18 Z20;let Z22:L2.TS:=_;let Z23:L2.TS:=_;let Z24:L2.TS:=_;let Z25:L2.TS:=aR Z17 (aR Z21 (aR Z22 (aR Z23 (Z24))));let Z26:L2.TS:=_;let Z27:L2.TS:=_;let Z28:L2.TS:=dg _ Z27 bK;let Z29:L2.TS:=aR Z26 (Z28);let Z30:L2.TS:=_;let Z31:L2.TS:=dg _ Z29 Z30;let Z32:L2.TS:=dg _ Z25 Z31;let Z33:L2.TS:=_;let Z34:L2.TS:=_;let Z35:L2.TS:=aR Z33 (Z34);let Z36:L2.TS:=dg _ Z35 bK;let Z37:L2.TS:=aR Z3 (aR Z4 (aR Z5 (aR Z6 (aR Z7 (aR Z8 (aR Mi (aR Z16 (aR Z32 (Z36)))))))));let Z38:L2.TS:=ZF _ _ Z37;let Z39:L2.TS:=_;let D0:Ends:=_;(aR Z1 (aR Z2 (aR Z38 (Z39)))) D0 _ _
  intro Z1 Z2 Z3 Z4 Z5 Z6 Z7 Z8 Z9 Bh Mh Mi RL RM Z15 Z16 Z17 Z18 Z19 Z20 Z21 Z22 Z23 Z24 Z25 Z26 Z27 Z28 Z29 Z30 Z31 Z32 Z33 Z34 Z35 Z36 Z37 Z38 Z39 D0
  refine⟨zz8,fun wl hwl=>⟨Dw,fun as has=>?_⟩⟩
  have sw:=aB (o:=.lst wD) hwl
  have nwa:wl≠as:=fun z=>by rw[<-z,aj]at has;cases has
  have awl:H as=none:=Lv.upd _ has
  have s0:bY H (upd (upd H wl (.lst wD)) as (.lst [])):=sw.trans (aB has)
  have hw0:upd (upd H wl (.lst wD)) as (.lst []) wl=some (.lst wD):=by rw[az nwa,aj]
  refine⟨_,rfl,l,_,rfl,.inl (cu.of (s0 _ _ hl)),_,_,rfl,rfl,⟨by decide,by decide⟩,((cs.length / 3:Nat):Int),by rw[List.length_map];rfl,(by lia),(by lia),?_⟩
  rw[Int.toNat_natCast]
  let PV1:Nat->St->Hp->Prop:=fun i σ' H'=>(∃o5 o6 o7 o8 o9 o10 o11 o12 o13 o14,σ'=[some (.ref l),some (.int n),some (.int m),some (.ref wl),some (.ref as),o5,o6,o7,o8,o9,o10,o11,o12,o13,o14])/\bY H H'/\H' wl=some (.lst wD)/\∃us,H' as=some (.lst us)/\DL H' us (4*i)
  refine Pr PV1 ?_ ?_ ?_
  ·exact⟨⟨_,_,_,_,_,_,_,_,_,_,rfl⟩,s0,hw0,[],aj,DL.nil _⟩
  ·rintro i σ' H' hi ⟨⟨o5,o6,o7,o8,o9,o10,o11,o12,o13,o14,rfl⟩,s',hw',us,ha',dl⟩
   have hl':=s' _ _ hl
   have hul:=dl.len
   obtain⟨x0,hx0⟩:=RP (ns:=cs) (k:=3*(0+(i:Int))) (by lia) (by lia)
   obtain⟨x1,hx1⟩:=RP (ns:=cs) (k:=3*(0+(i:Int))+1) (by lia) (by lia)
   obtain⟨x2,hx2⟩:=RP (ns:=cs) (k:=3*(0+(i:Int))+2) (by lia) (by lia)
   obtain⟨wd0,hwd,hwo⟩:=amv (j:=(x0+3*(0+(i:Int))) % 8) (by lia) (by lia)
   have M5:ajO 3 (0+(i:Int)):=.inl ⟨by decide,by decide⟩
   refine⟨_,rfl,_,rfl,_,_,rfl,rfl,M5,l,_,_,_,rfl,rfl,cu.of hl',hx0,_,_,rfl,rfl,⟨by decide,by decide⟩,_,rfl,_,_,rfl,rfl,?_⟩
   refine⟨_,rfl,_,rfl,_,_,rfl,rfl,M5,_,_,rfl,rfl,l,_,_,_,rfl,rfl,cu.of hl',hx1,_,rfl,_,_,rfl,rfl,?_⟩
   refine⟨_,rfl,_,rfl,_,_,rfl,rfl,M5,_,_,rfl,rfl,l,_,_,_,rfl,rfl,cu.of hl',hx2,_,rfl,_,_,rfl,rfl,?_⟩
   refine⟨_,rfl,_,rfl,_,rfl,_,_,rfl,rfl,M5,l,_,_,_,rfl,rfl,cu.of hl',hx0,_,rfl,_,_,rfl,rfl,M5,_,_,rfl,rfl,_,_,rfl,rfl,(show(0:Int)<8 by decide),wl,_,_,_,rfl,rfl,cu.of hw',hwd,?_⟩
   refine⟨_,rfl,_,rfl,_,_,rfl,rfl,(show(0:Int)<n by lia),?_⟩
   refine⟨_,rfl,_,rfl,_,_,rfl,rfl,(show(0:Int)<m by lia),?_⟩
   have P30:(0:Int)<(10:Int) ^ (30:Int).toNat:=by decide
   try dsimp only[bK]
   refine fW (fun σ' Zz=>∃dk p12,σ'=[some (.ref l),some (.int n),some (.int m),some (.ref wl),some (.ref as),some (.int (0+(i:Int))),some (.int (x0 / 8+(0+(i:Int)))),some (.int (x1+(0+(i:Int)))),some (.int (x2+(0+(i:Int)))),some (.str wd0),some (.int dk),some (.int ((x1+(0+(i:Int))) % (m:Int))),p12,o13,o14]/\bY H' Zz) (fun N hN=>?_) ?_
   ·refine⟨_,rfl,_,_,rfl,rfl,⟨by decide,by decide⟩,_,_,rfl,rfl,(show(0:Int)<16 by decide),rfl,_,rfl,?_⟩
    by_cases e:(x2+(0+(i:Int))) / 16 % 16=7
    ·refine bH (abU e) ?_
     refine⟨_,rfl,_,_,rfl,rfl,⟨by decide,by decide,by decide⟩,_,_,rfl,rfl,P30,?_⟩
     obtain⟨y,hy⟩:=RP (ns:=[-1,(n:Int),1000000000000,-2 - (x0 / 8+(0+(i:Int))) % (10:Int) ^ (30:Int).toNat,(n:Int)+(x0 / 8+(0+(i:Int))) % (10:Int) ^ (30:Int).toNat]) (k:=(x0 / 8+(0+(i:Int))) % 5) (by lia) (by show _<((5:Nat):Int);lia)
     refine⟨_,rfl,_,rfl,_,rfl,_,rfl,_,_,rfl,rfl,_,rfl,_,rfl,_,_,rfl,rfl,zz5,fun z hz=>⟨_,rfl,_,_,rfl,rfl,(show(0:Int)<5 by decide),z,_,_,_,rfl,rfl,cu.of aj,hy,?_⟩⟩
     exact hN _ _ ⟨_,_,rfl,aB hz⟩
    ·refine aP (abV e) ?_
     exact hN _ _ ⟨_,_,rfl,bY.refl _⟩
   rintro σ' H1 ⟨dk,p12,rfl,s1⟩
   try dsimp only[bK]
   refine fW (fun σ' Zz=>∃pg q12,σ'=[some (.ref l),some (.int n),some (.int m),some (.ref wl),some (.ref as),some (.int (0+(i:Int))),some (.int (x0 / 8+(0+(i:Int)))),some (.int (x1+(0+(i:Int)))),some (.int (x2+(0+(i:Int)))),some (.str wd0),some (.int dk),some (.int pg),q12,o13,o14]/\bY H' Zz) (fun N hN=>?_) ?_
   ·refine⟨_,rfl,_,_,rfl,rfl,⟨by decide,by decide⟩,_,_,rfl,rfl,(show(0:Int)<16 by decide),rfl,_,rfl,?_⟩
    by_cases e:(x2+(0+(i:Int))) / 16 % 16=11
    ·refine bH (abU e) ?_
     refine⟨_,rfl,_,_,rfl,rfl,⟨by decide,by decide,by decide⟩,_,_,rfl,rfl,P30,?_⟩
     obtain⟨y,hy⟩:=RP (ns:=[-1,(m:Int),1000000000000,-2 - (x1+(0+(i:Int))) % (10:Int) ^ (30:Int).toNat,(m:Int)+(x1+(0+(i:Int))) % (10:Int) ^ (30:Int).toNat]) (k:=(x1+(0+(i:Int))) % 5) (by lia) (by show _<((5:Nat):Int);lia)
     refine⟨_,rfl,_,rfl,_,rfl,_,rfl,_,_,rfl,rfl,_,rfl,_,rfl,_,_,rfl,rfl,zz5,fun z hz=>⟨_,rfl,_,_,rfl,rfl,(show(0:Int)<5 by decide),z,_,_,_,rfl,rfl,cu.of aj,hy,?_⟩⟩
     exact hN _ _ ⟨_,_,rfl,s1.trans (aB hz)⟩
    ·refine aP (abV e) ?_
     exact hN _ _ ⟨_,_,rfl,s1⟩
   rintro σ' H2 ⟨pg,q12,rfl,s2⟩
   have ha2:=s2 _ _ ha'
   have dl2:=dl.aX (aY s2)
   have s02:=s'.trans s2
   have hw2:=s2 _ _ hw'
   have one:∀(H3:Hp) (x:cG) (b:Addr) (ZD:List V) (j:Nat),bY H H3->H3 wl=some (.lst wD)->H3 as=some (.lst ZD)->DL H3 ZD j->H3 b=none->bY H (upd (upd H3 b (.tup x.vs)) as (.lst (ZD++[.ref b])))/\upd (upd H3 b (.tup x.vs)) as (.lst (ZD++[.ref b])) wl=some (.lst wD)/\DL (upd (upd H3 b (.tup x.vs)) as (.lst (ZD++[.ref b]))) (ZD++[.ref b]) (j+1):=fun H3 x b ZD j s3 hw3 ha3 dl3 hb=>by
    have sb:=aB (o:=.tup x.vs) hb
    have nwb:wl≠b:=aG hw3 hb
    refine⟨fC (s3.trans sb) awl,by rw[az nwa,az nwb];exact hw3,?_⟩
    have tl:=lB (vs:=ZD++[.ref b]) (sb _ _ ha3)
    exact((dl3.aX (aY sb)).append (DL.one x aj)).aX tl
   try dsimp only[bK]
   refine fW (fun σ' Zz=>∃p13 p14 us2,σ'=[some (.ref l),some (.int n),some (.int m),some (.ref wl),some (.ref as),some (.int (0+(i:Int))),some (.int (x0 / 8+(0+(i:Int)))),some (.int (x1+(0+(i:Int)))),some (.int (x2+(0+(i:Int)))),some (.str wd0),some (.int dk),some (.int pg),q12,p13,p14]/\bY H Zz/\Zz wl=some (.lst wD)/\Zz as=some (.lst us2)/\DL Zz us2 (4*i+2)) (fun N hN=>?_) ?_
   ·refine⟨_,rfl,rfl,_,rfl,?_⟩
    rcases hwo with e | e | e | e | e
    ·subst e
     refine bH fD ?_
     refine⟨_,rfl,_,_,rfl,rfl,⟨by decide,by decide⟩,_,rfl,_,_,rfl,rfl,.inl ⟨by decide,by decide⟩,_,_,rfl,rfl,_,_,rfl,rfl,(show(0:Int)<120 by decide),_,_,rfl,rfl,?_⟩
     try dsimp only[bK]
     refine fW (fun σ' Zz=>∃nb,σ'=[some (.ref l),some (.int n),some (.int m),some (.ref wl),some (.ref as),some (.int (0+(i:Int))),some (.int (x0 / 8+(0+(i:Int)))),some (.int (x1+(0+(i:Int)))),some (.int (x2+(0+(i:Int)))),some (.str "put"),some (.int dk),some (.int pg),q12,some (.int nb),o14]/\Zz=H2) (fun N' hN'=>?_) ?_
     ·refine⟨_,rfl,_,_,rfl,rfl,_,rfl,?_⟩
      by_cases e1:(69:Int)<((x1+(0+(i:Int))) / 3+7*(0+(i:Int))) % 120 - 20
      ·refine bH (decide_eq_true e1) ?_
       exact hN' _ _ ⟨_,rfl,rfl⟩
      ·refine aP (decide_eq_false e1) ?_
       refine⟨_,rfl,_,_,rfl,rfl,_,rfl,?_⟩
       by_cases e2:(60:Int)<((x1+(0+(i:Int))) / 3+7*(0+(i:Int))) % 120 - 20
       ·refine bH (decide_eq_true e2) ?_
        refine⟨_,rfl,_,_,rfl,rfl,?_⟩
        exact hN' _ _ ⟨_,rfl,rfl⟩
       ·refine aP (decide_eq_false e2) ?_
        exact hN' _ _ ⟨_,rfl,rfl⟩
     rintro σ' H2' ⟨nb,rfl,rfl⟩
     refine⟨_,rfl,_,_,rfl,rfl,.inr ⟨by decide,by decide⟩,_,_,rfl,rfl,⟨by decide,by decide,by decide⟩,_,_,rfl,rfl,P30,?_⟩
     obtain⟨y,hy⟩:=RP (ns:=[nb,nb,(x1+(0+(i:Int)))*48271 % (10:Int) ^ (30:Int).toNat,0 - (x1+(0+(i:Int)))*48271 % (10:Int) ^ (30:Int).toNat]) (k:=(x0 / 8+(0+(i:Int))) % 4) (by lia) (by show _<((4:Nat):Int);lia)
     refine⟨_,rfl,_,rfl,_,rfl,_,rfl,_,_,rfl,rfl,zz4,fun z hz=>⟨_,rfl,_,_,rfl,rfl,(show(0:Int)<4 by decide),z,_,_,_,rfl,rfl,cu.of aj,hy,?_⟩⟩
     have sz:=aB (o:=.lst ([nb,nb,(x1+(0+(i:Int)))*48271 % (10:Int) ^ (30:Int).toNat,0 - (x1+(0+(i:Int)))*48271 % (10:Int) ^ (30:Int).toNat].map V.int)) hz
     refine⟨_,rfl,.inl ⟨rfl,_,cu.of (sz _ _ ha2)⟩,_,rfl,_,rfl,_,rfl,_,rfl,zz4,fun b hb=>⟨as,us,_,rfl,rfl,(aB hb) _ _ (sz _ _ ha2),by lia,?_⟩⟩
     obtain⟨k1,k2,k3⟩:=one _ (.put dk pg y) b us (4*i) (s02.trans sz) (sz _ _ hw2) (sz _ _ ha2) (dl2.aX (aY sz)) hb
     exact hN _ _ ⟨_,_,_,rfl,k1,k2,aj,k3.more (by lia)⟩
    ·subst e
     refine aP (dh (by decide +kernel)) ?_
     refine⟨_,rfl,rfl,_,rfl,?_⟩
     refine bH fD (mG ?_)
     refine⟨_,rfl,.inl ⟨rfl,_,cu.of ha2⟩,_,rfl,_,rfl,_,rfl,Zy,fun b hb=>⟨as,us,_,rfl,rfl,(aB hb) _ _ ha2,by lia,?_⟩⟩
     obtain⟨k1,k2,k3⟩:=one _ (.look dk pg) b us (4*i) s02 hw2 ha2 dl2 hb
     refine⟨_,rfl,rfl,_,rfl,?_⟩
     refine aP (dh (by decide +kernel)) (uB ?_)
     exact hN _ _ ⟨_,_,_,rfl,k1,k2,aj,k3.more (by lia)⟩
    ·subst e
     refine aP (dh (by decide +kernel)) ?_
     refine⟨_,rfl,rfl,_,rfl,?_⟩
     refine aP (dh (by decide +kernel)) ?_
     refine⟨_,rfl,rfl,_,rfl,?_⟩
     refine bH fD ?_
     refine⟨_,rfl,.inl ⟨rfl,_,cu.of ha2⟩,_,rfl,_,rfl,_,rfl,Zy,fun b hb=>⟨as,us,_,rfl,rfl,(aB hb) _ _ ha2,by lia,?_⟩⟩
     obtain⟨k1,k2,k3⟩:=one _ (.rest dk pg) b us (4*i) s02 hw2 ha2 dl2 hb
     have ayV:=k3.len
     have ha3:upd (upd H2 b (.tup (cG.rest dk pg).vs)) as (.lst (us++[.ref b])) as=some (.lst (us++[.ref b])):=aj
     have go:∀H3:Hp,bY H H3->H3 wl=some (.lst wD)->H3 as=some (.lst (us++[.ref b]))->DL H3 (us++[.ref b]) (4*i+1)->
      (dg (aum (afh (Wa rEq (jf 9) (tC (.str "rest")))) (afh (Wa rEq (Wa (rI (fun _ j=>0<j) fun i j=>V.int (i % j)) (Wa (rI auA fun i j=>V.int (i / j)) (jf 7) (tC (.int 3))) (tC (.int 2))) (tC (.int 1))))) (aiM (tBM K "list" KD (jf 4) (lX (ak2 (lX (tC (.str "look")) (lX (jf 10) (lX (jf 11) Hf)))) Hf))) bK) {nx:=N,rt:=Q} [some (.ref l),some (.int n),some (.int m),some (.ref wl),some (.ref as),some (.int (0+(i:Int))),some (.int (x0 / 8+(0+(i:Int)))),some (.int (x1+(0+(i:Int)))),some (.int (x2+(0+(i:Int)))),some (.str "rest"),some (.int dk),some (.int pg),q12,o13,o14] H3:=fun H3 g1 g2 g3 g4=>by
      refine⟨_,rfl,rfl,_,rfl,?_⟩
      refine bH fD ?_
      refine⟨_,rfl,_,_,rfl,rfl,⟨by decide,by decide⟩,_,_,rfl,rfl,(show(0:Int)<2 by decide),rfl,_,rfl,?_⟩
      by_cases e3:(x1+(0+(i:Int))) / 3 % 2=1
      ·refine bH (abU e3) ?_
       refine⟨_,rfl,.inl ⟨rfl,_,cu.of g3⟩,_,rfl,_,rfl,Zy,fun b2 hb2=>⟨as,_,_,rfl,rfl,(aB hb2) _ _ g3,by lia,?_⟩⟩
       obtain⟨m1,m2,m3⟩:=one _ (.look dk pg) b2 _ (4*i+1) g1 g2 g3 g4 hb2
       exact hN _ _ ⟨_,_,_,rfl,m1,m2,aj,m3.more (by lia)⟩
      ·refine aP (abV e3) ?_
       exact hN _ _ ⟨_,_,_,rfl,g1,g2,g3,g4.more (by lia)⟩
     exact go _ k1 k2 ha3 k3
    ·subst e
     refine aP (dh (by decide +kernel)) ?_
     refine⟨_,rfl,rfl,_,rfl,?_⟩
     refine aP (dh (by decide +kernel)) ?_
     refine⟨_,rfl,rfl,_,rfl,?_⟩
     refine aP (dh (by decide +kernel)) ?_
     refine⟨_,rfl,.inl ⟨rfl,_,cu.of ha2⟩,_,rfl,_,rfl,uA,fun b hb=>⟨as,us,_,rfl,rfl,(aB hb) _ _ ha2,by lia,?_⟩⟩
     obtain⟨k1,k2,k3⟩:=one _ (.up dk) b us (4*i) s02 hw2 ha2 dl2 hb
     exact hN _ _ ⟨_,_,_,rfl,k1,k2,aj,k3.more (by lia)⟩
    ·subst e
     refine aP (dh (by decide +kernel)) ?_
     refine⟨_,rfl,rfl,_,rfl,?_⟩
     refine aP (dh (by decide +kernel)) ?_
     refine⟨_,rfl,rfl,_,rfl,?_⟩
     refine aP (dh (by decide +kernel)) ?_
     refine⟨_,rfl,.inl ⟨rfl,_,cu.of ha2⟩,_,rfl,_,rfl,uA,fun b hb=>⟨as,us,_,rfl,rfl,(aB hb) _ _ ha2,by lia,?_⟩⟩
     obtain⟨k1,k2,k3⟩:=one _ (.down dk) b us (4*i) s02 hw2 ha2 dl2 hb
     exact hN _ _ ⟨_,_,_,rfl,k1,k2,aj,k3.more (by lia)⟩
   rintro σ' H3 ⟨p13,p14,ZD,rfl,s03,hw3,ha3,dl3⟩
   have ayV:=dl3.len
   refine⟨_,rfl,_,_,rfl,rfl,(show(0:Int)<5 by decide),_,_,rfl,rfl,_,rfl,?_⟩
   by_cases e:(x2+(0+(i:Int))) % 5<4
   ·refine bH (decide_eq_true e) ?_
    refine⟨_,rfl,.inl ⟨rfl,_,cu.of ha3⟩,_,rfl,_,rfl,_,_,rfl,rfl,(show(0:Int)<n by lia),uA,fun b hb=>⟨as,ZD,_,rfl,rfl,(aB hb) _ _ ha3,by lia,?_⟩⟩
    obtain⟨k1,k2,k3⟩:=one _ (.up ((x2+(0+(i:Int))) % (n:Int))) b ZD (4*i+2) s03 hw3 ha3 dl3 hb
    have aBL:=k3.len
    have ha4:upd (upd H3 b (.tup (cG.up ((x2+(0+(i:Int))) % (n:Int))).vs)) as (.lst (ZD++[.ref b])) as=some (.lst (ZD++[.ref b])):=aj
    refine⟨_,rfl,.inl ⟨rfl,_,cu.of ha4⟩,_,rfl,_,_,rfl,rfl,⟨by decide,by decide⟩,_,rfl,_,_,rfl,rfl,_,rfl,_,_,rfl,rfl,(show(0:Int)<n by lia),uA,fun b2 hb2=>⟨as,ZD++[.ref b],_,rfl,rfl,aB hb2 as (.lst (ZD++[.ref b])) aj,by lia,?_⟩⟩
    obtain⟨m1,m2,m3⟩:=one _ (.down (((x2+(0+(i:Int))) / 4+(0+(i:Int))) % (n:Int))) b2 _ (4*i+3) k1 k2 ha4 k3 hb2
    exact⟨⟨_,_,_,_,_,_,_,_,_,_,rfl⟩,m1,m2,_,aj,m3.more (by lia)⟩
   ·refine aP (decide_eq_false e) ?_
    exact⟨⟨_,_,_,_,_,_,_,_,_,_,rfl⟩,s03,hw3,_,ha3,dl3.more (by lia)⟩
  ·rintro σ' H' ⟨⟨o5,o6,o7,o8,o9,o10,o11,o12,o13,o14,rfl⟩,s',_,us,ha',dl⟩
   exact⟨_,rfl,k as us H' awl s' ha' (dl.more (by lia))⟩
end
end gH
namespace gH
open PySem L2
def ayW(K:PySem.W.Frag):Sp:=fun vs H Q _=>∃(a:Addr) (ns:List Int) (k:Int),vs=[.ref a,.int k]/\cu K H a (ns.map V.int)/\0<=k/\∀z:Int,Q (.int z) H
section
variable{P:Program}{w:World}{K:PySem.W.Frag}{mg:Str->Option Value}{base:Heap}{t:Jh}
theorem Ha(T:Txt K w mg t):c7 P w K mg base nP 1 t.Ep t.acE ["_law_script","_law_k"] (ayW K):=by
 refine T.Jo.ok anY (fun vs H Q E h=>?_) (fun cdv A outer s H vs Q E hr h=>?_)
 ·obtain⟨a,ns,k,rfl,_⟩:=h;rfl
 ·obtain⟨a,ns,k,rfl,ha,hk,q⟩:=h
  refine⟨_,(ao (cg (aU abu (pv 1) (dM dU (by rfl) T.Be PySem.boot_len (aa (pv 0) aq)) (bj _)) (aC (bw (aN bB (pv 0) (pv 1) (fun _ _=>rfl)))) bC)
   (aC (bw aA))),?_⟩
  try dsimp only[dw,Cx.kI]
  show let Z1:L2.TS:=_;let Z2:L2.TS:=dg _ Z1 bK;let Z3:L2.TS:=_;let D0:Ends:=_;(aR Z2 (Z3)) D0 _ _
  intro Z1 Z2 Z3 D0
  refine⟨_,rfl,_,rfl,a,_,rfl,.inl ha,_,_,rfl,rfl,_,rfl,?_⟩
  by_cases h:k<((ns.map V.int).length:Nat)
  ·refine bH (decide_eq_true h) ?_
   obtain⟨z,hz⟩:=RP hk (by simpa using h)
   exact⟨_,rfl,_,rfl,a,_,k,_,rfl,rfl,ha,hz,q z⟩
  ·refine aP (decide_eq_false h) ?_
   exact q 0
end
theorem amx(n p:Nat):cnt n p (fun _=>[]) (fun _=>[])=0:=by
 unfold cnt
 induction n with
 | zero=>rfl
 | succ n ih=>rw[km,ih];rfl
theorem jU.start(n:Nat)(ns:List Int):jU n ns.length (S0 ns) where
 pn p _:=⟨(fun x h=>nomatch h),(fun x h=>nomatch h),(fun x h=>nomatch h)⟩
 am p _:=⟨fun _=>rfl,fun _=>rfl⟩
 up d _ l h:=by cases h
 dn d _ l h:=by cases h
 ws d _ w h:=by cases h
 ct p _:=by rw[show(S0 ns).up=fun _=>[]from rfl,show(S0 ns).dn=fun _=>[]from rfl,amx];rfl
theorem Bd.start(ns:List Int):Bd 0 (S0 ns) []:=⟨fun p=>Nat.le_refl _,fun d=>Nat.le_refl _,Nat.le_refl _,fun d=>Nat.zero_le _,Nat.zero_le _⟩
theorem Bd.sent{t:Nat}{S:TS}{se:List (Nat×Let)}(b:Bd t S se):Bd t S []:=⟨b.mu,b.up,b.row,b.dn,Nat.zero_le _⟩
theorem ints_rep(H:Hp):∀ns:List Int,aH H (ns.map V.int) (ns.map D.i)
 | []=>by simp[aH]
 | x::ns=>by simp only[List.map_cons,aH];exact⟨_,_,rfl,rfl,ints_rep H ns⟩
theorem ints_size:∀ns:List Int,D.sizes (ns.map D.i)<=2*ns.length
 | []=>by simp[D.sizes]
 | x::ns=>by have:=ints_size ns;simp only[List.map_cons,D.sizes,D.size,List.length_cons];lia
theorem amy(u v:Int)(hu:1<=u/\u<=20)(hv:1<=v/\v<=20)(b:Bool):∃n:Nat,0<n/\n<=20/\Py [V.int u,V.int v] (if b=true then 1 else 0)=some (.int n):=by
 cases b with
 | false=>exact⟨u.toNat,by lia,by lia,by rw[Int.toNat_of_nonneg (by lia)];rfl⟩
 | true=>exact⟨v.toNat,by lia,by lia,by rw[Int.toNat_of_nonneg (by lia)];rfl⟩
theorem amz(ns:List Int)(lo hi:Option Int):∃cs:List Int,S7 (ns.map V.int) lo hi=cs.map V.int/\cs.length<=ns.length:=by
 refine⟨((ns.drop (HT.mz (ns.map V.int).length 0 lo)).take (HT.mz (ns.map V.int).length (ns.map V.int).length hi - HT.mz (ns.map V.int).length 0 lo)),?_,?_⟩
 ·unfold S7;rw[<-List.map_drop,<-List.map_take]
 ·rw[List.length_take,List.length_drop];lia
theorem cu.same{K:PySem.W.Frag}{H H':Hp}{a:Addr}{xs:List V}(h:cu K H a xs)(s:bY H H'):cu K H' a xs:=by
 rcases h with (h | ⟨o,h⟩) | h
 ·exact .inl (.inl (s _ _ h))
 ·exact .inl (.inr ⟨o,s _ _ h⟩)
 ·exact .inr h
end gH
namespace gH
open PySem L2
def amA(c:C4)(X:Addr):Sp:=fun vs H Q E=>∃B n m S k,∃d:Int,vs=[.ref (B .bf),.int d]/\cD c H B n m S k/\(inR d n->Q .non H)/\(¬inR d n->E (.ref X) none H)
def amB(c:C4)(X:Addr):Sp:=fun vs H Q E=>∃B n m S k,∃d:Int,vs=[.ref (B .bf),.int d]/\cD c H B n m S k/\(inR d m->Q .non H)/\(¬inR d m->E (.ref X) none H)
def as4(X:Addr):Sp:=fun vs H Q E=>∃s l xs,vs=[s,.ref l]/\H l=some (.lst xs)/\(xs=[]->E (.ref X) none H)/\∀v r,xs=v::r->Q v (upd H l (.lst r))
def aju(c:C4):Sp:=fun vs H Q _=>∃B n m S k a l1 l2 xs ys es us,∃d:Nat,vs=[.ref (B .bf),.int d,.ref a]/\cD c H B n m S k/\d<n/\H a=some (.tup [.ref l1,.ref l2])/\H l1=some (.lst xs)/\H l2=some (.lst ys)/\aH H xs (es.map evD)/\aH H ys (us.map UL.d)/\
 (∀x:Tb,x.ok n m->l1≠B x)/\(∀x:Tb,x.ok n m->l2≠B x)/\S.row.length+es.length<=1000000/\(S.up d).length+us.length<=1000000/\
 ∀H',cD c H' B n m {S with up:=bL S.up d (S.up d++us),row:=fY S.row d es} k->TF H H' B n m->H' l1=some (.lst xs)->aH H' xs (es.map evD)->Q (.ref l1) H'
theorem agx(es:List Ev):D.flats (es.map evD):=bW (fun e=>by simp[evD,D.flat,D.flats]) es
theorem ajv{H:Hp}:∀{es:List Ev} {xs:List V} {i:Nat} {y:V},aH H xs (es.map evD)->xs[i]? = some y->∃e,es[i]? = some e/\Rep H y (evD e)
 | [],xs,i,y,h,hy=>by simp only[List.map_nil,aH]at h;subst h;simp at hy
 | e::es,xs,i,y,h,hy=>by
   simp only[List.map_cons,aH]at h
   obtain⟨v,us,rfl,rv,rl⟩:=h
   cases i with
   | zero=>simp at hy;subst hy;exact⟨e,rfl,rv⟩
   | succ i=>simp at hy;obtain⟨e',h1,h2⟩:=ajv rl hy;exact⟨e',by simpa using h1,h2⟩
theorem agy{row:List RE}{d i:Nat}{es:List Ev}{e:Ev}(h:es[i]? = some e):fY row d (es.take (i+1))=fY row d (es.take i)++[⟨e.1,d,e.2.1,e.2.2⟩]:=by
 unfold fY
 rw[List.take_add_one,h]
 simp
section
variable{P:Program}{w:World}{K:PySem.W.Frag}{mg:Str->Option Value}{base:Heap}{t:Jh}
abbrev c4(t:Jh):C4:=⟨t.bx,t.bJ,t.gQ,t.aF⟩
theorem Ju(T:Txt K w mg t):c7 P w K mg base (CX1 P w) 1 t.dm t.lM ["self","desk"] (amA (c4 t) t.bc):=by
 refine T.Lj.okX Jf (fun vs H Q E h=>?_) (fun cdv A outer s H vs Q E hr h=>?_)
 ·obtain⟨B,n,m,S,k,d,rfl,_⟩:=h;rfl
 ·obtain⟨B,n,m,S,k,d,rfl,TA,k1,k2⟩:=h
  refine⟨_,(aC (cg (PW.pt (wU (aU abu (pv 1) aA (bj _)) (qe (aU Wb (pv 1) (dM dU (by rfl) T.Be PySem.boot_len (aa (cI (pv 0) (by rfl)) aq)) (bj _))))) (aC (DK T.WY (by rfl) T.afP rfl KN (aa aD aq))) bC)),?_⟩
  try dsimp only[dw,Cx.kI]
  show let Z1:L2.TS:=_;let Z2:L2.TS:=dg _ Z1 bK;let D0:Ends:=_;(Z2) D0 _ _
  intro Z1 Z2 D0
  obtain⟨dx,ht⟩:=TA.ob
  refine⟨_,rfl,_,_,rfl,rfl,_,rfl,?_⟩
  by_cases h0:d<0
  ·refine bH (decide_eq_true h0) (mG ?_)
   exact⟨zz1,k2 fun h=>by unfold inR at h;lia⟩
  ·refine aP (decide_eq_false h0) ?_
   refine⟨_,rfl,_,rfl,B .bf,_,dx,_,_,rfl,ht,T.dC,T.fL,rN,B .lq,_,rfl,.inl (cu.of TA.ds),_,_,rfl,rfl,_,rfl,?_⟩
   rw[List.length_map,List.length_range]
   by_cases h1:(n:Int)<=d
   ·refine bH (decide_eq_true h1) ?_
    exact⟨zz1,k2 fun h=>by unfold inR at h;lia⟩
   ·refine aP (decide_eq_false h1) ?_
    exact k1 ⟨by lia,by lia⟩
theorem Jv(T:Txt K w mg t):c7 P w K mg base (CX1 P w) 1 t.dq t.lN ["self","page"] (amB (c4 t) t.aW):=by
 refine T.Ln.okX Jg (fun vs H Q E h=>?_) (fun cdv A outer s H vs Q E hr h=>?_)
 ·obtain⟨B,n,m,S,k,d,rfl,_⟩:=h;rfl
 ·obtain⟨B,n,m,S,k,d,rfl,TA,k1,k2⟩:=h
  refine⟨_,(aC (cg (PW.pt (wU (aU abu (pv 1) aA (bj _)) (qe (aU Wb (pv 1) (cI (pv 0) (by rfl)) (bj _))))) (aC (DK T.Ld (by rfl) T.afQ rfl KN (aa aD aq))) bC)),?_⟩
  try dsimp only[dw,Cx.kI]
  show let Z1:L2.TS:=_;let Z2:L2.TS:=dg _ Z1 bK;let D0:Ends:=_;(Z2) D0 _ _
  intro Z1 Z2 D0
  obtain⟨dx,ht⟩:=TA.ob
  refine⟨_,rfl,_,_,rfl,rfl,_,rfl,?_⟩
  by_cases h0:d<0
  ·refine bH (decide_eq_true h0) (mG ?_)
   exact⟨zz1,k2 fun h=>by unfold inR at h;lia⟩
  ·refine aP (decide_eq_false h0) ?_
   refine⟨_,rfl,_,rfl,B .bf,_,dx,_,_,rfl,ht,T.dC,T.jo,aj8,_,_,rfl,rfl,_,rfl,?_⟩
   by_cases h1:(m:Int)<=d
   ·refine bH (decide_eq_true h1) ?_
    exact⟨zz1,k2 fun h=>by unfold inR at h;lia⟩
   ·refine aP (decide_eq_false h1) ?_
    exact k1 ⟨by lia,by lia⟩
theorem pW(T:Txt K w mg t):c7 P w K mg base (CX1 P w) 1 t.cR t.jZ ["self","road"] (as4 t.aJ):=by
 refine T.Hh.okX En (fun vs H Q E h=>?_) (fun cdv A outer s H vs Q E hr h=>?_)
 ·obtain⟨B,n,m,rfl,_⟩:=h;rfl
 ·obtain⟨sv,l,xs,rfl,hl,k1,k2⟩:=h
  refine⟨_,(ao (cg (IW (Dz (pv 1) (fun _=>rfl))) (aC (DK T.lQ (by rfl) T.W0 rfl KN (aa aD aq))) bC)
   (aC (bw (fj PySem.F.plainAttrs_list PySem.F.slot_list_pop PySem.F.type_list_pop DG (pv 1) (aa aA aq))))),?_⟩
  try dsimp only[dw,Cx.kI]
  show let Z1:L2.TS:=_;let Z2:L2.TS:=dg _ Z1 bK;let Z3:L2.TS:=_;let D0:Ends:=_;(aR Z2 (Z3)) D0 _ _
  intro Z1 Z2 Z3 D0
  cases xs with
  | nil =>
    refine⟨_,rfl,_,.inl ⟨[],cu.of hl,rfl⟩,?_⟩
    exact mG ⟨zz1,k1 rfl⟩
  | cons v r =>
    refine⟨_,rfl,_,.inl ⟨v::r,cu.of hl,rfl⟩,uB ?_⟩
    exact⟨_,rfl,.inl ⟨rfl,_,cu.of hl⟩,l,_,0,0,_,rfl,rfl,hl,(by decide),(by decide),aly _ _,rfl,k2 v r rfl⟩
theorem nu(T:Txt K w mg t):c7 P w K mg base nP 1 t.dJ t.mX ["self","desk","told"] (aju (c4 t)):=by
 refine T.Qj.ok jK (fun vs H Q E h=>?_) (fun cdv A outer s H vs Q E hr h=>?_)
 ·obtain⟨B,n,m,S,k,a,l1,l2,xs,ys,es,us,d,rfl,_⟩:=h;rfl
 ·obtain⟨B,n,m,S,k,a,l1,l2,xs,ys,es,us,d,rfl,TA,hd,ha,h1,h2,r1,r2,n1,n2,z1,z2,fin⟩:=h
  have sl:sizeLine=16777216:=by decide
  refine⟨_,(ao (yK PassesOwn.never rfl (uD (aN bz (pv 2) aA (fun _ _=>rfl))) (Pq rfl (gG (cU (i:=3) jK.nd rfl (Or.inl rfl)) (gG (cU (i:=4) jK.nd rfl (Or.inl rfl)) (gG (cU (i:=5) jK.nd rfl (Or.inl rfl)) yH)))) (aC (bO (fj PySem.F.plainAttrs_list PySem.F.slot_list_append PySem.F.type_list_append cH (cI (pv 0) (by rfl)) (aa (bZ (aa (pv 3) (aa (pv 1) (aa (pv 4) (aa (pv 5) aq))))) aq)))))
   (ao (bO (fj PySem.F.plainAttrs_list PySem.F.slot_list_extend PySem.F.type_list_extend lE (aN bB (cI (pv 0) (by rfl)) (pv 1) (fun _ _=>rfl)) (aa (aN bz (pv 2) aA (fun _ _=>rfl)) aq)))
   (aC (bw (aN bz (pv 2) aA (fun _ _=>rfl)))))),?_⟩
  try dsimp only[dw,Cx.kI]
  show let Z1:L2.TS:=_;let Z2:L2.TS:=ZF _ _ Z1;let Z3:L2.TS:=_;let Z4:L2.TS:=_;let D0:Ends:=_;(aR Z2 (aR Z3 (Z4))) D0 _ _
  intro Z1 Z2 Z3 Z4 D0
  refine zt rfl (di.of ha) rfl ⟨l1,rfl,⟨_,cu.of h1⟩,?_⟩
  have hxl:xs.length=es.length:=by rw[r1.length,List.length_map]
  let PV1:Nat->St->Hp->Prop:=fun i σ' H'=>(∃o1 o2 o3,σ'=[some (.ref (B .bf)),some (.int d),some (.ref a),o1,o2,o3])/\i<=xs.length/\cD (c4 t) H' B n m {S with row:=fY S.row d (es.take i)} k/\TF H H' B n m
  refine wV (xs:=xs) PV1 ?_ ?_ ?_ ?_
  ·refine⟨⟨_,_,_,rfl⟩,Nat.zero_le _,?_,TF.refl _ _ _ _⟩
   simpa[fY] using TA
  ·rintro i σ' H' _ ⟨_,_,_,f'⟩
   exact cu.of (f'.kp _ _ h1 n1)
  ·rintro i y σ' H' hy ⟨⟨o1,o2,o3,rfl⟩,hi,T',f'⟩
   have hi':i<xs.length:=(List.getElem?_eq_some_iff.mp hy).1
   obtain⟨e,he,re⟩:=ajv (r1.aX (f'.tups TA) (agx _)) hy
   simp only[evD,Rep,aH]at re
   obtain⟨c,us',rfl,hc,_,_,rfl,rfl,_,_,rfl,rfl,_,_,rfl,rfl,rfl⟩:=re
   refine⟨c,_,rfl,di.of hc,rfl,_,_,rfl,_,_,rfl,_,_,rfl,rfl,?_⟩
   obtain⟨dx,ht⟩:=T'.ob
   obtain⟨rv,e1,e2⟩:=T'.row
   have hrl:rv.length<sizeLine:=by
    rw[e2.length,List.length_map]
    show(fY S.row d (es.take i)).length<_
    unfold fY
    rw[List.length_append,List.length_map,List.length_take]
    lia
   refine⟨_,rfl,B .bf,_,dx,_,_,rfl,ht,T.dC,T.u9,anW,.inl ⟨rfl,_,cu.of e1⟩,_,rfl,_,rfl,_,rfl,_,rfl,zz4,fun b hbn=>?_⟩
   have s3:=aB (o:=.tup [.str (afE e.1),.int d,.int e.2.1,.int e.2.2]) hbn
   refine⟨B .row,rv,_,rfl,rfl,s3 _ _ e1,hrl,?_⟩
   have rp3:aH (upd H' b (.tup [.str (afE e.1),.int d,.int e.2.1,.int e.2.2])) (rv++[.ref b]) ((fY S.row d (es.take (i+1))).map RE.d):=by
    rw[agy he,List.map_append]
    refine aH.snoc (e2.aX (aY s3) (bW RE.flat _)) ?_
    simp only[RE.d,Rep,aH]
    exact⟨b,_,rfl,aj,_,_,rfl,rfl,_,_,rfl,rfl,_,_,rfl,rfl,_,_,rfl,rfl,rfl⟩
   have T4:=(T'.same s3).alH rp3
   exact⟨⟨_,_,_,rfl⟩,by lia,T4,f'.trans ((TF.of_same s3).trans (TF.wr (x:=.row) trivial) (Tv.refl _ _ _ _)) (Tv.refl _ _ _ _)⟩
  ·rintro σ' H' ⟨⟨o1,o2,o3,rfl⟩,_,T',f'⟩
   rw[hxl,List.take_length]at T'
   obtain⟨dx,ht⟩:=T'.ob
   obtain⟨uv,u1,u2⟩:=T'.up d hd
   have ha':=f'.tups TA _ _ ha
   have h2':=f'.kp _ _ h2 n2
   have r2':=r2.aX (f'.tups TA) (bW UL.flat _)
   have hul:uv.length+ys.length<=sizeLine:=by
    rw[u2.length,r2.length,List.length_map,List.length_map]
    show(S.up d).length+us.length<=_
    lia
   refine⟨_,rfl,B .bf,_,dx,_,_,rfl,ht,T.dC,T.fG,V2,_,rfl,B .ups,_,_,_,rfl,rfl,cu.of T'.us,bM hd,.inl ⟨rfl,_,cu.of u1⟩,zt rfl (di.of ha') rfl ⟨B (.up d),l2,uv,ys,rfl,rfl,u1,.inl (cu.of h2'),hul,?_⟩⟩
   have ru:aH H' (uv++ys) ((S.up d++us).map UL.d):=by rw[List.map_append];exact aH.append u2 r2'
   have T5:=T'.afJ hd ru
   have f5:=f'.trans (TF.wr (B:=B) (x:=.up d) (n:=n) (m:=m) hd (o:=.lst (uv++ys))) (Tv.refl _ _ _ _)
   have ha5:=f5.tups TA _ _ ha
   refine zt rfl (di.of ha5) rfl ?_
   exact fin _ T5 f5 (f5.kp _ _ h1 n1) (r1.aX (f5.tups TA) (agx _))
end
end gH
namespace gH
open PySem L2
theorem amC{H H1:Hp}{v:V}{es:List Ev}{us:List UL}(t:b8 H H1)(r:Rep (nw H H1) v (.t [.l (es.map evD),.l (us.map UL.d)])) :
 ∃a l1 l2 xs ys,v=.ref a/\H1 a=some (.tup [.ref l1,.ref l2])/\H1 l1=some (.lst xs)/\H1 l2=some (.lst ys)/\aH H1 xs (es.map evD)/\aH H1 ys (us.map UL.d)/\H l1=none/\H l2=none:=by
 simp only[Rep,aH]at r
 obtain⟨a,xs,rfl,ha,v1,q1,rfl,⟨l1,x1,rfl,h1,r1⟩,v2,q2,rfl,⟨l2,x2,rfl,h2,r2⟩,rfl⟩:=r
 have key:∀{l:Addr} {z:List V},nw H H1 l=some (.lst z)->H l=none:=fun {l z} e=>by
  obtain⟨e1,e2 | ⟨ys,e2⟩⟩:=mH e
  ·exact e2
  ·have:=t _ _ e2;rw[e1]at this;cases this
 exact⟨a,l1,l2,x1,x2,rfl,(mH ha).1,(mH h1).1,(mH h2).1,r1.mono ahP,r2.mono ahP,key h1,key h2⟩
theorem XM{c:C4}{H H1:Hp}{B:Tb->Addr}{n m d:Nat}{S:TS}{k k':Nat}{z:DS×List Ev×List UL}{v:V}{Q:VK}{E:XK}(TA:cD c H B n m S k)(hd:d<n)(z1:z.2.1.length<=1)(z2:z.2.2.length<=1)(hr:S.row.length<=1500)(hu:(S.up d).length<=1500)
 (D1:cz c.D H1 (B (.dk d)) (B (.cp d)) z.1 k') (hk:k<=k') (f1:DF H H1 (B (.dk d)) (B (.cp d))) (r1:Rep (nw H H1) v (.t [.l (z.2.1.map evD),.l (z.2.2.map UL.d)]))
 (fin:∀l1 xs H2,cD c H2 B n m (S.jx d z) k'->TF H H2 B n m->H2 l1=some (.lst xs)->aH H2 xs (z.2.1.map evD)->Q (.ref l1) H2):aju c [.ref (B .bf),.int d,v] H1 Q E:=by
 obtain⟨T1,g1⟩:=TA.jx hd D1 f1 hk
 obtain⟨a,l1,l2,xs,ys,rfl,ha,h1,h2,q1,q2,n1,n2⟩:=amC (g1.tups TA) r1
 refine⟨B,n,m,_,k',a,l1,l2,xs,ys,z.2.1,z.2.2,d,rfl,T1,hd,ha,h1,h2,q1,q2,fun x hx=>(TA.ne hx n1).symm,fun x hx=>(TA.ne hx n2).symm,?_,?_,fun H2 T2 f2 e1 e2=>fin l1 xs H2 T2 (g1.trans f2 (Tv.refl _ _ _ _)) e1 e2⟩
 ·show S.row.length+_<=_;lia
 ·show(S.up d).length+_<=_;lia
def ajw(S:DS):W->D
 | .look p=>if S.ok (.look p)then .i (S.nm p)else .s "waits"
 | .put p x=>if S.ok (.put p x)then .s "done" else .s "waits"
def as5(c:C4)(X:Addr)(H:Hp)(B:Tb->Addr)(n m:Nat)(S:TS)(k d p:Nat)(w:W)(Q:VK)(E:XK):Prop :=
 ((S.ds d).ws=none->∀v H',cD c H' B n m (S.jx d ((S.ds d).iJ w p)) (k+2)->TF H H' B n m->Rep H' v (ajw (S.ds d) w)->Q v H')/\((S.ds d).ws≠none->∀H',bY H H'->E (.ref X) none H')
def as6(c:C4)(X:Addr):Sp:=fun vs H Q E=>∃B n m S k,∃d p:Nat,vs=[.ref (B .bf),.int d,.int p]/\cD c H B n m S k/\d<n/\S.row.length<=1500/\(S.up d).length<=1500/\k<=800000/\as5 c X H B n m S k d p (.look p) Q E
def awo(c:C4)(X:Addr):Sp:=fun vs H Q E=>∃B n m S k,∃d p:Nat,∃x:Int,vs=[.ref (B .bf),.int d,.int p,.int x]/\cD c H B n m S k/\d<n/\S.row.length<=1500/\(S.up d).length<=1500/\k<=800000/\as5 c X H B n m S k d p (.put p x) Q E
def as7(c:C4)(X:Addr):Sp:=fun vs H Q E=>∃B n m S k,∃d p:Nat,vs=[.ref (B .bf),.int d,.int p]/\cD c H B n m S k/\d<n/\(S.up d).length<=1500/\k<=800000/\
 ((S.ds d).rt p≠.no->∀H',cD c H' B n m (S.vO d p) (k+2)->TF H H' B n m->Q (.str "done") H')/\((S.ds d).rt p=.no->E (.ref X) none H)
section
variable{P:Program}{w:World}{K:PySem.W.Frag}{mg:Str->Option Value}{base:Heap}{t:Jh}
theorem T7(T:Txt K w mg t):c7 P w K mg base (CX1 P w) 4 t.eX t.qz ["self","desk","page"] (as6 (c4 t) t.aM):=by
 refine T.W7.okX Ay (fun vs H Q E h=>?_) (fun cdv A outer s H vs Q E hr h=>?_)
 ·obtain⟨B,n,m,S,k,d,p,rfl,_⟩:=h;rfl
 ·obtain⟨B,n,m,S,k,d,p,rfl,TA,hd,z1,z2,z3,k1,k2⟩:=h
  refine⟨_,(ao (bh (i:=3) Ay.nd rfl (Or.inl rfl) (cF (pv 0) T.dC T.m8 (nu T) (hr.mono (by decide):bQ 1 _) T.oZ .nil bU (aa (pv 1) (aa (cF (aN bB (cI (pv 0) (by rfl)) (pv 1) (fun _ _=>rfl)) T.dB T.Lg (Mf T) (hr.mono (by decide):bQ 3 _) T.RB .nil Ar (aa (bZ (aa aD (aa (pv 2) aq))) aq)) aq))))
   (aC (bw (pF (Dz (pv 3) (fun _=>rfl)) (aN bz (aN bB (pv 3) aA (fun _ _=>rfl)) aA (fun _ _=>rfl)) (gZ (by rfl) T.ajn))))),?_⟩
  try dsimp only[dw,Cx.kI]
  show let Z1:L2.TS:=_;let Z2:L2.TS:=_;let D0:Ends:=_;(aR Z1 (Z2)) D0 _ _
  intro Z1 Z2 D0
  obtain⟨dx,ht⟩:=TA.ob
  obtain⟨⟨wQ,wv,g1,_⟩,_⟩:=TA.dk d hd
  refine⟨_,rfl,B .bf,dx,_,rfl,ht,ah1,_,rfl,_,rfl,B .bf,_,dx,_,_,rfl,ht,T.dC,T.fL,rN,_,rfl,B .lq,_,_,_,rfl,rfl,cu.of TA.ds,bM hd,B (.dk d),wQ,_,rfl,g1,eO _ _ (by decide +kernel) (by decide +kernel),_,rfl,uA,fun b hb=>?_⟩
  have TB:=TA.new (o:=.tup [.str "look",.int p]) hb
  refine⟨B (.dk d),B (.cp d),S.ds d,k,b,.look p,rfl,TB.dk d hd,by lia,aj,?_⟩
  cases hw:(S.ds d).ws with
  | some w'=>exact k2 (by rw[hw];exact nofun) _ (aB hb)
  | none =>
    intro v H1 D1 f1 r1
    have e1:=(S.ds d).ai6 (.look p) (p:=p) rfl
    rw[e1]at D1 r1
    dsimp only[Hf,List.append_nil]
    refine XM (z:=(S.ds d).iJ (.look p) p) TB hd (DS.ju _ _ _).1 (DS.ju _ _ _).2 z1 z2 D1 (by lia) f1 r1 fun l1 xs H2 T2 f2 h1 r2=>?_
    have f3:TF H H2 B n m:=(TF.of_same (aB hb)).trans f2 (Tv.refl _ _ _ _)
    have fin:=k1 hw
    refine⟨_,rfl,_,.inl ⟨xs,cu.of h1,rfl⟩,?_⟩
    unfold ajw at fin
    by_cases ho:(S.ds d).ok (.look p)
    ·have ez:((S.ds d).iJ (.look p) p).2.1=[(false,(p:Int),(S.ds d).nm p)]:=by unfold DS.iJ;rw[if_pos ho];rfl
     rw[ez]at r2
     simp only[List.map_cons,List.map_nil,evD,aH,Rep]at r2
     obtain⟨_,_,rfl,⟨c,us',rfl,hc,_,_,rfl,rfl,_,_,rfl,rfl,_,_,rfl,rfl,rfl⟩,rfl⟩:=r2
     refine mG ?_
     refine⟨_,rfl,l1,_,0,_,rfl,rfl,cu.of h1,rfl,c,_,2,_,rfl,rfl,di.of hc,rfl,?_⟩
     refine fin _ _ T2 f3 ?_
     dsimp only
     rw[if_pos ho]
     simp only[Rep]
    ·have ez:((S.ds d).iJ (.look p) p).2.1=[]:=by unfold DS.iJ;rw[if_neg ho]
     rw[ez]at r2
     simp only[List.map_nil,aH]at r2
     subst r2
     refine uB ?_
     refine fin _ _ T2 f3 ?_
     dsimp only
     rw[if_neg ho]
     simp only[Rep]
theorem XN(T:Txt K w mg t):c7 P w K mg base (CX1 P w) 4 t.fK t.tu ["self","desk","page","number"] (awo (c4 t) t.aM):=by
 refine T.ZX.okX Em (fun vs H Q E h=>?_) (fun cdv A outer s H vs Q E hr h=>?_)
 ·obtain⟨B,n,m,S,k,d,p,x,rfl,_⟩:=h;rfl
 ·obtain⟨B,n,m,S,k,d,p,x,rfl,TA,hd,z1,z2,z3,k1,k2⟩:=h
  refine⟨_,(ao (bh (i:=4) Em.nd rfl (Or.inl rfl) (cF (pv 0) T.dC T.m8 (nu T) (hr.mono (by decide):bQ 1 _) T.oZ .nil bU (aa (pv 1) (aa (cF (aN bB (cI (pv 0) (by rfl)) (pv 1) (fun _ _=>rfl)) T.dB T.Lg (Mf T) (hr.mono (by decide):bQ 3 _) T.RB .nil Ar (aa (bZ (aa aD (aa (pv 2) (aa (pv 3) aq)))) aq)) aq))))
   (aC (bw (pF (Dz (pv 4) (fun _=>rfl)) (gZ (by rfl) T.alO) (gZ (by rfl) T.ajn))))),?_⟩
  try dsimp only[dw,Cx.kI]
  show let Z1:L2.TS:=_;let Z2:L2.TS:=_;let D0:Ends:=_;(aR Z1 (Z2)) D0 _ _
  intro Z1 Z2 D0
  obtain⟨dx,ht⟩:=TA.ob
  obtain⟨⟨wQ,wv,g1,_⟩,_⟩:=TA.dk d hd
  refine⟨_,rfl,B .bf,dx,_,rfl,ht,ah1,_,rfl,_,rfl,B .bf,_,dx,_,_,rfl,ht,T.dC,T.fL,rN,_,rfl,B .lq,_,_,_,rfl,rfl,cu.of TA.ds,bM hd,B (.dk d),wQ,_,rfl,g1,eO _ _ (by decide +kernel) (by decide +kernel),_,rfl,_,rfl,Zy,fun b hb=>?_⟩
  have TB:=TA.new (o:=.tup [.str "put",.int p,.int x]) hb
  refine⟨B (.dk d),B (.cp d),S.ds d,k,b,.put p x,rfl,TB.dk d hd,by lia,aj,?_⟩
  cases hw:(S.ds d).ws with
  | some w'=>exact k2 (by rw[hw];exact nofun) _ (aB hb)
  | none =>
    intro v H1 D1 f1 r1
    have e1:=(S.ds d).ai6 (.put p x) (p:=p) rfl
    rw[e1]at D1 r1
    dsimp only[Hf,List.append_nil]
    refine XM (z:=(S.ds d).iJ (.put p x) p) TB hd (DS.ju _ _ _).1 (DS.ju _ _ _).2 z1 z2 D1 (by lia) f1 r1 fun l1 xs H2 T2 f2 h1 r2=>?_
    have f3:TF H H2 B n m:=(TF.of_same (aB hb)).trans f2 (Tv.refl _ _ _ _)
    have fin:=k1 hw
    refine⟨_,rfl,_,.inl ⟨xs,cu.of h1,rfl⟩,?_⟩
    unfold ajw at fin
    by_cases ho:(S.ds d).ok (.put p x)
    ·have ez:((S.ds d).iJ (.put p x) p).2.1=[(true,(p:Int),x)]:=by unfold DS.iJ;rw[if_pos ho];rfl
     rw[ez]at r2
     simp only[List.map_cons,List.map_nil,evD,aH]at r2
     obtain⟨_,_,rfl,_,rfl⟩:=r2
     refine mG ?_
     refine fin _ _ T2 f3 ?_
     dsimp only
     rw[if_pos ho]
     simp only[Rep]
    ·have ez:((S.ds d).iJ (.put p x) p).2.1=[]:=by unfold DS.iJ;rw[if_neg ho]
     rw[ez]at r2
     simp only[List.map_nil,aH]at r2
     subst r2
     refine uB ?_
     refine fin _ _ T2 f3 ?_
     dsimp only
     rw[if_neg ho]
     simp only[Rep]
theorem T8(T:Txt K w mg t):c7 P w K mg base (CX1 P w) 4 t.eY t.qC ["self","desk","page"] (as7 (c4 t) t.aV):=by
 refine T.Xa.okX Tj (fun vs H Q E h=>?_) (fun cdv A outer s H vs Q E hr h=>?_)
 ·obtain⟨B,n,m,S,k,d,p,rfl,_⟩:=h;rfl
 ·obtain⟨B,n,m,S,k,d,p,rfl,TA,hd,z2,z3,k1,k2⟩:=h
  have sl:sizeLine=16777216:=by decide
  refine⟨_,(ao (bO (fj PySem.F.plainAttrs_list PySem.F.slot_list_extend PySem.F.type_list_extend lE (aN bB (cI (pv 0) (by rfl)) (pv 1) (fun _ _=>rfl)) (aa (cF (aN bB (cI (pv 0) (by rfl)) (pv 1) (fun _ _=>rfl)) T.dB T.acM (acY T) (hr.mono (by decide):bQ 3 _) T.afZ .nil Ar (aa (pv 2) aq)) aq)))
   (aC (bw (gZ (by rfl) T.alO)))),?_⟩
  try dsimp only[dw,Cx.kI]
  show let Z1:L2.TS:=_;let Z2:L2.TS:=_;let D0:Ends:=_;(aR Z1 (Z2)) D0 _ _
  intro Z1 Z2 D0
  obtain⟨dx,ht⟩:=TA.ob
  obtain⟨⟨wQ,wv,g1,_⟩,_⟩:=TA.dk d hd
  obtain⟨uv,u1,u2⟩:=TA.up d hd
  refine⟨_,rfl,B .bf,_,dx,_,_,rfl,ht,T.dC,T.fG,V2,_,rfl,B .ups,_,_,_,rfl,rfl,cu.of TA.us,bM hd,.inl ⟨rfl,_,cu.of u1⟩,_,rfl,B .bf,_,dx,_,_,rfl,ht,T.dC,T.fL,rN,_,rfl,B .lq,_,_,_,rfl,rfl,cu.of TA.ds,bM hd,B (.dk d),wQ,_,rfl,g1,eO _ _ (by decide +kernel) (by decide +kernel),_,rfl,?_⟩
  refine⟨B (.dk d),B (.cp d),S.ds d,k,p,rfl,TA.dk d hd,by lia,?_⟩
  by_cases e:(S.ds d).rt p=.no
  ·rw[if_pos e];exact k2 e
  ·rw[if_neg e]
   intro v H1 D1 f1 r1
   obtain⟨T1,g2⟩:=TA.jx hd D1 f1 (by lia)
   have er:((S.ds d).rest p).2=.l ((if(S.ds d).rt p=.wr then [UL.gave p ((S.ds d).nm p)]else []).map UL.d):=by
    unfold DS.rest
    dsimp only
    split<;>rfl
   rw[er]at r1
   simp only[Rep]at r1
   obtain⟨l,ys,rfl,hl,r2⟩:=r1
   obtain⟨hl1,hl0⟩:=mH hl
   obtain⟨uw,u3,u4⟩:=T1.up d hd
   have hlen:((if(S.ds d).rt p=.wr then [UL.gave p ((S.ds d).nm p)]else []:List UL)).length<=1:=by split<;>simp
   have hyl:uw.length+ys.length<=sizeLine:=by
    rw[u4.length,r2.length,List.length_map,List.length_map]
    show(S.up d).length+_<=_
    lia
   refine⟨B (.up d),l,uw,ys,rfl,rfl,u3,.inl (cu.of hl1),hyl,?_⟩
   have ru:aH H1 (uw++ys) ((S.up d++(if(S.ds d).rt p=.wr then [UL.gave p ((S.ds d).nm p)]else [])).map UL.d):=by rw[List.map_append];exact aH.append u4 (r2.mono ahP)
   have T5:=T1.afJ hd ru
   have f5:=g2.trans (TF.wr (B:=B) (x:=.up d) (n:=n) (m:=m) hd (o:=.lst (uw++ys))) (Tv.refl _ _ _ _)
   refine k1 e _ ?_ f5
   have es:S.vO d p={S with ds:=bL S.ds d ((S.ds d).rest p).1,up:=bL S.up d (S.up d++(if(S.ds d).rt p=.wr then [UL.gave p ((S.ds d).nm p)]else []))}:=by
    unfold TS.vO TS.jx fY DS.rest
    simp
   rw[es]
   exact T5
end
end gH
namespace gH
open PySem L2
def awp(c:C4)(X:Addr):Sp:=fun vs H Q E=>∃B n m S k,∃d:Nat,vs=[.ref (B .bf),.int d]/\cD c H B n m S k/\d<n/\jU n m S/\(∀p,(S.pg p).mu<=3000)/\(∀e,(S.dn e).length<=9030000)/\(S.up d=[]->E (.ref X) none H)/\
 ∀l r,S.up d=l::r->∀b B' H',cD c H' B' n m (S.ahR d l r) k->TF H H' B n m->Tv H B B' n m->B' .bf=B .bf->H' b=some (.tup l.vs)->Q (.ref b) H'
def awq(c:C4)(X:Addr):Sp:=fun vs H Q E=>∃B n m S k,∃d:Nat,vs=[.ref (B .bf),.int d]/\cD c H B n m S k/\d<n/\jU n m S/\S.row.length<=1500/\(S.up d).length<=1500/\k<=800000/\(S.dn d=[]->E (.ref X) none H)/\
 ∀l r,S.dn d=l::r->∀b H',cD c H' B n m (S.Te d l r) (k+2)->TF H H' B n m->H' b=some (.tup l.vs)->Q (.ref b) H'
theorem abW{H:Hp}:∀{l:List (Nat×Let)} {vs:List V} {i:Nat} {v:V},aH H vs (l.map pairD)->vs[i]? = some v->∃x,l[i]? = some x/\Rep H v (pairD x)
 | [],vs,i,v,h,hv=>by simp only[List.map_nil,aH]at h;subst h;simp at hv
 | x::l,vs,i,v,h,hv=>by
   simp only[List.map_cons,aH]at h
   obtain⟨u,us,rfl,ru,rl⟩:=h
   cases i with
   | zero=>simp at hv;subst hv;exact⟨x,rfl,ru⟩
   | succ i=>simp at hv;obtain⟨x',h1,h2⟩:=abW rl hv;exact⟨x',by simpa using h1,h2⟩
section
variable{P:Program}{w:World}{K:PySem.W.Frag}{mg:Str->Option Value}{base:Heap}{t:Jh}
theorem Jw(T:Txt K w mg t):c7 P w K mg base (CX1 P w) 6 t.du t.lO ["self","desk"] (awq (c4 t) t.aJ):=by
 refine T.Lq.okX sV (fun vs H Q E h=>?_) (fun cdv A outer s H vs Q E hr h=>?_)
 ·obtain⟨B,n,m,S,k,d,rfl,_⟩:=h;rfl
 ·obtain⟨B,n,m,S,k,d,rfl,TA,hd,I,z1,z2,z3,k1,k2⟩:=h
  refine⟨_,(ao (bh (i:=2) sV.nd rfl (Or.inl rfl) (cF (pv 0) T.dC T.pU (pW T) (hr.mono (by decide):bQ 1 _) T.qP .nil Ar (aa (aN bB (cI (pv 0) (by rfl)) (pv 1) (fun _ _=>rfl)) aq)))
   (ao (bO (cF (pv 0) T.dC T.m8 (nu T) (hr.mono (by decide):bQ 1 _) T.oZ .nil bU (aa (pv 1) (aa (cF (aN bB (cI (pv 0) (by rfl)) (pv 1) (fun _ _=>rfl)) T.dB T.acL (acX T) (hr.mono (by decide):bQ 4 _) T.afX .nil bU (aa (pv 2) aq)) aq))))
   (aC (bw (pv 2))))),?_⟩
  try dsimp only[dw,Cx.kI]
  show let Z1:L2.TS:=_;let Z2:L2.TS:=_;let Z3:L2.TS:=_;let D0:Ends:=_;(aR Z1 (aR Z2 (Z3))) D0 _ _
  intro Z1 Z2 Z3 D0
  obtain⟨dx,ht⟩:=TA.ob
  obtain⟨uv,u1,u2⟩:=TA.dn d hd
  refine⟨_,rfl,B .bf,dx,_,rfl,ht,alL,_,rfl,B .bf,_,dx,_,_,rfl,ht,T.dC,T.fH,PN,_,rfl,B .downs,_,_,_,rfl,rfl,cu.of TA.os,bM hd,?_⟩
  refine⟨_,B (.dn d),uv,rfl,u1,fun e0=>?_,fun v r0 e0=>?_⟩
  ·subst e0
   refine k1 ?_
   cases e:S.dn d with
   | nil=>rfl
   | cons l r=>rw[e]at u2;simp only[List.map_cons,aH]at u2;obtain⟨_,_,z,_⟩:=u2;cases z
  ·subst e0
   cases e:S.dn d with
   | nil=>rw[e]at u2;simp only[List.map_nil,aH]at u2;cases u2
   | cons l r =>
     rw[e]at u2
     obtain⟨b,us,z,hb,u3⟩:=agk u2
     cases z
     have T1:=TA.aj6 hd u3
     have f1:TF H (upd H (B (.dn d)) (.lst r0)) B n m:=TF.wr (x:=.dn d) hd
     have hb1:=f1.tups TA _ _ hb
     generalize upd H (B (.dn d)) (.lst r0)=H1 at T1 f1 hb1
     obtain⟨wQ,ht1⟩:=T1.ob
     obtain⟨⟨dx2,wv,g1,_⟩,_⟩:=T1.dk d hd
     obtain⟨p,hp,hpl,_⟩:=I.dn d hd l (by rw[e];simp)
     refine⟨_,rfl,B .bf,wQ,_,rfl,ht1,ah1,_,rfl,_,rfl,B .bf,_,wQ,_,_,rfl,ht1,T.dC,T.fL,rN,_,rfl,B .lq,_,_,_,rfl,rfl,cu.of T1.ds,bM hd,B (.dk d),dx2,_,rfl,g1,eO _ _ (by decide +kernel) (by decide +kernel),_,rfl,?_⟩
     refine⟨B (.dk d),B (.cp d),S.ds d,k,b,l,rfl,T1.dk d hd,by lia,hb1,fun v H2 D2 f2 r2=>?_⟩
     rw[(S.ds d).anN l hpl]at D2 r2
     dsimp only[Hf,List.append_nil]
     refine XM (z:=(S.ds d).xf l) T1 hd (DS.xn _ _).1 (DS.xn _ _).2 z1 z2 D2 (by lia) f2 r2 fun l1 xs H3 T3 f3 h1 r3=>?_
     refine⟨_,rfl,?_⟩
     exact k2 l r e b H3 T3 (f1.trans f3 (Tv.refl _ _ _ _)) (f3.tups T1 _ _ hb1)
theorem Qu(T:Txt K w mg t):c7 P w K mg base (CX1 P w) 6 t.dY t.oR ["self","desk"] (awp (c4 t) t.aJ):=by
 refine T.Tz.okX iV (fun vs H Q E h=>?_) (fun cdv A outer s H vs Q E hr h=>?_)
 ·obtain⟨B,n,m,S,k,d,rfl,_⟩:=h;rfl
 ·obtain⟨B,n,m,S,k,d,rfl,TA,hd,I,z1,z2,k1,k2⟩:=h
  have sl:sizeLine=16777216:=by decide
  refine⟨_,(ao (bh (i:=2) iV.nd rfl (Or.inl rfl) (cF (pv 0) T.dC T.pU (pW T) (hr.mono (by decide):bQ 1 _) T.qP .nil Ar (aa (aN bB (cI (pv 0) (by rfl)) (pv 1) (fun _ _=>rfl)) aq)))
   (ao (bh (i:=3) iV.nd rfl (Or.inl rfl) (cF (cI (pv 0) (by rfl)) T.ah6 T.acN (ac0 T) (hr.mono (by decide):bQ 5 _) T.af4 .nil bU (aa (pv 1) (aa (pv 2) aq))))
   (ao (yK PassesOwn.leaving rfl (uD (pv 3)) (Pq rfl (gG (cU (i:=4) iV.nd rfl (Or.inl rfl)) (gG (cU (i:=5) iV.nd rfl (Or.inl rfl)) yH))) (aC (bO (fj PySem.F.plainAttrs_list PySem.F.slot_list_append PySem.F.type_list_append cH (aN bB (cI (pv 0) (by rfl)) (pv 4) (fun _ _=>rfl)) (aa (pv 5) aq)))))
   (aC (bw (pv 2)))))),?_⟩
  try dsimp only[dw,Cx.kI]
  show let Z1:L2.TS:=_;let Z2:L2.TS:=_;let Z3:L2.TS:=_;let Z4:L2.TS:=ZF _ _ Z3;let Z5:L2.TS:=_;let D0:Ends:=_;(aR Z1 (aR Z2 (aR Z4 (Z5)))) D0 _ _
  intro Z1 Z2 Z3 Z4 Z5 D0
  obtain⟨dx,ht⟩:=TA.ob
  obtain⟨uv,u1,u2⟩:=TA.up d hd
  refine⟨_,rfl,B .bf,dx,_,rfl,ht,alL,_,rfl,B .bf,_,dx,_,_,rfl,ht,T.dC,T.fG,V2,_,rfl,B .ups,_,_,_,rfl,rfl,cu.of TA.us,bM hd,?_⟩
  refine⟨_,B (.up d),uv,rfl,u1,fun e0=>?_,fun v r0 e0=>?_⟩
  ·subst e0
   refine k1 ?_
   cases e:S.up d with
   | nil=>rfl
   | cons l r=>rw[e]at u2;simp only[List.map_cons,aH]at u2;obtain⟨_,_,z,_⟩:=u2;cases z
  ·subst e0
   cases e:S.up d with
   | nil=>rw[e]at u2;simp only[List.map_nil,aH]at u2;cases u2
   | cons l r =>
     rw[e]at u2
     obtain⟨b,us,z,hb,u3⟩:=ajq u2
     cases z
     obtain⟨_,hlp,hlg,hok⟩:=I.take hd e
     have T1:=TA.afJ hd u3
     have f1:TF H (upd H (B (.up d)) (.lst r0)) B n m:=TF.wr (x:=.up d) hd
     have hb1:=f1.tups TA _ _ hb
     generalize upd H (B (.up d)) (.lst r0)=H1 at T1 f1 hb1
     obtain⟨wQ,ht1⟩:=T1.ob
     obtain⟨dx2,hh⟩:=T1.hl.ob
     refine⟨_,rfl,B .bf,_,wQ,_,_,rfl,ht1,T.dC,T.qZ,alK,B (.h .hall),dx2,_,rfl,hh,alC,_,rfl,_,rfl,?_⟩
     refine⟨fun x=>B (.h x),m,S.pg,b,l,d,rfl,T1.hl,hb1,hlp,hlg,(I.pn _ hlp).rw,by have:=z1 l.pg;lia,?_⟩
     intro pl A' vs H2 hpl HA2 hf2 mv nl eh hl2 rp2
     obtain⟨T2,f2,tv2⟩:=T1.hall HA2 hf2 mv eh
     have hb2:=f2.tups T1 _ _ hb1
     have nl2:∀x:Tb,x.ok n m->pl≠mvB B A' x:=fun x hx=>by
      cases x with
      | h y=>exact nl y hx
      | _=>exact(T1.ne hx hpl).symm
     generalize hB2:mvB B A'=B2 at T2 tv2 nl2
     have et:B2 .bf=B .bf:=by rw[<-hB2];rfl
     have f12:=f1.trans f2 (Tv.refl _ _ _ _)
     have awr:Tv H B B2 n m:=fun x hx=>(tv2 x hx).imp id fun z=>f1.lv _ z
     have hvl:vs.length=((S.pg l.pg).take l.pg d l).2.length:=by rw[rp2.length,List.length_map]
     have htl:=((S.pg l.pg).aje l.pg d l).2
     have hmu:=z1 l.pg
     generalize hz:((S.pg l.pg).take l.pg d l).2=zs at rp2 hvl htl hok
     rw[<-et]
     refine⟨_,rfl,pl,rfl,⟨_,cu.of hl2⟩,?_⟩
     let PV1:Nat->St->Hp->Prop:=fun i σ' H'=>(∃o1 o2,σ'=[some (.ref (B2 .bf)),some (.int d),some (.ref b),some (.ref pl),o1,o2])/\i<=vs.length/\cD (c4 t) H' B2 n m {S with up:=bL S.up d r,pg:=bL S.pg l.pg ((S.pg l.pg).take l.pg d l).1,dn:=post S.dn (zs.take i)} k/\TF H2 H' B2 n m
     refine wV (xs:=vs) PV1 ?_ ?_ ?_ ?_
     ·refine⟨⟨_,_,rfl⟩,Nat.zero_le _,?_,TF.refl _ _ _ _⟩
      simpa[post] using T2
     ·rintro i σ' H' _ ⟨_,_,_,f'⟩
      exact cu.of (f'.kp _ _ hl2 nl2)
     ·rintro i y σ' H' hy ⟨⟨o1,o2,rfl⟩,hi,T',f'⟩
      have hi':i<vs.length:=(List.getElem?_eq_some_iff.mp hy).1
      obtain⟨q,hq,rq⟩:=abW (rp2.aX (f'.tups T2) (cY _)) hy
      have hqm:q∈zs:=List.mem_of_getElem? hq
      have hqn:q.1<n:=(hok q hqm).1
      obtain⟨qd,ql⟩:=q
      simp only[pairD,Rep,aH]at rq
      obtain⟨c,us',rfl,hc,_,_,rfl,rfl,lv,_,rfl,rlv,rfl⟩:=rq
      have htk:zs.take (i+1)=zs.take i++[(qd,ql)]:=by rw[List.take_add_one,hq];rfl
      refine⟨c,_,rfl,di.of hc,rfl,_,_,rfl,_,_,rfl,rfl,?_⟩
      obtain⟨dx3,ht3⟩:=T'.ob
      obtain⟨dv,d1,d2⟩:=T'.dn qd hqn
      have hdl:dv.length<sizeLine:=by
       rw[d2.length,List.length_map]
       show(post S.dn (zs.take i) qd).length<_
       have h1:=KZ S.dn (zs.take i) qd
       have h2:=z2 qd
       have h3:(zs.take i).length<=zs.length:=by rw[List.length_take];lia
       lia
      refine⟨_,rfl,B2 .bf,_,dx3,_,_,rfl,ht3,T.dC,T.fH,PN,_,rfl,B2 .downs,_,_,_,rfl,rfl,cu.of T'.os,bM hqn,.inl ⟨rfl,_,cu.of d1⟩,_,rfl,B2 (.dn qd),dv,_,rfl,rfl,d1,hdl,?_⟩
      have rp3:aH H' (dv++[lv]) ((post S.dn (zs.take i) qd++[ql]).map Let.d):=by
       rw[List.map_append]
       exact aH.snoc d2 rlv
      have T4:=T'.aj6 hqn rp3
      refine⟨⟨_,_,rfl⟩,by lia,?_,f'.trans (TF.wr (x:=.dn qd) hqn) (Tv.refl _ _ _ _)⟩
      rw[htk,abI]
      exact T4
     ·rintro σ' H' ⟨⟨o1,o2,rfl⟩,_,T',f'⟩
      rw[hvl,List.take_length]at T'
      refine⟨_,rfl,?_⟩
      refine k2 l r e b B2 H' ?_ (f12.trans f' awr) awr et (f'.tups T2 _ _ hb2)
      unfold TS.ahR
      rw[hz]
      exact T'
end
end gH
namespace gH
open PySem L2
def xOf(nd np wt nc nl:Addr)(s:Str):Addr:=if s="no desk" then nd else if s="no page" then np else if s="waiting" then wt else if s="no copy" then nc else nl
section
variable{nd np wt nc nl:Addr}
theorem amD:xOf nd np wt nc nl "no desk"=nd:=by kernel_rfl
theorem amE:xOf nd np wt nc nl "no page"=np:=by kernel_rfl
theorem amF:xOf nd np wt nc nl "waiting"=wt:=by kernel_rfl
theorem amG:xOf nd np wt nc nl "no copy"=nc:=by kernel_rfl
theorem aim:xOf nd np wt nc nl "no letter"=nl:=by kernel_rfl
end
def as8(c:C4)(X:Str->Addr):Sp:=fun vs H Q E=>∃B n m S k a x se,∃tt:Nat,vs=[.ref (B .bf),.ref a]/\cD c H B n m S k/\H a=some (.tup (cG.vs x))/\jU n m S/\Bd tt S se/\tt<=1500/\k<=800000/\
 (ph n m S x=""->∀v B' H',cD c H' B' n m (S.step n m x).1 (k+2)->TF H H' B n m->Tv H B B' n m->B' .bf=B .bf->Rep H' v (S.step n m x).2->Q v H')/\
 ∀s,ph n m S x=s->s≠""->∀H',bY H H'->E (.ref (X s)) none H'
section
variable{n m d:Nat}{S:TS}(h1:inR (d:Int) n)
include h1
theorem ajx:ph n m S (.up d)=bif (S.up d).isEmpty then("no letter":Str)else "":=by show(if inR (d:Int) n then _ else _)=_;rw[if_pos h1];rfl
theorem abX:ph n m S (.down d)=bif (S.dn d).isEmpty then("no letter":Str)else "":=by show(if inR (d:Int) n then _ else _)=_;rw[if_pos h1];rfl
theorem abY{p:Int}(h2:inR p m):ph n m S (.rest d p)=bif decide ((S.ds d).rt p=.no)then("no copy":Str)else "":=by show(if inR (d:Int) n then(if inR p m then _ else _)else _)=_;rw[if_pos h1,if_pos h2];rfl
theorem akm{p:Int}(h2:inR p m):ph n m S (.look d p)=bif (S.ds d).ws.isSome then("waiting":Str)else "":=by show(if inR (d:Int) n then(if inR p m then _ else _)else _)=_;rw[if_pos h1,if_pos h2];rfl
theorem amH{p y:Int}(h2:inR p m):ph n m S (.put d p y)=bif (S.ds d).ws.isSome then("waiting":Str)else "":=by show(if inR (d:Int) n then(if inR p m then _ else _)else _)=_;rw[if_pos h1,if_pos h2];rfl
theorem ajy{q:W}(h2:inR q.pg m):ph n m S (wd d q)=bif (S.ds d).ws.isSome then("waiting":Str)else "":=by
 cases q with
 | look p=>exact akm h1 h2
 | put p y=>exact amH h1 h2
theorem apc{p:Int}{x:cG}(h2:¬inR p m)(hx:x=.look d p\/(∃y,x=.put d p y)\/x=.rest d p):ph n m S x="no page":=by
 rcases hx with rfl | ⟨y,rfl⟩ | rfl<;>(show(if inR (d:Int) n then(if inR p m then _ else _)else _)=_;rw[if_pos h1,if_neg h2])
end
theorem amI(S:DS)(w:W):ajw S w=if S.ok w then abT S w else .s "waits":=by cases w<;>rfl
section
variable{P:Program}{w:World}{K:PySem.W.Frag}{mg:Str->Option Value}{base:Heap}{t:Jh}
abbrev xT(t:Jh):Str->Addr:=xOf t.bc t.aW t.aM t.aV t.aJ
theorem T9(T:Txt K w mg t):c7 P w K mg base (CX1 P w) 7 t.eV t.qy ["self","deed"] (as8 (c4 t) (xT t)):=by
 refine T.W5.okX lC (fun vs H Q E h=>?_) (fun cdv A outer s H vs Q E hr h=>?_)
 ·obtain⟨B,n,m,S,k,a,x,se,tt,rfl,_⟩:=h;rfl
 ·obtain⟨B,n,m,S,k,a,x,se,tt,rfl,TA,ha,I,bd,ht0,hk,k1,k2⟩:=h
  have n1:("no desk":Str)≠"":=by decide +kernel
  have n2:("no page":Str)≠"":=by decide +kernel
  have n3:("no letter":Str)≠"":=by decide +kernel
  have n4:("no copy":Str)≠"":=by decide +kernel
  have n5:("waiting":Str)≠"":=by decide +kernel
  have hbt:=aqd ht0
  obtain⟨dx,ht⟩:=TA.ob
  have hrow:=bd.row
  refine⟨_,(ao (bh (i:=2) lC.nd rfl (Or.inl rfl) (aN bz (pv 1) aA (fun _ _=>rfl)))
   (ao (bh (i:=3) lC.nd rfl (Or.inl rfl) (aN bz (pv 1) aA (fun _ _=>rfl)))
   (ao (bO (cF (pv 0) T.dC T.Jk (Ju T) (hr.mono (by decide):bQ 1 _) T.Lk .nil Ar (aa (pv 3) aq)))
   (ao (cg (aU cQ (pv 2) aD (bj _)) (aC (bw (cF (pv 0) T.dC T.Qi (Qu T) (hr.mono (by decide):bQ 6 _) T.TJ .nil Ar (aa (pv 3) aq)))) bC)
   (ao (cg (aU cQ (pv 2) aD (bj _)) (aC (bw (cF (pv 0) T.dC T.Jm (Jw T) (hr.mono (by decide):bQ 6 _) T.Lr .nil Ar (aa (pv 3) aq)))) bC)
   (ao (bh (i:=4) lC.nd rfl (Or.inl rfl) (aN bz (pv 1) aA (fun _ _=>rfl)))
   (ao (bO (cF (pv 0) T.dC T.Jl (Jv T) (hr.mono (by decide):bQ 1 _) T.Lp .nil Ar (aa (pv 4) aq)))
   (ao (cg (aU cQ (pv 2) aD (bj _)) (aC (bw (cF (pv 0) T.dC T.Tw (T8 T) (hr.mono (by decide):bQ 4 _) T.Xb .nil Ar (aa (pv 3) (aa (pv 4) aq))))) bC)
   (ao (cg (aU cQ (pv 2) aD (bj _)) (aC (bw (cF (pv 0) T.dC T.Tu (T7 T) (hr.mono (by decide):bQ 4 _) T.W8 .nil Ar (aa (pv 3) (aa (pv 4) aq))))) bC)
   (aC (bw (cF (pv 0) T.dC T.W9 (XN T) (hr.mono (by decide):bQ 4 _) T.ZZ .nil Ar (aa (pv 3) (aa (pv 4) (aa (aN bz (pv 1) aA (fun _ _=>rfl)) aq))))))))))))))),?_⟩
  try dsimp only[dw,Cx.kI]
  show let Z1:L2.TS:=_;let Z2:L2.TS:=_;let Z3:L2.TS:=_;let Z4:L2.TS:=_;let Z5:L2.TS:=dg _ Z4 bK;let Z6:L2.TS:=_;let Z7:L2.TS:=dg _ Z6 bK;let Z8:L2.TS:=_;let Z9:L2.TS:=_;let Bh:L2.TS:=_;let Mh:L2.TS:=dg _ Bh bK;let Mi:L2.TS:=_;let RL:L2.TS:=dg _ Mi bK;let RM:L2.TS:=_;let D0:Ends:=_;(aR Z1 (aR Z2 (aR Z3 (aR Z5 (aR Z7 (aR Z8 (aR Z9 (aR Mh (aR RL (RM)))))))))) D0 _ _
  intro Z1 Z2 Z3 Z4 Z5 Z6 Z7 Z8 Z9 Bh Mh Mi RL RM D0
  refine zt rfl (di.of ha) (cG.at0 x) ?_
  refine zt rfl (di.of ha) (cG.at1 x) ?_
  refine⟨_,rfl,B .bf,dx,_,rfl,ht,arL,_,rfl,B,n,m,S,k,x.dk,rfl,TA,fun hin=>?_,fun hn=>?_⟩
  ·obtain⟨d,hd⟩:∃d:Nat,x.dk=(d:Int):=⟨x.dk.toNat,by unfold inR at hin;lia⟩
   have hdn:d<n:=by unfold inR at hin;lia
   have Ua:inR (d:Int) n:=by rw[<-hd];exact hin
   have hup:=bd.up d
   rw[hd]
   have dF:∀(wq:W) (p:Nat),x=wd d wq->wq.pg=(p:Int)->p<m->as5 (c4 t) t.aM H B n m S k d p wq Q E:=fun wq p ex ew hp=>by
    subst ex
    have h2:inR wq.pg m:=by rw[ew];exact⟨by lia,by lia⟩
    refine⟨fun h0 v H' T' f' r'=>?_,fun h0 H' s'=>?_⟩
    ·have st:=(ajs hdn hp ew h0).1
     refine k1 ?_ v B H' ?_ f' (Tv.refl _ _ _ _) rfl ?_
     ·rw[ajy Ua h2,h0];rfl
     ·rw[st];exact T'
     ·rw[st,<-amI];exact r'
    ·have:=k2 "waiting" (by
      obtain⟨w',hw'⟩:=Option.ne_none_iff_exists'.mp h0
      rw[ajy Ua h2,hw'];rfl) n5 H' s'
     rw[show xT t "waiting"=t.aM from amF]at this
     exact this
   have ain:∀p:Int,¬inR p m->(x=.look d p\/(∃y,x=.put d p y)\/x=.rest d p)->E (.ref t.aW) none H:=fun p hp hx=>by
    have:=k2 "no page" (apc Ua hp hx) n2 H (bY.refl _)
    rw[show xT t "no page"=t.aW from amE]at this
    exact this
   refine⟨_,rfl,rfl,_,rfl,?_⟩
   cases x with
   | up d' =>
     have ed:d'=(d:Int):=hd
     subst ed
     refine bH fD ?_
     refine⟨_,rfl,B .bf,dx,_,rfl,ht,arQ,_,rfl,B,n,m,S,k,d,rfl,TA,hdn,I,fun p=>by have:=bd.mu p;lia,fun e=>by have:=bd.dn e;lia,fun e=>?_,fun l r e b B' H' T' f' tv' et' hb'=>?_⟩
     ·have:=k2 "no letter" (by rw[ajx Ua,e];rfl) n3 H (bY.refl _)
      rw[show xT t "no letter"=t.aJ from aim]at this
      exact this
     ·have st:S.step n m (.up d)=(S.ahR d l r,l.d):=by simp only[TS.step];rw[if_pos Ua,Int.toNat_natCast];unfold TS.upD;rw[e]
      refine k1 (by rw[ajx Ua,e];rfl) _ B' H' ?_ f' tv' et' ?_
      ·rw[st];exact T'.more (by lia)
      ·rw[st];exact Xq hb'
   | down d' =>
     have ed:d'=(d:Int):=hd
     subst ed
     refine aP (dh (a:="down") (b:="up") (by decide +kernel)) ?_
     refine⟨_,rfl,rfl,_,rfl,?_⟩
     refine bH fD ?_
     refine⟨_,rfl,B .bf,dx,_,rfl,ht,arR,_,rfl,B,n,m,S,k,d,rfl,TA,hdn,I,by lia,by lia,hk,fun e=>?_,fun l r e b H' T' f' hb'=>?_⟩
     ·have:=k2 "no letter" (by rw[abX Ua,e];rfl) n3 H (bY.refl _)
      rw[show xT t "no letter"=t.aJ from aim]at this
      exact this
     ·have st:S.step n m (.down d)=(S.Te d l r,l.d):=by simp only[TS.step];rw[if_pos Ua,Int.toNat_natCast];unfold TS.Wt;rw[e]
      refine k1 (by rw[abX Ua,e];rfl) _ B H' ?_ f' (Tv.refl _ _ _ _) rfl ?_
      ·rw[st];exact T'
      ·rw[st];exact ajr hb'
   | rest d' p =>
     have ed:d'=(d:Int):=hd
     subst ed
     refine aP (dh (a:="rest") (b:="up") (by decide +kernel)) ?_
     refine⟨_,rfl,rfl,_,rfl,?_⟩
     refine aP (dh (a:="rest") (b:="down") (by decide +kernel)) ?_
     refine zt rfl (di.of ha) rfl ?_
     refine⟨_,rfl,B .bf,dx,_,rfl,ht,ah0,_,rfl,B,n,m,S,k,p,rfl,TA,fun hp=>?_,fun hp=>ain p hp (.inr (.inr rfl))⟩
     obtain⟨pn,rfl⟩:∃q:Nat,p=(q:Int):=⟨p.toNat,by unfold inR at hp;lia⟩
     refine⟨_,rfl,rfl,_,rfl,?_⟩
     refine bH fD ?_
     refine⟨_,rfl,B .bf,dx,_,rfl,ht,arP,_,rfl,_,rfl,B,n,m,S,k,d,pn,rfl,TA,hdn,by lia,hk,fun e H' T' f'=>?_,fun e=>?_⟩
     ·have st:S.step n m (.rest d pn)=(S.vO d pn,.s "done"):=by simp only[TS.step];rw[if_pos Ua,if_pos hp,Int.toNat_natCast,if_neg e,Int.toNat_natCast]
      refine k1 (by rw[abY Ua hp,decide_eq_false e];rfl) _ B H' ?_ f' (Tv.refl _ _ _ _) rfl ?_
      ·rw[st];exact T'
      ·rw[st];simp only[Rep]
     ·have:=k2 "no copy" (by rw[abY Ua hp,decide_eq_true e];rfl) n4 H (bY.refl _)
      rw[show xT t "no copy"=t.aV from amG]at this
      exact this
   | look d' p =>
     have ed:d'=(d:Int):=hd
     subst ed
     refine aP (dh (a:="look") (b:="up") (by decide +kernel)) ?_
     refine⟨_,rfl,rfl,_,rfl,?_⟩
     refine aP (dh (a:="look") (b:="down") (by decide +kernel)) ?_
     refine zt rfl (di.of ha) rfl ?_
     refine⟨_,rfl,B .bf,dx,_,rfl,ht,ah0,_,rfl,B,n,m,S,k,p,rfl,TA,fun hp=>?_,fun hp=>ain p hp (.inl rfl)⟩
     obtain⟨pn,rfl⟩:∃q:Nat,p=(q:Int):=⟨p.toNat,by unfold inR at hp;lia⟩
     refine⟨_,rfl,rfl,_,rfl,?_⟩
     refine aP (dh (a:="look") (b:="rest") (by decide +kernel)) ?_
     refine⟨_,rfl,rfl,_,rfl,?_⟩
     refine bH fD ?_
     exact⟨_,rfl,B .bf,dx,_,rfl,ht,arN,_,rfl,_,rfl,B,n,m,S,k,d,pn,rfl,TA,hdn,by lia,by lia,hk,dF (.look pn) pn rfl rfl (by unfold inR at hp;lia)⟩
   | put d' p y =>
     have ed:d'=(d:Int):=hd
     subst ed
     refine aP (dh (a:="put") (b:="up") (by decide +kernel)) ?_
     refine⟨_,rfl,rfl,_,rfl,?_⟩
     refine aP (dh (a:="put") (b:="down") (by decide +kernel)) ?_
     refine zt rfl (di.of ha) rfl ?_
     refine⟨_,rfl,B .bf,dx,_,rfl,ht,ah0,_,rfl,B,n,m,S,k,p,rfl,TA,fun hp=>?_,fun hp=>ain p hp (.inr (.inl ⟨y,rfl⟩))⟩
     obtain⟨pn,rfl⟩:∃q:Nat,p=(q:Int):=⟨p.toNat,by unfold inR at hp;lia⟩
     refine⟨_,rfl,rfl,_,rfl,?_⟩
     refine aP (dh (a:="put") (b:="rest") (by decide +kernel)) ?_
     refine⟨_,rfl,rfl,_,rfl,?_⟩
     refine aP (dh (a:="put") (b:="look") (by decide +kernel)) ?_
     exact⟨_,rfl,B .bf,dx,_,rfl,ht,arO,_,rfl,_,rfl,zt rfl (di.of ha) rfl ⟨B,n,m,S,k,d,pn,y,rfl,TA,hdn,by lia,by lia,hk,dF (.put pn y) pn rfl rfl (by unfold inR at hp;lia)⟩⟩
  ·have:=k2 "no desk" (by unfold ph;rw[if_neg hn]) n1 H (bY.refl _)
   rw[show xT t "no desk"=t.bc from amD]at this
   exact this
end
end gH
namespace gH
open PySem L2
structure Kp(p:Addr)(H H':Hp):Prop where
 kp:∀b o,H b=some o->b≠p->H' b=some o
 lv:Lv H H'
theorem Kp.trans{p:Addr}{H H1 H2:Hp}(x:Kp p H H1)(y:Kp p H1 H2):Kp p H H2:=⟨fun b o h n=>y.kp b o (x.kp b o h n) n,x.lv.trans y.lv⟩
theorem Kp.same{p:Addr}{H H1:Hp}(s:bY H H1):Kp p H H1:=⟨fun b o h _=>s b o h,Lv.same s⟩
theorem Kp.upd{p:Addr}{H:Hp}{o:HO}:Kp p H (upd H p o):=⟨fun b u h n=>by rw[az n];exact h,Lv.upd⟩
theorem Kp.tups{p:Addr}{H H1:Hp}(k:Kp p H H1){o:HO}(hp:H p=some o)(ho:∀xs,o≠.tup xs):b8 H H1:=fun b xs e=>k.kp b _ e fun z=>by rw[z,hp]at e;exact ho xs (Option.some.inj e)
theorem akn{ι:Type}{A:ι->Addr}{ok:ι->Prop}(rk:ι->Nat)(Hs:Nat->Hp)(mono:∀i,Lv (Hs i) (Hs (i+1)))(new:∀x,ok x->Hs (rk x) (A x)=none)(live:∀x,ok x->∃o,Hs (rk x+1) (A x)=some o)
 (same:∀x y,ok x->ok y->rk x=rk y->A x=A y->x=y):∀x y,ok x->ok y->A x=A y->x=y:=by
 have mo:∀k i,Lv (Hs i) (Hs (i+k)):=fun k=>by
  induction k with
  | zero=>exact fun i=>Lv.refl _
  | succ k ih=>exact fun i=>(ih i).trans (mono (i+k))
 have key:∀x y,ok x->ok y->rk x<rk y->A x≠A y:=fun x y hx hy h e=>by
  obtain⟨o,h1⟩:=live x hx
  have h2:=mo (rk y - (rk x+1)) (rk x+1) (A x)
  rw[show rk x+1+(rk y - (rk x+1))=rk y by lia,e,new y hy]at h2
  rw[e,h2 rfl]at h1
  cases h1
 intro x y hx hy e
 rcases Nat.lt_trichotomy (rk x) (rk y)with h | h | h
 ·exact absurd e (key x y hx hy h)
 ·exact same x y hx hy h e
 ·exact absurd e.symm (key y x hy hx h)
def ds0:DS:=⟨fun _=>.no,fun _=>0,none⟩
theorem aio{C:Addr}{n:Nat}{acc:Addr}{te:TE}{σ:St}{H1:Hp}{Q:VK}(Pσ:St->Prop)(h0:Pσ σ)(hacc:H1 acc=none)(hn:n<=1000)
 (hg:∀i σ',Pσ σ'->Pσ (σ'.set 0 (some (.int i))))
 (hel:∀σ' H' (R:VK),Pσ σ'->(∀x d Zz,H' x=none->H' d=none->bY H' Zz->cz C Zz x d ds0 0->R (.ref x) Zz)->te σ' H' R)
 (hd:∀(f g:Nat->Addr) H',bY H1 H'->H' acc=some (.lst ((List.range n).map fun d=>V.ref (f d)))->(∀d,d<n->H1 (f d)=none/\H1 (g d)=none/\f d≠acc/\g d≠acc/\cz C H' (f d) (g d) ds0 0)->(∀d e,d<n->e<n->f d=f e->d=e)->(∀d e,d<n->e<n->g d=g e->d=e)->Q (.ref acc) H') :
 DN (Itr 0 n) (abt 0) aj1 te σ acc H1 Q:=by
 have sl:sizeLine=16777216:=by decide
 let PV1:Nat->List V->St->Hp->Prop:=fun i zs σ' H'=>Pσ σ'/\bY H1 H'/\H' acc=some (.lst zs)/\∃f g:Nat->Addr,zs=(List.range i).map (fun d=>V.ref (f d))/\(∀d,d<i->H1 (f d)=none/\H1 (g d)=none/\f d≠acc/\g d≠acc/\cz C H' (f d) (g d) ds0 0)/\(∀d e,d<i->e<i->f d=f e->d=e)/\∀d e,d<i->e<i->g d=g e->d=e
 refine yP PV1 ?_ ?_ ?_ ?_
 ·exact⟨h0,aB hacc,aj,fun _=>0,fun _=>0,rfl,fun d hd=>absurd hd (Nat.not_lt_zero _),fun d e hd=>absurd hd (Nat.not_lt_zero _),fun d e hd=>absurd hd (Nat.not_lt_zero _)⟩
 ·rintro i zs σ' H' _ ⟨_,_,h,_⟩
  exact h
 ·rintro i zs σ' H' hi ⟨hp,s',ha',f,g,rfl,hf,inj,amm⟩
  refine aco (hel _ H' _ (hg _ _ hp) fun x d Zz hx hdn s'' D''=>?_)
  have aoj:=s'' _ _ ha'
  have nax:acc≠x:=aG ha' hx
  have nad:acc≠d:=aG ha' hdn
  have hz:((List.range i).map fun d=>V.ref (f d)).length<sizeLine:=by rw[List.length_map,List.length_range];lia
  have tl:=lB (vs:=(List.range i).map (fun d=>V.ref (f d))++[.ref x]) aoj
  have live:∀e,e<i->(∃o,H' (f e)=some o)/\∃o,H' (g e)=some o:=fun e he=>by
   obtain⟨⟨dx,v,e1,_⟩,⟨kvs,e2,_⟩⟩:=(hf e he).2.2.2.2
   exact⟨⟨_,e1⟩,⟨_,e2⟩⟩
  refine wY.mk hi aoj hz ⟨hg _ _ hp,fC (s'.trans s'') hacc,aj,bL f i x,bL g i d,?_,fun e he=>?_,fun a e hd he h=>?_,fun a e hd he h=>?_⟩
  ·rw[List.range_succ,List.map_append]
   congr 1
   ·refine List.map_congr_left fun d hd=>?_
    rw[bD _ _ (Nat.ne_of_lt (List.mem_range.mp hd))]
   ·show [V.ref x]=[V.ref _];rw[aL]
  ·by_cases y:e=i
   ·subst y
    rw[aL,aL]
    exact⟨bY.free s' hx,bY.free s' hdn,nax.symm,nad.symm,D''.keep tl (fun o z=>by rw[az nax.symm];exact z) fun o z=>by rw[az nad.symm];exact z⟩
   ·rw[bD _ _ y,bD _ _ y]
    obtain⟨h1,h2,h3,h4,h5⟩:=hf e (by lia)
    exact⟨h1,h2,h3,h4,(h5.same s'').keep tl (fun o z=>by rw[az h3];exact z) fun o z=>by rw[az h4];exact z⟩
  ·by_cases h1:a=i
   ·by_cases h2:e=i
    ·rw[h1,h2]
    ·rw[h1,aL,bD _ _ h2]at h
     obtain⟨⟨o,z⟩,_⟩:=live e (by lia)
     rw[<-h,hx]at z;cases z
   ·by_cases h2:e=i
    ·rw[h2,aL,bD _ _ h1]at h
     obtain⟨⟨o,z⟩,_⟩:=live a (by lia)
     rw[h,hx]at z;cases z
    ·rw[bD _ _ h1,bD _ _ h2]at h;exact inj a e (by lia) (by lia) h
  ·by_cases h1:a=i
   ·by_cases h2:e=i
    ·rw[h1,h2]
    ·rw[h1,aL,bD _ _ h2]at h
     obtain⟨_,⟨o,z⟩⟩:=live e (by lia)
     rw[<-h,hdn]at z;cases z
   ·by_cases h2:e=i
    ·rw[h2,aL,bD _ _ h1]at h
     obtain⟨_,⟨o,z⟩⟩:=live a (by lia)
     rw[h,hdn]at z;cases z
    ·rw[bD _ _ h1,bD _ _ h2]at h;exact amm a e (by lia) (by lia) h
 ·rintro zs σ' H' ⟨_,s',ha',f,g,rfl,hf,inj,amm⟩
  exact hd f g H' s' ha' hf inj amm
def aip(c:C4):Sp:=fun vs H Q _=>∃p dx l,∃n:Nat,∃ns:List Int,vs=[.ref p,.int n,.ref l]/\H p=some (.ins c.T dx [])/\H l=some (.lst (ns.map V.int))/\n<=1000/\ns.length<=1000/\
 ∀B H',B .bf=p->(∀x:Tb,x.ok n ns.length->x≠.bf->H (B x)=none)->cD c H' B n ns.length (S0 ns) 0->Kp p H H'->Q .non H'
def rkT:Tb->Nat
 | .bf=>0
 | .h _=>1
 | .lq=>2
 | .dk _=>2
 | .cp _=>2
 | .ups=>3
 | .up _=>3
 | .downs=>4
 | .dn _=>4
 | .row=>5
def hsT(a b c d e f:Hp):Nat->Hp
 | 0=>fun _=>none
 | 1=>a
 | 2=>b
 | 3=>c
 | 4=>d
 | 5=>e
 | _=>f
def bT(p:Addr)(A:Hb->Addr)(ad au aw r:Addr)(f g u o:Nat->Addr):Tb->Addr
 | .bf=>p
 | .h x=>A x
 | .lq=>ad
 | .dk d=>f d
 | .cp d=>g d
 | .ups=>au
 | .up d=>u d
 | .downs=>aw
 | .dn d=>o d
 | .row=>r
end gH
namespace gH
open PySem L2
section
variable{P:Program}{w:World}{K:PySem.W.Frag}{mg:Str->Option Value}{base:Heap}{t:Jh}
theorem ac7(T:Txt K w mg t):c7 P w K mg base nP 5 t.iy t.zB ["self","count","numbers"] (aip (c4 t)):=by
 refine T.af5.ok acC (fun vs H Q E h=>?_) (fun cdv A outer s H vs Q E hr h=>?_)
 ·obtain⟨p,dx,l,n,ns,rfl,_⟩:=h;rfl
 ·obtain⟨p,dx,l,n,ns,rfl,hp,hl,hn,hns,fin⟩:=h
  have nb : -(2 ^ 62)<=((n:Nat):Int)/\((n:Nat):Int)<2 ^ 62:=⟨by lia,by lia⟩
  have nlp:l≠p:=jq hl hp (by intro z;cases z)
  refine⟨_,(ao (gh (pv 0) (dM dU (by rfl) T.Be PySem.boot_len (aa (pv 2) aq)) (by rfl))
   (ao (gh (pv 0) (acf T.acG (ac1 T) (hr.mono (by decide):bQ 4 _) (by rfl) T.arW T.af2 .nil bU (aa (pv 2) aq)) (by rfl))
   (ao (gh (pv 0) (lA (gF (xs:=["desk"]) (ys:=[]) (js:=[]) rfl (by decide +kernel) (by decide +kernel) (by decide +kernel) (by rfl) trivial) rfl (gU (by rfl) T.lD (aa (pv 1) aq)) (fun _ _ _ _ _=>(cU (i:=0) (show List.Nodup ((["desk"]:List Str)++([]:List Str):List Str)by decide +kernel) rfl (Or.inl rfl))) (fun _ _ _ _ _=>qU) (fun _ _ _ _ _=>(ak4 T.acF (acW T) (hr.mono (by decide):bQ 2 _) (by rfl) T.arV T.afU .nil bU))) (by rfl))
   (ao (gh (pv 0) (lA (gF (xs:=["desk"]) (ys:=[]) (js:=[]) rfl (by decide +kernel) (by decide +kernel) (by decide +kernel) (by rfl) trivial) rfl (gU (by rfl) T.lD (aa (pv 1) aq)) (fun _ _ _ _ _=>(cU (i:=0) (show List.Nodup ((["desk"]:List Str)++([]:List Str):List Str)by decide +kernel) rfl (Or.inl rfl))) (fun _ _ _ _ _=>qU) (fun _ _ _ _ _=>(bN aq))) (by rfl))
   (ao (gh (pv 0) (lA (gF (xs:=["desk"]) (ys:=[]) (js:=[]) rfl (by decide +kernel) (by decide +kernel) (by decide +kernel) (by rfl) trivial) rfl (gU (by rfl) T.lD (aa (pv 1) aq)) (fun _ _ _ _ _=>(cU (i:=0) (show List.Nodup ((["desk"]:List Str)++([]:List Str):List Str)by decide +kernel) rfl (Or.inl rfl))) (fun _ _ _ _ _=>qU) (fun _ _ _ _ _=>(bN aq))) (by rfl))
   (aC (gh (pv 0) (bN aq) (by rfl)))))))),?_⟩
  try dsimp only[dw,Cx.kI]
  show let Z1:L2.TS:=_;let Z2:L2.TS:=_;let Z3:L2.TS:=_;let Z4:L2.TS:=_;let Z5:L2.TS:=_;let Z6:L2.TS:=_;let D0:Ends:=_;(aR Z1 (aR Z2 (aR Z3 (aR Z4 (aR Z5 (Z6)))))) D0 _ _
  intro Z1 Z2 Z3 Z4 Z5 Z6 D0
  refine⟨_,rfl,l,_,rfl,.inl (cu.of hl),_,rfl,p,_,dx,[],rfl,hp,T.dC,T.jo,(by show 0<1000;decide),?_⟩
  rw[List.length_map]
  have K1:Kp p H (upd H p (.ins t.bx dx (f9 "page_count" (.int (ns.length:Nat)) []))):=Kp.upd
  have hp1:upd H p (.ins t.bx dx (f9 "page_count" (.int (ns.length:Nat)) [])) p=some (.ins t.bx dx (f9 "page_count" (.int (ns.length:Nat)) [])):=aj
  generalize upd H p (.ins t.bx dx (f9 "page_count" (.int (ns.length:Nat)) []))=H1 at K1 hp1
  refine⟨_,rfl,fun x dx' hx hdx nx=>?_⟩
  have hl1:=K1.kp _ _ hl nlp
  refine⟨x,dx',l,ns,rfl,aj,?_,hns,fun Ah H2 eh fr HA kp2 lv2=>⟨rfl,?_⟩⟩
  ·rw[az (aG hl1 hx),az (aG hl1 hdx)];exact hl1
  have s12:bY H1 H2:=fun b o e=>kp2 b o (by rw[az (aG e hx),az (aG e hdx)];exact e) (aG e hx)
  have frA:∀z:Hb,z.ok ns.length->H1 (Ah z)=none:=fun z hz=>by
   by_cases e:z=.hall
   ·rw[e,eh];exact hx
   ·exact Lv.upd _ (Lv.upd _ (fr z hz e))
  clear kp2 fr
  refine⟨_,rfl,p,_,dx,_,rfl,s12 _ _ hp1,T.dC,T.qZ,(by show 1<1000;decide),?_⟩
  generalize hf2:f9 "hall" (.ref x) (f9 "page_count" (.int (ns.length:Nat)) [])=fs2
  have hl2:fs2.length=2:=by rw[<-hf2];rfl
  have K2:Kp p H1 (upd H2 p (.ins t.bx dx fs2)):=(Kp.same s12).trans Kp.upd
  have K2':Kp p H2 (upd H2 p (.ins t.bx dx fs2)):=Kp.upd
  have hp2:upd H2 p (.ins t.bx dx fs2) p=some (.ins t.bx dx fs2):=aj
  have tm2:=K2'.tups (s12 _ _ hp1) (fun xs z=>by cases z)
  have npA:∀z:Hb,z.ok ns.length->Ah z≠p:=fun z hz e=>by have:=frA z hz;rw[e,hp1]at this;cases this
  have HA2:=HA.keep tm2 (fun z hz o e=>K2'.kp _ o e (npA z hz))
  clear HA tm2 K2'
  generalize upd H2 p (.ins t.bx dx fs2)=H2' at K2 hp2 HA2
  refine⟨_,rfl,(n:Int),rfl,nb.1,nb.2,fun ad had=>?_⟩
  rw[Int.toNat_natCast]
  refine aio (C:=t.bJ) (fun σ'=>∃o,σ'=[o]) ⟨_,rfl⟩ had hn (fun i σ' h=>by obtain⟨o,rfl⟩:=h;exact⟨_,rfl⟩) (fun σ' H' R ⟨o,e⟩ hR=>?_) (fun f g H3 s3 ha3 hf3 ay2 ay3=>?_)
  ·intro y dy hy hdy ny
   refine⟨y,dy,rfl,aj,fun d Zz hd'' D'' k''=>⟨rfl,hR y d Zz hy (Lv.upd _ (Lv.upd _ hd'')) (fun b o e=>k'' b o ?_ (aG e hy)) D''⟩⟩
   rw[az (aG e hy),az (aG e hdy)];exact e
  refine⟨_,rfl,p,_,dx,_,rfl,s3 _ _ hp2,T.dC,T.fL,(by rw[hl2];show 2<1000;decide),?_⟩
  generalize apd:f9 "desks" (.ref ad) fs2=fs3
  have hl3:fs3.length=3:=by rw[<-apd,<-hf2];kernel_rfl
  have K3:Kp p H2' (upd H3 p (.ins t.bx dx fs3)):=(Kp.same s3).trans Kp.upd
  have K3':Kp p H3 (upd H3 p (.ins t.bx dx fs3)):=Kp.upd
  have hp3:upd H3 p (.ins t.bx dx fs3) p=some (.ins t.bx dx fs3):=aj
  have tm3:=K3'.tups (s3 _ _ hp2) (fun xs z=>by cases z)
  have np3:∀b,H2' b=none->b≠p:=fun b e z=>by rw[z,hp2]at e;cases e
  have ata:=K3'.kp _ _ ha3 (np3 _ had)
  have hD3:∀d,d<n->cz t.bJ (upd H3 p (.ins t.bx dx fs3)) (f d) (g d) ds0 0:=fun d hd=>by
   obtain⟨q1,q2,_,_,q5⟩:=hf3 d hd
   exact q5.keep tm3 (fun o e=>K3'.kp _ o e (np3 _ q1)) fun o e=>K3'.kp _ o e (np3 _ q2)
  clear ha3 tm3 K3'
  generalize upd H3 p (.ins t.bx dx fs3)=H3' at K3 hp3 ata hD3
  refine⟨_,rfl,(n:Int),rfl,nb.1,nb.2,fun au hau=>?_⟩
  rw[Int.toNat_natCast]
  refine ye (c:=[]) (fun σ'=>∃o,σ'=[o]) ⟨_,rfl⟩ hau hn (fun i σ' h=>by obtain⟨o,rfl⟩:=h;exact⟨_,rfl⟩) (fun σ' H' R ⟨o,e⟩ s' hR=>?_) (fun u H4 s4 ha4 hf4 asz=>?_)
  ·exact⟨Dw,fun z hz=>hR z _ hz (aB hz) aj⟩
  refine⟨_,rfl,p,_,dx,_,rfl,s4 _ _ hp3,T.dC,T.fG,(by rw[hl3];show 3<1000;decide),?_⟩
  generalize atb:f9 "roads_up" (.ref au) fs3=fs4
  have hl4:fs4.length=4:=by rw[<-atb,<-apd,<-hf2];kernel_rfl
  have K4:Kp p H3' (upd H4 p (.ins t.bx dx fs4)):=(Kp.same s4).trans Kp.upd
  have K4':Kp p H4 (upd H4 p (.ins t.bx dx fs4)):=Kp.upd
  have hp4:upd H4 p (.ins t.bx dx fs4) p=some (.ins t.bx dx fs4):=aj
  have np4:∀b,H3' b=none->b≠p:=fun b e z=>by rw[z,hp3]at e;cases e
  have atc:=K4'.kp _ _ ha4 (np4 _ hau)
  have hU4:∀d,d<n->upd H4 p (.ins t.bx dx fs4) (u d)=some (.lst []):=fun d hd=>K4'.kp _ _ (hf4 d hd).2.2 (np4 _ (hf4 d hd).1)
  clear ha4 K4'
  generalize upd H4 p (.ins t.bx dx fs4)=H4' at K4 hp4 atc hU4
  refine⟨_,rfl,(n:Int),rfl,nb.1,nb.2,fun aw haw=>?_⟩
  rw[Int.toNat_natCast]
  refine ye (c:=[]) (fun σ'=>∃o,σ'=[o]) ⟨_,rfl⟩ haw hn (fun i σ' h=>by obtain⟨o,rfl⟩:=h;exact⟨_,rfl⟩) (fun σ' H' R ⟨o,e⟩ s' hR=>?_) (fun o H5 s5 ha5 hf5 ay7=>?_)
  ·exact⟨Dw,fun z hz=>hR z _ hz (aB hz) aj⟩
  refine⟨_,rfl,p,_,dx,_,rfl,s5 _ _ hp4,T.dC,T.fH,(by rw[hl4];show 4<1000;decide),?_⟩
  generalize awt:f9 "roads_down" (.ref aw) fs4=fs5
  have hl5:fs5.length=5:=by rw[<-awt,<-atb,<-apd,<-hf2];kernel_rfl
  have K5:Kp p H4' (upd H5 p (.ins t.bx dx fs5)):=(Kp.same s5).trans Kp.upd
  have K5':Kp p H5 (upd H5 p (.ins t.bx dx fs5)):=Kp.upd
  have hp5:upd H5 p (.ins t.bx dx fs5) p=some (.ins t.bx dx fs5):=aj
  have np5:∀b,H4' b=none->b≠p:=fun b e z=>by rw[z,hp4]at e;cases e
  have atd:=K5'.kp _ _ ha5 (np5 _ haw)
  have hO5:∀d,d<n->upd H5 p (.ins t.bx dx fs5) (o d)=some (.lst []):=fun d hd=>K5'.kp _ _ (hf5 d hd).2.2 (np5 _ (hf5 d hd).1)
  clear ha5 K5'
  generalize upd H5 p (.ins t.bx dx fs5)=H5' at K5 hp5 atd hO5
  refine⟨Dw,fun r hr6=>?_⟩
  have npr:r≠p:=fun z=>by rw[z,hp5]at hr6;cases hr6
  refine⟨_,rfl,p,_,dx,_,rfl,(by rw[az npr.symm];exact hp5),T.dC,T.u9,(by rw[hl5];show 5<1000;decide),?_⟩
  have efs:f9 "row" (.ref r) fs5=Th ns.length x ad au aw r:=by rw[<-awt,<-atb,<-apd,<-hf2];exact alJ
  rw[efs]
  have K6:Kp p H5' (upd (upd H5' r (.lst [])) p (.ins t.bx dx (Th ns.length x ad au aw r))):=(Kp.same (aB hr6)).trans Kp.upd
  have hp6:upd (upd H5' r (.lst [])) p (.ins t.bx dx (Th ns.length x ad au aw r)) p=some (.ins t.bx dx (Th ns.length x ad au aw r)):=aj
  have ate:upd (upd H5' r (.lst [])) p (.ins t.bx dx (Th ns.length x ad au aw r)) r=some (.lst []):=by rw[az npr,aj]
  generalize upd (upd H5' r (.lst [])) p (.ins t.bx dx (Th ns.length x ad au aw r))=H6 at K6 hp6 ate
  have K56:=K6
  have K46:=K5.trans K56
  have K36:=K4.trans K46
  have K26:=K3.trans K36
  have nH:∀b,H1 b=none->H b=none:=K1.lv
  have aze:=K26.tups hp2 (fun xs z=>by cases z)
  have azf:=K36.tups hp3 (fun xs z=>by cases z)
  refine fin (bT p Ah ad au aw r f g u o) H6 rfl (fun z hz hzn=>?_) ⟨?_,⟨dx,?_⟩,?_,?_,?_,⟨[],ate,?_⟩,fun d hd=>⟨[],?_,?_⟩,fun d hd=>⟨[],?_,?_⟩,fun d hd=>?_,?_⟩ (K1.trans (K2.trans K26))
  ·cases z with
   | bf=>exact absurd rfl hzn
   | h y=>exact nH _ (frA y hz)
   | lq=>exact nH _ (K2.lv _ had)
   | dk d=>exact nH _ (K2.lv _ (hf3 d hz).1)
   | cp d=>exact nH _ (K2.lv _ (hf3 d hz).2.1)
   | ups=>exact nH _ (K2.lv _ (K3.lv _ hau))
   | up d=>exact nH _ (K2.lv _ (K3.lv _ (hf4 d hz).1))
   | downs=>exact nH _ (K2.lv _ (K3.lv _ (K4.lv _ haw)))
   | dn d=>exact nH _ (K2.lv _ (K3.lv _ (K4.lv _ (hf5 d hz).1)))
   | row=>exact nH _ (K2.lv _ (K3.lv _ (K4.lv _ (K5.lv _ hr6))))
  ·refine akn rkT (hsT H1 H2' H3' H4' H5' H6) (fun i=>?_) (fun z hz=>?_) (fun z hz=>?_) (fun y z hy hz hrk e=>?_)
   ·match i with
    | 0=>exact fun _ _=>rfl
    | 1=>exact K2.lv
    | 2=>exact K3.lv
    | 3=>exact K4.lv
    | 4=>exact K5.lv
    | 5=>exact K6.lv
    | _+6=>exact Lv.refl _
   ·cases z with
    | bf=>rfl
    | h y=>exact frA y hz
    | lq=>exact had
    | dk d=>exact(hf3 d hz).1
    | cp d=>exact(hf3 d hz).2.1
    | ups=>exact hau
    | up d=>exact(hf4 d hz).1
    | downs=>exact haw
    | dn d=>exact(hf5 d hz).1
    | row=>exact hr6
   ·cases z with
    | bf=>exact⟨_,hp1⟩
    | h y=>obtain⟨o',e',_⟩:=HA2.live y hz;exact⟨o',e'⟩
    | lq=>exact⟨_,ata⟩
    | dk d=>obtain⟨⟨dz,vz,ez,_⟩,_⟩:=hD3 d hz;exact⟨_,ez⟩
    | cp d=>obtain⟨_,⟨kz,ez,_⟩⟩:=hD3 d hz;exact⟨_,ez⟩
    | ups=>exact⟨_,atc⟩
    | up d=>exact⟨_,hU4 d hz⟩
    | downs=>exact⟨_,atd⟩
    | dn d=>exact⟨_,hO5 d hz⟩
    | row=>exact⟨_,ate⟩
   ·have dc:∀a b,a<n->b<n->f a≠g b:=fun a b ha hb e=>by
     obtain⟨⟨dz,vz,ez,_⟩,_⟩:=hD3 a ha
     obtain⟨_,⟨kz,ez2,_⟩⟩:=hD3 b hb
     rw[e,ez2]at ez;cases ez
    cases y with
    | bf=>cases z<;>first | rfl | cases hrk
    | row=>cases z<;>first | rfl | cases hrk
    | h a=>cases z with
      | h b=>rw[HA2.inj a b hy hz e]
      | _=>cases hrk
    | lq=>cases z with
      | lq=>rfl
      | dk d=>exact absurd e.symm (hf3 d hz).2.2.1
      | cp d=>exact absurd e.symm (hf3 d hz).2.2.2.1
      | _=>cases hrk
    | dk a=>cases z with
      | lq=>exact absurd e (hf3 a hy).2.2.1
      | dk b=>rw[ay2 a b hy hz e]
      | cp b=>exact absurd e (dc a b hy hz)
      | _=>cases hrk
    | cp a=>cases z with
      | lq=>exact absurd e (hf3 a hy).2.2.2.1
      | dk b=>exact absurd e.symm (dc b a hz hy)
      | cp b=>rw[ay3 a b hy hz e]
      | _=>cases hrk
    | ups=>cases z with
      | ups=>rfl
      | up b=>exact absurd e.symm (hf4 b hz).2.1
      | _=>cases hrk
    | up a=>cases z with
      | ups=>exact absurd e (hf4 a hy).2.1
      | up b=>rw[asz a b hy hz e]
      | _=>cases hrk
    | downs=>cases z with
      | downs=>rfl
      | dn b=>exact absurd e.symm (hf5 b hz).2.1
      | _=>cases hrk
    | dn a=>cases z with
      | downs=>exact absurd e (hf5 a hy).2.1
      | dn b=>rw[ay7 a b hy hz e]
      | _=>cases hrk
  ·show H6 p=some (.ins t.bx dx (Th ns.length (Ah .hall) ad au aw r))
   rw[eh];exact hp6
  ·exact K36.kp _ _ ata (np3 _ had)
  ·exact K46.kp _ _ atc (np4 _ hau)
  ·exact K56.kp _ _ atd (np5 _ haw)
  ·simp only[S0,List.map_nil,aH]
  ·exact K46.kp _ _ (hU4 d hd) (np4 _ (hf4 d hd).1)
  ·simp only[S0,List.map_nil,aH]
  ·exact K56.kp _ _ (hO5 d hd) (np5 _ (hf5 d hd).1)
  ·simp only[S0,List.map_nil,aH]
  ·exact((hD3 d hd).keep azf (fun o e=>K36.kp _ o e (np3 _ (hf3 d hd).1)) (fun o e=>K36.kp _ o e (np3 _ (hf3 d hd).2.1))).congr (fun _=>rfl) (fun _ z=>absurd rfl z) rfl
  ·exact HA2.keep aze (fun z hz o e=>K26.kp _ o e (npA z hz))
end
end gH
namespace gH
open PySem L2
def ape(c:C4):Sp:=fun vs H Q _=>∃B n m S k a x se,∃tt:Nat,vs=[.ref (B .bf),.ref a]/\cD c H B n m S k/\H a=some (.tup (cG.vs x))/\jU n m S/\Bd tt S se/\tt<=1500/\k<=800000/\
 ∀v B' H',cD c H' B' n m (S.step n m x).1 (k+2)->TF H H' B n m->Tv H B B' n m->B' .bf=B .bf->Rep H' v (S.step n m x).2->Q v H'
theorem amJ(n m:Nat)(S:TS)(x:cG):ph n m S x=""\/ph n m S x="no desk"\/ph n m S x="no page"\/ph n m S x="waiting"\/ph n m S x="no copy"\/ph n m S x="no letter":=by
 unfold ph
 split
 ·cases x with
  | up d=>dsimp only;cases (S.up d.toNat).isEmpty<;>simp
  | down d=>dsimp only;cases (S.dn d.toNat).isEmpty<;>simp
  | rest d p =>
    dsimp only
    split
    ·cases decide ((S.ds d.toNat).rt p=.no)<;>simp
    ·simp
  | look d p =>
    dsimp only
    split
    ·cases (S.ds d.toNat).ws.isSome<;>simp
    ·simp
  | put d p y =>
    dsimp only
    split
    ·cases (S.ds d.toNat).ws.isSome<;>simp
    ·simp
 ·simp
section
variable{P:Program}{w:World}{K:PySem.W.Frag}{mg:Str->Option Value}{base:Heap}{t:Jh}
theorem ac8(T:Txt K w mg t):c7 P w K mg base nP 8 t.jc t.zE ["town","deed"] (ape (c4 t)):=by
 refine T.RC.ok acD (fun vs H Q E h=>?_) (fun cdv A outer s H vs Q E hr h=>?_)
 ·obtain⟨B,n,m,S,k,a,x,se,tt,rfl,_⟩:=h;rfl
 ·obtain⟨B,n,m,S,k,a,x,se,tt,rfl,TA,ha,I,bd,ht0,hk,fin⟩:=h
  obtain⟨dx,ht⟩:=TA.ob
  refine⟨_,(aC (aq7 PK (fun _ _=>(aC (bw (alj (pv 0) T.dC T.Tt (T9 T) (hr.mono (by decide):bQ 7 _) T.W6 (aa (pv 1) aq))))) (Wo PK (by rfl) T.afP T.WY (fun _=>(aC (bw aD))) (Wo PK (by rfl) T.afQ T.Ld (fun _=>(aC (bw aD))) (Wo PK (by rfl) T.abM T.xx (fun _=>(aC (bw aD))) (Wo PK (by rfl) T.afR T.xF (fun _=>(aC (bw aD))) (Wo PK (by rfl) T.W0 T.lQ (fun _=>(aC (bw aD))) aq6))))))),?_⟩
  try dsimp only[dw,Cx.kI]
  refine⟨_,rfl,B .bf,dx,_,rfl,ht,arM,_,rfl,B,n,m,S,k,a,x,se,tt,rfl,TA,ha,I,bd,ht0,hk,fun _ v B' H' T' f' tv' et' r'=>fin v B' H' T' f' tv' et' r',fun s es hs H' same=>?_⟩
  have out:Q (.str s) H':=by
   have st:=(agl (n:=n) (m:=m) (S:=S) (x:=x) (by rw[es];exact hs)).1
   rw[es]at st
   refine fin _ B H' ?_ (TF.of_same same) (Tv.refl _ _ _ _) rfl ?_
   ·rw[st];exact(TA.same same).more (by lia)
   ·rw[st];simp only[Rep]
  have hm:=amJ n m S x
  rw[es]at hm
  rcases hm with rfl | rfl | rfl | rfl | rfl | rfl
  ·exact absurd rfl hs
  ·rw[show xT t "no desk"=t.bc from amD]
   exact⟨t.bc,_,rfl,T.WY,bH (by simp) out⟩
  ·rw[show xT t "no page"=t.aW from amE]
   refine⟨t.aW,_,rfl,T.Ld,aP ?_ ⟨t.aW,_,rfl,T.Ld,bH (by simp) out⟩⟩
   have n1:=T.oW
   have n2:=T.eZ
   simp[n1,n2]
  ·rw[show xT t "waiting"=t.aM from amF]
   refine⟨t.aM,_,rfl,T.xx,aP ?_ ⟨t.aM,_,rfl,T.xx,aP ?_ ⟨t.aM,_,rfl,T.xx,bH (by simp) out⟩⟩⟩
   ·have n1:=T.mY
    have n2:=T.eZ
    simp[n1,n2]
   ·have n1:=T.mZ
    have n2:=T.gb
    simp[n1,n2]
  ·rw[show xT t "no copy"=t.aV from amG]
   refine⟨t.aV,_,rfl,T.xF,aP ?_ ⟨t.aV,_,rfl,T.xF,aP ?_ ⟨t.aV,_,rfl,T.xF,aP ?_ ⟨t.aV,_,rfl,T.xF,bH (by simp) out⟩⟩⟩⟩
   ·have n1:=T.oX
    have n2:=T.eZ
    simp[n1,n2]
   ·have n1:=T.oY
    have n2:=T.gb
    simp[n1,n2]
   ·have n1:=T.m5
    have n2:=T.iH
    simp[n1,n2]
  ·rw[show xT t "no letter"=t.aJ from aim]
   refine⟨t.aJ,_,rfl,T.lQ,aP ?_ ⟨t.aJ,_,rfl,T.lQ,aP ?_ ⟨t.aJ,_,rfl,T.lQ,aP ?_ ⟨t.aJ,_,rfl,T.lQ,aP ?_ ⟨t.aJ,_,rfl,T.lQ,bH (by simp) out⟩⟩⟩⟩⟩
   ·have n1:=T.lR
    have n2:=T.eZ
    simp[n1,n2]
   ·have n1:=T.lU
    have n2:=T.gb
    simp[n1,n2]
   ·have n1:=T.kO
    have n2:=T.iH
    simp[n1,n2]
   ·have n1:=T.lV
    have n2:=T.kW
    simp[n1,n2]
end
end gH
namespace gH
open PySem L2
def Qv(n m:Nat)(S:TS)(xs:List cG):TS:=xs.foldl (fun S x=>(S.step n m x).1) S
theorem Hc(n m:Nat)(S:TS)(xs:List cG)(x:cG):Qv n m S (xs++[x])=((Qv n m S xs).step n m x).1:=by unfold Qv;rw[List.foldl_append];rfl
theorem XQ{H:Hp}:∀{l:List cG} {vs:List V} {i:Nat} {v:V},aH H vs (l.map cG.d)->vs[i]? = some v->∃x,l[i]? = some x/\Rep H v x.d
 | [],vs,i,v,h,hv=>by simp only[List.map_nil,aH]at h;subst h;simp at hv
 | x::l,vs,i,v,h,hv=>by
   simp only[List.map_cons,aH]at h
   obtain⟨u,us,rfl,ru,rl⟩:=h
   cases i with
   | zero=>simp at hv;subst hv;exact⟨x,rfl,ru⟩
   | succ i=>simp at hv;obtain⟨x',h1,h2⟩:=XQ rl hv;exact⟨x',by simpa using h1,h2⟩
theorem jU.run{n m:Nat}:∀{xs:List cG} {S:TS},jU n m S->jU n m (Qv n m S xs)
 | [],S,h=>h
 | x::xs,S,h=>jU.run (xs:=xs) (h.step x)
theorem Bd.run{n m:Nat}:∀{xs:List cG} {S:TS} {k:Nat},Bd k S []->Bd (k+xs.length) (Qv n m S xs) []
 | [],S,k,h=>h
 | x::xs,S,k,h=>by
   have:=Bd.run (n:=n) (m:=m) (xs:=xs) (k:=k+1) ((h.step (n:=n) (m:=m) x).sent)
   rw[List.length_cons,show k+(xs.length+1)=k+1+xs.length by lia]
   exact this
end gH
namespace gH
open PySem L2
theorem D.atf(x:Int):(D.i x).size<=20:=by simp[D.size]
theorem UL.size(l:UL):l.d.size<=20:=by
 cases l with
 | ask p r=>simp[UL.d,D.size,D.sizes]
 | ans p o=>cases o<;>simp[UL.d,oD,D.size,D.sizes]
 | gave p n=>simp[UL.d,D.size,D.sizes]
theorem Let.size(l:Let):l.d.size<=20:=by cases l<;>simp[Let.d,D.size,D.sizes]
theorem cG.size(x:cG):x.d.size<=20:=by cases x<;>simp[cG.d,D.size,D.sizes]
theorem XR:∀xs:List cG,D.sizes (xs.map cG.d)<=21*xs.length
 | []=>by simp[D.sizes]
 | x::xs=>by
   have h1:=x.size
   have h2:=XR xs
   simp only[List.map_cons,D.sizes,List.length_cons]
   lia
theorem aH.drop{H:Hp}:∀(k:Nat) {ds:List D} {xs:List V},aH H xs ds->aH H (xs.drop k) (ds.drop k)
 | 0,ds,xs,h=>h
 | k+1,[],xs,h=>by simp only[aH]at h;subst h;simp[aH]
 | k+1,d::ds,xs,h=>by
   simp only[aH]at h
   obtain⟨v,us,rfl,_,rl⟩:=h
   exact aH.drop k rl
theorem aH.take{H:Hp}:∀(k:Nat) {ds:List D} {xs:List V},aH H xs ds->aH H (xs.take k) (ds.take k)
 | 0,ds,xs,h=>by simp[aH]
 | k+1,[],xs,h=>by simp only[aH]at h;subst h;simp[aH]
 | k+1,d::ds,xs,h=>by
   simp only[aH]at h
   obtain⟨v,us,rfl,rv,rl⟩:=h
   simp only[List.take_succ_cons,aH]
   exact⟨v,_,rfl,rv,aH.take k rl⟩
theorem DL.cut{H:Hp}{vs:List V}{k:Nat}(h:DL H vs k)(lo hi:Option Int):DL H (S7 vs lo hi) k:=by
 obtain⟨ds,r,l⟩:=h
 unfold S7
 refine⟨(ds.drop (HT.mz vs.length 0 lo)).take (HT.mz vs.length vs.length hi - HT.mz vs.length 0 lo),?_,?_⟩
 ·rw[List.map_take,List.map_drop]
  exact aH.take _ (aH.drop _ r)
 ·rw[List.length_take,List.length_drop];lia
end gH
namespace gH
open PySem L2
def agz(c:C4):Sp:=fun vs H Q _=>∃n:Nat,∃ns:List Int,∃l dl us xs,vs=[.int n,.ref l,.ref dl]/\H l=some (.lst (ns.map V.int))/\H dl=some (.lst us)/\aH H us (List.map cG.d xs)/\n<=1000/\ns.length<=1000/\xs.length<=1500/\
 ∀B H',bY H H'->cD c H' B n ns.length (Qv n ns.length (S0 ns) xs) (2*xs.length)->(∀x:Tb,x.ok n ns.length->H (B x)=none)->Q (.ref (B .bf)) H'
section
variable{P:Program}{w:World}{K:PySem.W.Frag}{mg:Str->Option Value}{base:Heap}{t:Jh}
theorem aah(T:Txt K w mg t):c7 P w K mg base nP 9 t.iz t.v8 ["count","numbers","deeds"] (agz (c4 t)):=by
 refine T.Ls.ok vZ (fun vs H Q E h=>?_) (fun cdv A outer s H vs Q E hr h=>?_)
 ·obtain⟨n,ns,l,dl,us,xs,rfl,_⟩:=h;rfl
 ·obtain⟨n,ns,l,dl,us,xs,rfl,hl,hdl,rd,hn,hns,hxs,fin⟩:=h
  refine⟨_,(ao (bh (i:=3) vZ.nd rfl (Or.inl rfl) (acf T.acH (ac7 T) (hr.mono (by decide):bQ 6 _) (by rfl) T.arX T.af6 .nil bU (aa (pv 0) (aa (pv 1) aq))))
   (ao (yK PassesOwn.never rfl (uD (pv 2)) (cU (i:=4) vZ.nd rfl (Or.inl rfl)) (aC (bO (cC (ac8 T) (hr.mono (by decide):bQ 8 _) (by rfl) T.af8 T.RC.kp T.af7 .nil bU (aa (pv 3) (aa (pv 4) aq))))))
   (aC (bw (pv 3))))),?_⟩
  try dsimp only[dw,Cx.kI]
  show let Z1:L2.TS:=_;let Z2:L2.TS:=_;let Z3:L2.TS:=ZF _ _ Z2;let Z4:L2.TS:=_;let D0:Ends:=_;(aR Z1 (aR Z3 (Z4))) D0 _ _
  intro Z1 Z2 Z3 Z4 D0
  refine⟨_,rfl,_,rfl,fun p dx hp hdx nx=>?_⟩
  refine⟨p,dx,l,n,ns,rfl,aj,?_,hn,hns,fun B H1 eB fr T1 k1=>⟨rfl,?_⟩⟩
  ·rw[az (aG hl hp),az (aG hl hdx)];exact hl
  have s1:bY H H1:=fun b o e=>k1.kp b o (by rw[az (aG e hp),az (aG e hdx)];exact e) (aG e hp)
  have fr1:∀x:Tb,x.ok n ns.length->H (B x)=none:=fun x hx=>by
   by_cases e:x=.bf
   ·rw[e,eB];exact hp
   ·exact Lv.upd _ (Lv.upd _ (fr x hx e))
  clear fr k1
  have hul:us.length=xs.length:=by rw[rd.length,List.length_map]
  refine⟨_,rfl,dl,rfl,⟨_,cu.of (s1 _ _ hdl)⟩,?_⟩
  let PV1:Nat->St->Hp->Prop:=fun i σ' H'=>(∃o,σ'=[some (.int n),some (.ref l),some (.ref dl),some (.ref p),o])/\i<=us.length/\bY H H'/\∃B':Tb->Addr,B' .bf=p/\cD (c4 t) H' B' n ns.length (Qv n ns.length (S0 ns) (xs.take i)) (2*i)/\(∀x:Tb,x.ok n ns.length->H (B' x)=none)
  refine wV (xs:=us) PV1 ?_ ?_ ?_ ?_
  ·exact⟨⟨_,rfl⟩,Nat.zero_le _,s1,B,eB,T1,fr1⟩
  ·rintro i σ' H' _ ⟨_,_,s',_⟩
   exact cu.of (s' _ _ hdl)
  ·rintro i y σ' H' hy ⟨⟨o,rfl⟩,hi,s',B',eB',T',fr'⟩
   have hi':i<us.length:=(List.getElem?_eq_some_iff.mp hy).1
   obtain⟨x,hx,rx⟩:=XQ (rd.aX (aY s') (bW cG.flat _)) hy
   obtain⟨a,rfl,hxa⟩:=agu rx
   have htk:xs.take (i+1)=xs.take i++[x]:=by rw[List.take_add_one,hx];rfl
   have hti:(xs.take i).length<=1500:=by rw[List.length_take];lia
   have bd:=Bd.run (n:=n) (m:=ns.length) (xs:=xs.take i) (Bd.start ns)
   rw[Nat.zero_add]at bd
   refine⟨_,rfl,_,rfl,B',n,ns.length,_,2*i,a,x,[],(xs.take i).length,(by rw[eB'];rfl),T',hxa,jU.run (jU.start n ns),bd,hti,by lia,fun v B2 H2 T2 f2 tv2 et2 r2=>?_⟩
   have s2:bY H H2:=fun b u e=>f2.kp _ _ (s' b u e) fun z hz e2=>by rw[e2,fr' z hz]at e;cases e
   refine⟨⟨_,rfl⟩,by lia,s2,B2,et2.trans eB',?_,fun z hz=>?_⟩
   ·rw[htk,Hc,show 2*(i+1)=2*i+2 by lia]
    exact T2
   ·rcases tv2 z hz with e | e
    ·rw[e];exact fr' z hz
    ·exact Lv.same s' _ e
  ·rintro σ' H' ⟨⟨o,rfl⟩,_,s',B',eB',T',fr'⟩
   rw[hul,List.take_length]at T'
   refine⟨_,rfl,?_⟩
   rw[<-eB']
   exact fin B' H' s' T' fr'
end
end gH
namespace gH
open PySem L2
def Bk(n:Nat)(S:TS):List Nat:=(List.range n).filter fun d=>(S.ds d).ws.isSome
def ako(c:C4):Sp:=fun vs H Q _=>∃B n m S k,vs=[.ref (B .bf)]/\cD c H B n m S k/\n<=1000/\∀l H',bY H H'->H l=none->H' l=some (.lst ((Bk n S).map nV))->Q (.ref l) H'
def Jx{α:Type}(n:Nat)(f:Nat->List α)(g:α->D):D:=.l ((List.range n).map fun d=>.l ((f d).map g))
def XS(n:Nat)(S:TS):D:=.t [.l ((Bk n S).map fun d:Nat=>.i d),Jx n S.up UL.d,Jx n S.dn Let.d]
def atg:Sp:=fun vs H Q _=>∃n:Nat,∃ns:List Int,∃l dl us xs,vs=[.int n,.ref l,.ref dl]/\H l=some (.lst (ns.map V.int))/\H dl=some (.lst us)/\aH H us (List.map cG.d xs)/\n<=1000/\ns.length<=1000/\xs.length<=1500/\
 ∀r zs H',bY H H'->H' r=some (.tup zs)->Rep H' (.ref r) (XS n (Qv n ns.length (S0 ns) xs))->Q (.ref r) H'
theorem zP(i:Nat)(S:TS):Bk (i+1) S=Bk i S++(if(S.ds i).ws.isSome then [i]else []):=by
 unfold Bk
 rw[List.range_succ,List.filter_append]
 congr 1
 simp only[List.filter_cons,List.filter_nil]
theorem Qw(i:Nat)(S:TS):(Bk i S).length<=i:=by
 unfold Bk
 refine Nat.le_trans (List.length_filter_le _ _) ?_
 rw[List.length_range];exact Nat.le_refl _
theorem uc{H:Hp}{f:Nat->V}{g:Nat->D}:∀{n:Nat},(∀d,d<n->Rep H (f d) (g d))->aH H ((List.range n).map f) ((List.range n).map g)
 | 0,_=>by simp[aH]
 | n+1,h=>by
   rw[List.range_succ,List.map_append,List.map_append]
   exact aH.snoc (uc fun d hd=>h d (by lia)) (h n (by lia))
theorem XX(H:Hp):∀l:List Nat,aH H (l.map nV) (l.map fun d:Nat=>D.i d)
 | []=>by simp[aH]
 | x::l=>by simp only[List.map_cons,aH];exact⟨_,_,rfl,by simp only[nV,Rep],XX H l⟩
section
variable{P:Program}{w:World}{K:PySem.W.Frag}{mg:Str->Option Value}{base:Heap}{t:Jh}
theorem Cw(T:Txt K w mg t):c7 P w K mg base nP 2 t.cP t.jE ["self"] (ako (c4 t)):=by
 refine T.Fd.ok Ce (fun vs H Q E h=>?_) (fun cdv A outer s H vs Q E hr h=>?_)
 ·obtain⟨B,n,m,S,k,rfl,_⟩:=h;rfl
 ·obtain⟨B,n,m,S,k,rfl,TA,hn,fin⟩:=h
  have sl:sizeLine=16777216:=by decide
  obtain⟨dx,ht⟩:=TA.ob
  refine⟨_,(aC (bw (lA (gF (xs:=["number","desk"]) (ys:=[]) (js:=[]) rfl (by decide +kernel) (by decide +kernel) (by decide +kernel) (by rfl) trivial) rfl (ai3 (by rfl) T.RJ (aa (cI (pv 0) (by rfl)) aq)) (fun _ _ _ _ _=>(ajc (K:=K) (n:=2) rfl rfl (gG (cU (i:=0) (show List.Nodup ((["number","desk"]:List Str)++([]:List Str):List Str)by decide +kernel) rfl (Or.inl rfl)) (gG (cU (i:=1) (show List.Nodup ((["number","desk"]:List Str)++([]:List Str):List Str)by decide +kernel) rfl (Or.inl rfl)) yH)))) (fun _ _ _ _ _=>(V0 (oG (pG (pv 1) T.dB T.Hv (HB T) (hr.mono (by decide):bQ 1 _) T.Lf .nil bU)))) (fun _ _ _ _ _=>(pv 0))))),?_⟩
  try dsimp only[dw,Cx.kI]
  refine⟨_,rfl,B .bf,_,dx,_,_,rfl,ht,T.dC,T.fL,rN,B .lq,rfl,⟨_,cu.of TA.ds⟩,fun acc hacc=>?_⟩
  refine abG (xs:=(List.range n).map fun d=>V.ref (B (.dk d))) (fun i zs σ' H'=>(∃o1 o2,σ'=[o1,o2])/\bY H H'/\H' acc=some (.lst zs)/\zs=(Bk i S).map nV) ?_ ?_ ?_ ?_
  ·exact⟨⟨_,_,rfl⟩,aB hacc,aj,rfl⟩
  ·rintro i zs σ' H' _ ⟨_,s',ha',_⟩
   exact⟨cu.of (s' _ _ TA.ds),ha'⟩
  ·rintro i y zs σ' H' b hy hi ⟨⟨o1,o2,rfl⟩,s',ha',rfl⟩ hb
   rw[List.length_map,List.length_range]at hi
   have hy':y=.ref (B (.dk i)):=by
    rw[List.getElem?_map,List.getElem?_range hi]at hy
    exact(Option.some.inj hy).symm
   subst hy'
   have TB:=(TA.same s').new (o:=.tup [.int i,.ref (B (.dk i))]) hb
   obtain⟨⟨wQ,wv,g1,_⟩,_⟩:=TB.dk i hi
   have sb:=aB (o:=.tup [.int i,.ref (B (.dk i))]) hb
   refine⟨b,_,rfl,di.of aj,rfl,_,_,rfl,_,_,rfl,rfl,?_⟩
   refine⟨_,rfl,B (.dk i),wQ,_,rfl,g1,eO _ _ (by decide +kernel) (by decide +kernel),B (.dk i),B (.cp i),S.ds i,k,rfl,TB.dk i hi,_,rfl,?_⟩
   have hl:=Qw i S
   cases hw:(S.ds i).ws with
   | none =>
     refine uB (KR.mk (by rw[List.length_map,List.length_range];exact hi) ?_)
     refine⟨⟨_,_,rfl⟩,s'.trans sb,sb _ _ ha',?_⟩
     rw[zP,hw];simp
   | some w' =>
     refine mG ?_
     refine⟨_,rfl,?_⟩
     refine wY.mk (by rw[List.length_map,List.length_range];exact hi) (sb _ _ ha') (by rw[List.length_map];lia) ?_
     refine⟨⟨_,_,rfl⟩,fC (s'.trans sb) hacc,aj,?_⟩
     rw[zP,hw,List.map_append];rfl
  ·rintro zs σ' H' ⟨_,s',ha',rfl⟩
   rw[List.length_map,List.length_range]at ha'
   exact fin acc H' s' hacc ha'
theorem aai(T:Txt K w mg t):c7 P w K mg base nP 10 t.iB t.v9 ["count","numbers","deeds"] atg:=by
 refine T.Lw.ok Ho (fun vs H Q E h=>?_) (fun cdv A outer s H vs Q E hr h=>?_)
 ·obtain⟨n,ns,l,dl,us,xs,rfl,_⟩:=h;rfl
 ·obtain⟨n,ns,l,dl,us,xs,rfl,hl,hdl,rd,hn,hns,hxs,fin⟩:=h
  refine⟨_,(ao (bh (i:=3) Ho.nd rfl (Or.inl rfl) (cC (aah T) (hr.mono (by decide):bQ 9 _) (by rfl) T.acP T.Ls.kp T.acO .nil bU (aa (pv 0) (aa (pv 1) (aa (pv 2) aq)))))
   (aC (bw (bZ (aa (pG (pv 3) T.dC T.Cr (Cw T) (hr.mono (by decide):bQ 2 _) T.Fe .nil bU) (aa (cI (pv 3) (by rfl)) (aa (cI (pv 3) (by rfl)) aq))))))),?_⟩
  try dsimp only[dw,Cx.kI]
  show let Z1:L2.TS:=_;let Z2:L2.TS:=_;let D0:Ends:=_;(aR Z1 (Z2)) D0 _ _
  intro Z1 Z2 D0
  refine⟨_,rfl,_,rfl,_,rfl,n,ns,l,dl,us,xs,rfl,hl,hdl,rd,hn,hns,hxs,fun B H1 s1 T1 fr1=>?_⟩
  obtain⟨dx,ht⟩:=T1.ob
  refine⟨_,rfl,B .bf,dx,_,rfl,ht,(by kernel_rfl),B,n,ns.length,_,_,rfl,T1,hn,fun wl H2 s2 hwl hw2=>?_⟩
  have T2:=T1.same s2
  obtain⟨dx2,ht2⟩:=T2.ob
  refine⟨_,rfl,B .bf,_,dx2,_,_,rfl,ht2,T.dC,T.fG,V2,_,rfl,B .bf,_,dx2,_,_,rfl,ht2,T.dC,T.fH,PN,Zy,fun r hr3=>?_⟩
  have s3:=aB (o:=.tup [.ref wl,.ref (B .ups),.ref (B .downs)]) hr3
  have T3:=T2.same s3
  refine fin r _ _ ((s1.trans s2).trans s3) aj ?_
  simp only[XS,Jx,Rep,aH]
  refine⟨r,_,rfl,aj,_,_,rfl,⟨wl,_,rfl,s3 _ _ hw2,XX _ _⟩,_,_,rfl,⟨B .ups,_,rfl,T3.us,uc fun d hd=>?_⟩,_,_,rfl,⟨B .downs,_,rfl,T3.os,uc fun d hd=>?_⟩,rfl⟩
  ·obtain⟨vs,e1,e2⟩:=T3.up d hd
   simp only[Rep];exact⟨_,vs,rfl,e1,e2⟩
  ·obtain⟨vs,e1,e2⟩:=T3.dn d hd
   simp only[Rep];exact⟨_,vs,rfl,e1,e2⟩
end
end gH
namespace gH
open PySem L2
def ajz(K:PySem.W.Frag):Sp:=fun vs H Q _=>∃(a:Addr) (ns:List Int),vs=[.ref a]/\cu K H a (ns.map V.int)/\ns.length<=63/\∀H',Q (.bl true) H'
theorem Mj{H H':Hp}(h:bY H H'):uF H H':=⟨fun b xs e=>h b _ e,fun b xs e=>h b _ e⟩
theorem jh:∀a b:List D,D.sizes (a++b)=D.sizes a+D.sizes b
 | [],b=>by simp[D.sizes]
 | x::a,b=>by simp only[List.cons_append,D.sizes,jh a b];lia
theorem zQ{α:Type}{g:α->D}{k:Nat}(h:∀x,(g x).size<=k):∀l:List α,D.sizes (l.map g)<=(k+1)*l.length
 | []=>by simp[D.sizes]
 | x::l=>by
   have h1:=h x
   have h2:=zQ h l
   simp only[List.map_cons,D.sizes,List.length_cons,Nat.mul_succ]
   lia
theorem Jy{α:Type}(f:Nat->List α){g:α->D}(h:∀x,(g x).size<=20):∀n:Nat,(Jx n f g).size<=10+10*n+21*qg n (fun d=>(f d).length)
 | 0=>by simp[Jx,D.size,D.sizes];lia
 | n+1=>by
   have h1:=Jy f h n
   have h2:=zQ h (f n)
   rw[km]
   unfold Jx at h1 ⊢
   rw[List.range_succ,List.map_append]
   simp only[D.size,jh,List.map_cons,List.map_nil,D.sizes]at h1 ⊢
   lia
theorem akp{n m t:Nat}{S:TS}{se:List (Nat×Let)}(q:Qn n m t S se)(hn:n<=20)(ht:t<=900):(XS n S).size<=1000000:=by
 have h1:=Jy S.up UL.size n
 have h2:=Jy S.dn Let.size n
 have h3:D.sizes ((Bk n S).map fun d:Nat=>D.i d)<=21*(Bk n S).length:=zQ (g:=fun d:Nat=>D.i d) (k:=20) (fun x=>D.atf x) (Bk n S)
 have h4:=Qw n S
 have h5:=q.up
 have h6:=q.dn
 have h7:(n+2)*t<=22*900:=Nat.mul_le_mul (by lia) ht
 have h8:=q.ps
 unfold XS
 simp only[D.size,D.sizes]
 lia
theorem Qn.start(n:Nat)(ns:List Int):Qn n ns.length 0 (S0 ns) [] where
 rd:=fun p=>⟨List.nodup_nil,fun x hx=>(nomatch hx),fun z=>rfl,fun x hx=>(nomatch hx),fun x hx=>(nomatch hx)⟩
 ps:=by
  have:qg ns.length (fun p=>((S0 ns).pg p).ask.length)=0:=by
   have:∀k,qg k (fun p=>((S0 ns).pg p).ask.length)=0:=fun k=>by
    induction k with
    | zero=>rfl
    | succ k ih=>rw[km,ih];rfl
   exact this _
  rw[this];exact Nat.zero_le _
 dn:=by
  have:∀k,qg k (fun d=>((S0 ns).dn d).length)=0:=fun k=>by
   induction k with
   | zero=>rfl
   | succ k ih=>rw[km,ih];rfl
  rw[this];exact Nat.zero_le _
 up:=by
  have:∀k,qg k (fun d=>((S0 ns).up d).length)=0:=fun k=>by
   induction k with
   | zero=>rfl
   | succ k ih=>rw[km,ih];rfl
  rw[this];exact Nat.zero_le _
section
variable{P:Program}{w:World}{K:PySem.W.Frag}{mg:Str->Option Value}{base:Heap}{t:Jh}
theorem ath(T:Txt K w mg t):c7 P w K mg base nP 11 t.WX t.ah5 ["_law_script"] (ajz K):=by
 refine T.au4.ok lK (fun vs H Q E h=>?_) (fun cdv A outer s H vs Q E hr h=>?_)
 ·obtain⟨a,ns,rfl,_⟩:=h;rfl
 ·obtain⟨a,ns,rfl,ha,hl,q⟩:=h
  have hu:=kZ hr
  refine' ⟨_,?sr,?_⟩
  case' sr=>refine' ao ?Xw ?Jr
  case' Jr=>refine' ao ?Xx ?Js
  case' Js=>refine' ao ?Xy ?Jt
  case' Jt=>refine' ao ?Xz ?XC
  case' XC=>refine' ao ?agp ?XD
  case' XD=>refine' ao ?agq ?XF
  case' XF=>refine' ao ?agr ?aif
  case' aif=>refine' ao ?amo ?aih
  case' aih=>refine' ao ?amq ?aii
  case' aii=>refine' ao ?amr ?aij
  case' aij=>refine' ao ?aik ?apf
  case' apf=>refine' ao ?ati ?apg
  case' apg=>refine' ao ?atj ?aph
  case' aph=>refine' aC ?atk
  case' Xw=>exact(bh (i:=1) lK.nd rfl (Or.inl rfl) (cC (Ha T) (hr.mono (by decide):bQ 1 _) (by rfl) T.Ql T.Jo.kp T.Qk .nil bU (aa (pv 0) (aa aA aq))))
  case' Xx=>exact(bh (i:=2) lK.nd rfl (Or.inl rfl) (aN bB (bN (aa (bF jg aA (bF eN (pv 1) aA)) (aa (bF jg aA (bF eN (bF iK (pv 1) aA) aA)) aq))) (iQ lW (by rfl) T.LQ PyProof.Rows.Boot.«int» (aa (mC cQ (bF eN (bF iK (pv 1) aA) aA) aA (bj _)) aq)) (fun _ _=>rfl)))
  case' Xy=>exact(bh (i:=3) lK.nd rfl (Or.inl rfl) (aN bB (bN (aa (bF jg aA (bF eN (bF iK (pv 1) aA) aA)) (aa (bF jg aA (bF eN (bF iK (pv 1) aA) aA)) aq))) (iQ lW (by rfl) T.LQ PyProof.Rows.Boot.«int» (aa (mC cQ (bF eN (bF iK (pv 1) aA) aA) aA (bj _)) aq)) (fun _ _=>rfl)))
  case' Xz=>exact(bh (i:=4) lK.nd rfl (Or.inl rfl) (cC (T6 T) (hr.mono (by decide):bQ 1 _) (by rfl) T.Xj T.Fg.kp T.Xi .nil bU (aa (cC (Ha T) (hr.mono (by decide):bQ 1 _) (by rfl) T.Ql T.Jo.kp T.Qk .nil bU (aa (pv 0) (aa aA aq))) (aa (pv 3) aq))))
  case' agp=>exact(bh (i:=5) lK.nd rfl (Or.inl rfl) (cC (aag T) (hr.mono (by decide):bQ 1 _) (by rfl) T.acV T.LK.kp T.acU .nil bU (aa (Wi aiU (pv 0) (ach aA) acg) (aa (pv 2) (aa (pv 3) aq)))))
  case' agq=>refine' cg (aU cQ (bF eN (bF iK (cC (Ha T) (hr.mono (by decide):bQ 1 _) (by rfl) T.Ql T.Jo.kp T.Qk .nil bU (aa (pv 0) (aa aA aq))) aA) aA) aA (bj _)) ?aww ?awx
  case' aww=>refine' ao ?XH ?XJ
  case' XJ=>refine' ao ?ags ?ail
  case' ail=>refine' aC ?amw
  case' XH=>exact(bh (i:=6) lK.nd rfl (Or.inl rfl) (cC (Qt T) (hr.mono (by decide):bQ 1 _) (by rfl) T.TV T.Bc.kp T.TQ .nil bU (aa (pv 2) (aa (cC (Ha T) (hr.mono (by decide):bQ 1 _) (by rfl) T.Ql T.Jo.kp T.Qk .nil bU (aa (pv 0) (aa aA aq))) aq))))
  case' ags=>exact(bh (i:=5) lK.nd rfl (Or.inl rfl) (bF mD (pv 6) (pv 5)))
  case' amw=>exact(cg (aU cQ (bF eN (bF iK (cC (Ha T) (hr.mono (by decide):bQ 1 _) (by rfl) T.Ql T.Jo.kp T.Qk .nil bU (aa (pv 0) (aa aA aq))) aA) aA) aA (bj _)) (aC (bh (i:=5) lK.nd rfl (Or.inl rfl) (Wi aiU (pv 6) acg (ach (bF jg (bF jg (bF vN aA (pv 2)) aA) (bF eN (bF iK (cC (Ha T) (hr.mono (by decide):bQ 1 _) (by rfl) T.Ql T.Jo.kp T.Qk .nil bU (aa (pv 0) (aa aA aq))) aA) aA)))))) bC)
  case' awx=>exact bC
  case' agr=>exact(bh (i:=7) lK.nd rfl (Or.inl rfl) (iQ yM (by rfl) T.Qp PyProof.Rows.Boot.«list» (aa (pv 4) aq)))
  case' amo=>exact(bh (i:=8) lK.nd rfl (Or.inl rfl) (iQ yM (by rfl) T.Qp PyProof.Rows.Boot.«list» (aa (pv 5) aq)))
  case' amq=>exact(bh (i:=9) lK.nd rfl (Or.inl rfl) (cC (aai T) (hr.mono (by decide):bQ 10 _) (by rfl) T.acR T.Lw.kp T.acQ .nil bU (aa (pv 2) (aa (pv 7) (aa (pv 8) aq)))))
  case' amr=>exact(cg (PW.pt (wU (IW (oG (cC (Qs T) (hr.mono (by decide):bQ 2 _) (by rfl) T.Xd T.Lx.kp T.Xc .nil bU (aa (pv 7) (aa (pv 4) aq))))) (qe (IW (oG (cC (Qs T) (hr.mono (by decide):bQ 2 _) (by rfl) T.Xd T.Lx.kp T.Xc .nil bU (aa (pv 8) (aa (pv 5) aq)))))))) (aC (bw V6)) bC)
  case' aik=>exact(bh (i:=10) lK.nd rfl (Or.inr rfl) (cC (ac5 T) (hr.mono (by decide):bQ 1 _) (by rfl) T.aga T.RD.kp T.af9 .nil bU (aa (pv 2) (aa (pv 4) aq))))
  case' ati=>refine' yK PassesOwn.never rfl (uD (pv 5)) (cU (i:=11) lK.nd rfl (Or.inl rfl)) ?atl
  case' atl=>refine' aC ?agv
  case' agv=>exact(bO (cC (aaf T) (hr.mono (by decide):bQ 4 _) (by rfl) T.acT T.LC.kp T.acS .nil bU (aa (pv 10) (aa (pv 11) aq))))
  case' atj=>exact(ahL (i:=12) lK.nd rfl rfl (gF (xs:=["_law_desk"]) (ys:=["_law_town"]) (js:=[10]) rfl (by decide +kernel) (by decide +kernel) (by decide +kernel) (by rfl) ⟨⟨rfl,Or.inl rfl⟩,trivial⟩) rfl (gU (by rfl) T.lD (aa (pv 2) aq)) (fun _ _ _ _ _=>(cU (i:=0) (show List.Nodup ((["_law_desk"]:List Str)++(["_law_town"]:List Str):List Str)by decide +kernel) rfl (Or.inl rfl))) (fun _ _ _ _ _=>(V0 (rQ (qT (aN (ap9 (K:=K) (r:=ahD) bB rfl) (bG hu (pv 1) aD (fun _ _=>rfl)) (pv 0) (fun _ _=>rfl)))))) (fun _ _ _ _ _=>(pv 0)))
  case' atk=>exact(bw (ahr (dM lg (by rfl) T.fM PyProof.Rows.Boot.«isinstance» (aa (pv 9) (aa (rR (by rfl) T.V4 PyProof.Rows.Boot.«tuple») aq))) (aca (cC (Qs T) (hr.mono (by decide):bQ 2 _) (by rfl) T.Xd T.Lx.kp T.Xc .nil bU (aa (pv 9) (aa (bZ (aa (pv 12) (aa (bG hu (pv 10) aD (fun _ _=>rfl)) (aa (bG hu (pv 10) aD (fun _ _=>rfl)) aq)))) aq))))))
  try dsimp only[dw,Cx.kI]
  show let Z1:L2.TS:=_;let Z2:L2.TS:=_;let Z3:L2.TS:=_;let Z4:L2.TS:=_;let Z5:L2.TS:=_;let Z6:L2.TS:=_;let Z7:L2.TS:=_;let Z8:L2.TS:=_;let Z9:L2.TS:=dg _ Z8 bK;let Bh:L2.TS:=aR Z6 (aR Z7 (Z9));let Mh:L2.TS:=dg _ Bh bK;let Mi:L2.TS:=_;let RL:L2.TS:=_;let RM:L2.TS:=_;let Z15:L2.TS:=_;let Z16:L2.TS:=dg _ Z15 bK;let Z17:L2.TS:=_;let Z18:L2.TS:=_;let Z19:L2.TS:=ZF _ _ Z18;let Z20:L2.TS:=_;let Z21:L2.TS:=_;let D0:Ends:=_;(aR Z1 (aR Z2 (aR Z3 (aR Z4 (aR Z5 (aR Mh (aR Mi (aR RL (aR RM (aR Z16 (aR Z17 (aR Z19 (aR Z20 (Z21)))))))))))))) D0 _ _
  intro Z1 Z2 Z3 Z4 Z5 Z6 Z7 Z8 Z9 Bh Mh Mi RL RM Z15 Z16 Z17 Z18 Z19 Z20 Z21 D0
  refine⟨_,rfl,a,ns,0,rfl,ha,by decide,fun z=>?_⟩
  obtain⟨n,hn0,hn1,hn⟩:=amy (1+z % 4) (9+z / 288 % 12) (by lia) (by lia) (decide (V.int (z / 36 % 8)=V.int 1))
  obtain⟨m,hm0,hm1,hm⟩:=amy (1+z / 4 % 3) (8+z / 288 % 13) (by lia) (by lia) (decide (V.int (z / 36 % 8)=V.int 2))
  refine⟨_,rfl,_,_,rfl,rfl,(show(0:Int)<4 by decide),_,_,rfl,rfl,_,rfl,_,_,rfl,rfl,⟨by decide,by decide⟩,_,_,rfl,rfl,(show(0:Int)<12 by decide),_,_,rfl,rfl,uA,fun l1 hl1=>?_⟩
  refine⟨_,rfl,_,_,rfl,rfl,⟨by decide,by decide⟩,_,_,rfl,rfl,(show(0:Int)<8 by decide),rfl,.inr ⟨_,rfl,l1,_,_,_,rfl,rfl,cu.of aj,hn,?_⟩⟩
  refine⟨_,rfl,_,_,rfl,rfl,⟨by decide,by decide⟩,_,_,rfl,rfl,(show(0:Int)<3 by decide),_,_,rfl,rfl,_,rfl,_,_,rfl,rfl,⟨by decide,by decide⟩,_,_,rfl,rfl,(show(0:Int)<13 by decide),_,_,rfl,rfl,uA,fun l2 hl2=>?_⟩
  refine⟨_,rfl,_,_,rfl,rfl,⟨by decide,by decide⟩,_,_,rfl,rfl,(show(0:Int)<8 by decide),rfl,.inr ⟨_,rfl,l2,_,_,_,rfl,rfl,cu.of aj,hm,?_⟩⟩
  have s1:=(aB (o:=.lst [.int (1+z % 4),.int (9+z / 288 % 12)]) hl1).trans (aB (o:=.lst [.int (1+z / 4 % 3),.int (8+z / 288 % 13)]) hl2)
  generalize upd (upd H l1 (.lst [.int (1+z % 4),.int (9+z / 288 % 12)])) l2 (.lst [.int (1+z / 4 % 3),.int (8+z / 288 % 13)])=H1 at s1
  have ha1:=cu.same ha s1
  refine⟨_,rfl,a,ns,1,rfl,ha1,by decide,fun z1=>⟨_,rfl,z1,m,rfl,by lia,fun nl nums H2 hnum hnl s2 awy=>?_⟩⟩
  have s02:=s1.trans s2
  have ha2:=cu.same ha s02
  obtain⟨cells,azg,hcl⟩:=amz ns (some 2) none
  refine⟨_,rfl,_,rfl,a,_,rfl,ha2,fun sl hsl=>?_⟩
  have s3:=aB (o:=.lst (S7 (ns.map V.int) (some 2) none)) hsl
  refine⟨_,rfl,_,rfl,sl,n,m,cells,rfl,by rw[<-azg];exact aj,hn0,by lia,hm0,by lia,by lia,fun al us H4 hal s4 atm dl4=>?_⟩
  have s24:=s3.trans s4
  have api:=s24 _ _ awy
  have s04:=s02.trans s24
  clear s3 s4 hsl hal
  dsimp only
  refine fW (fun σ' H'=>∃al us o,σ'=[some (.ref a),some (.int z),some (.int n),some (.int m),some (.ref nl),some (.ref al),o,none,none,none,none,none,none]/\bY H H'/\H' nl=some (.lst (nums.map V.int))/\H' al=some (.lst us)/\DL H' us 900) (fun N hN=>?_) ?_
  ·refine⟨_,rfl,a,ns,0,rfl,cu.same ha s04,by decide,fun z2=>⟨_,_,rfl,rfl,⟨by decide,by decide⟩,_,_,rfl,rfl,(show(0:Int)<3 by decide),rfl,_,rfl,?_⟩⟩
   by_cases e3:z2 / 12 % 3=1
   ·refine bH (abU e3) ?_
    refine⟨_,rfl,_,rfl,a,ns,1,rfl,cu.same ha s04,by decide,fun z3=>⟨n,z3,rfl,by lia,fun fl fs H5 hfl s5 awz dl5=>?_⟩⟩
    have awA:=dl4.aX (aY s5)
    have l1:=dl5.len
    have l2:=awA.len
    have sl:sizeLine=16777216:=by decide
    refine⟨_,rfl,_,rfl,fl,al,fs,us,rfl,rfl,awz,s5 _ _ atm,by lia,fun al2 avj=>?_⟩
    have s6:=aB (o:=.lst (fs++us)) avj
    have s06:=(s04.trans s5).trans s6
    refine⟨_,rfl,a,ns,1,rfl,cu.same ha s06,by decide,fun z4=>⟨_,_,rfl,rfl,⟨by decide,by decide⟩,_,_,rfl,rfl,(show(0:Int)<2 by decide),rfl,_,rfl,?_⟩⟩
    have cm3:ajO 3 (n:Int):=by
     exact .inl ⟨by decide,by decide⟩
    by_cases e4:z4 / 6 % 2=1
    ·refine bH (abU e4) ?_
     refine⟨_,rfl,_,rfl,_,_,rfl,rfl,cm3,_,_,rfl,rfl,_,rfl,a,ns,1,rfl,cu.same ha s06,by decide,fun z5=>⟨_,_,rfl,rfl,⟨by decide,by decide⟩,_,_,rfl,rfl,(show(0:Int)<3 by decide),_,_,rfl,rfl,_,rfl,fl,_,rfl,cu.of (s6 _ _ awz),fun cl hcl=>?_⟩⟩
     exact hN _ _ ⟨cl,_,_,rfl,s06.trans (aB hcl),aB hcl _ _ (s6 _ _ (s5 _ _ api)),aj,(((dl5.aX (aY s6)).cut none (some _)).more (by lia)).aX (aY (aB hcl))⟩
    ·refine aP (abV e4) ?_
     exact hN _ _ ⟨al2,fs++us,_,rfl,s06,s6 _ _ (s5 _ _ api),aj,((dl5.append awA).more (by lia)).aX (aY s6)⟩
   ·refine aP (abV e3) ?_
    exact hN _ _ ⟨al,us,_,rfl,s04,api,atm,dl4.more (by lia)⟩
  ·clear s1 s2 s02 s24 s04 awy api atm dl4 ha1 ha2
   rintro σ' H5 ⟨al,us,o6,rfl,s05,atn,ato,dl5⟩
   obtain⟨xs,rx,hxl⟩:=dl5
   refine⟨_,rfl,nl,_,rfl,.inl (cu.of atn),fun ol hol=>?_⟩
   have s6:=aB (o:=.lst (nums.map V.int)) hol
   have apj:upd H5 ol (.lst (nums.map V.int)) ol=some (.lst (nums.map V.int)):=aj
   generalize upd H5 ol (.lst (nums.map V.int))=H6 at s6 apj
   refine⟨_,rfl,al,_,rfl,.inl (cu.of (s6 _ _ ato)),fun hl hhl=>?_⟩
   have s7:=aB (o:=.lst us) hhl
   have apk:upd H6 hl (.lst us) hl=some (.lst us):=aj
   generalize upd H6 hl (.lst us)=H7 at s7 apk
   have s57:=s6.trans s7
   have rx7:=rx.aX (aY s57) (bW cG.flat _)
   refine⟨_,rfl,_,rfl,_,rfl,n,nums,ol,hl,us,xs,rfl,s7 _ _ apj,apk,rx7,by lia,by lia,by lia,fun r zs H8 s8 hz8 rz8=>?_⟩
   have s58:=s57.trans s8
   have rx8:=rx7.aX (aY s8) (bW cG.flat _)
   have atp:=s58 _ _ atn
   have atq:=s58 _ _ ato
   have awB:=s8 _ _ (s7 _ _ apj)
   have awC:=s8 _ _ apk
   have z1:=ints_size nums
   have z2:=XR xs
   refine⟨_,rfl,_,rfl,.ref ol,.ref nl,.l (nums.map D.i),rfl,?_,?_,?_,fun H9 s9=>?_⟩
   ·simp only[Rep];exact⟨ol,_,rfl,awB,ints_rep _ _⟩
   ·simp only[Rep];exact⟨nl,_,rfl,atp,ints_rep _ _⟩
   ·simp only[D.size];lia
   have rx9:=rx8.aX (aY s9) (bW cG.flat _)
   refine⟨_,rfl,aP rfl ?_⟩
   refine⟨_,rfl,_,rfl,.ref hl,.ref al,.l (xs.map cG.d),rfl,?_,?_,?_,fun H10 s10=>?_⟩
   ·simp only[Rep];exact⟨hl,_,rfl,s9 _ _ awC,rx9⟩
   ·simp only[Rep];exact⟨al,_,rfl,s9 _ _ atq,rx9⟩
   ·simp only[D.size];lia
   refine⟨_,rfl,aP rfl ?_⟩
   have amK:=s9.trans s10
   have awD:=rx9.aX (aY s10) (bW cG.flat _)
   have awE:=amK _ _ atp
   have aqt:=amK _ _ atq
   have atr:=rz8.mono (Mj amK)
   have azl:=amK _ _ hz8
   clear s6 s7 s57 s58 s9 s10 amK rx rx7 rx8 rx9 atp atq awB awC apj apk hol hhl atn ato s05 s8 rz8 hz8
   refine⟨_,rfl,_,rfl,n,nl,nums,rfl,awE,by lia,by lia,fun AM H11 M11 s11 n11=>?_⟩
   rw[hnum]at M11 n11 atr
   have hul:us.length=xs.length:=by rw[awD.length,List.length_map]
   have azm:=awD.aX (aY s11) (bW cG.flat _)
   have awF:=s11 _ _ aqt
   refine⟨_,rfl,al,rfl,⟨_,cu.of awF⟩,?_⟩
   let PV1:Nat->St->Hp->Prop:=fun i σ' H'=>(∃o,σ'=[some (.ref a),some (.int z),some (.int n),some (.int m),some (.ref nl),some (.ref al),o6,some (.ref ol),some (.ref hl),some (.ref r),some (.ref (AM .bf)),o,none])/\i<=us.length/\b8 H11 H'/\(∀b o,H10 b=some o->H' b=some o)/\∃A' se,A' .bf=AM .bf/\aZ H' A' n m (Qv n m (S0 nums) (xs.take i)) se/\Bd (xs.take i).length (Qv n m (S0 nums) (xs.take i)) se/\Qn n m (xs.take i).length (Qv n m (S0 nums) (xs.take i)) se/\(∀x:Mb,x.ok n m->H10 (A' x)=none)
   refine wV (xs:=us) PV1 ?_ ?_ ?_ ?_
   ·refine⟨⟨_,rfl⟩,Nat.zero_le _,fun _ _ e=>e,fun b o e=>s11 b o e,AM,[],rfl,M11,Bd.start nums,?_,n11⟩
    have:=Qn.start n nums
    rw[hnum]at this
    exact this
   ·rintro i σ' H' _ ⟨_,_,_,k',_⟩
    exact cu.of (k' _ _ aqt)
   ·rintro i y σ' H' hy ⟨⟨o,rfl⟩,hi,tt,k',A',se,eA,M',bd,qn,fr'⟩
    have hi':i<us.length:=(List.getElem?_eq_some_iff.mp hy).1
    obtain⟨x,hx,rxx⟩:=XQ (azm.aX tt (bW cG.flat _)) hy
    obtain⟨b,rfl,hxa⟩:=agu rxx
    have htk:xs.take (i+1)=xs.take i++[x]:=by rw[List.take_add_one,hx];rfl
    have hti:(xs.take i).length<=1500:=by rw[List.length_take];lia
    have I:=jU.run (n:=n) (xs:=xs.take i) (jU.start n nums)
    rw[hnum]at I
    refine⟨_,rfl,_,rfl,A',n,m,_,se,b,x,_,(by rw[eA];rfl),M',hxa,I,bd,hti,fun v A2 H2 M2 f2 v2 r2=>?_⟩
    have k2:∀b o,H10 b=some o->H2 b=some o:=fun b u e=>f2.kp _ _ (k' b u e) fun z hz e2=>by rw[e2,fr' z hz]at e;cases e
    have fr2:∀z:Mb,z.ok n m->H10 (A2 z)=none:=fun z hz=>by
     rcases v2 z hz with e | ⟨_,e⟩
     ·rw[e];exact fr' z hz
     ·cases q:H10 (A2 z)with
      | none=>rfl
      | some u=>rw[k' _ _ q]at e;cases e
    have bd2:=bd.step (n:=n) (m:=m) x
    have qn2:=qn.step I x
    refine⟨⟨_,rfl⟩,by lia,fun b xs e=>f2.tups M' _ _ (tt _ _ e),k2,A2,se++(Qv n m (S0 nums) (xs.take i)).iT n x,(v2.bf).trans eA,?_,?_,?_,fr2⟩
    ·rw[htk,Hc];exact M2
    ·rw[htk,Hc,List.length_append];exact bd2
    ·rw[htk,Hc,List.length_append];exact qn2
   ·rintro σ' H' ⟨⟨o,rfl⟩,_,tt,k',A',se,eA,M',bd,qn,fr'⟩
    rw[hul,List.take_length]at M' bd qn
    generalize hS:Qv n m (S0 nums) xs=S at M' bd qn atr
    have nb : -(2 ^ 62)<=((n:Nat):Int)/\((n:Nat):Int)<2 ^ 62:=⟨by lia,by lia⟩
    have sl:sizeLine=16777216:=by decide
    obtain⟨ws,w1,w2,w3⟩:=M'.dF
    rw[<-eA]
    refine⟨_,rfl,(n:Int),rfl,nb.1,nb.2,fun acc hacc=>?_⟩
    rw[Int.toNat_natCast]
    let PV2:Nat->List V->St->Hp->Prop:=fun i ys σ' H2=>(∃o,σ'=[o,some (.ref (A' .bf))])/\bY H' H2/\H2 acc=some (.lst ys)/\ys=(Bk i S).map nV
    refine yP PV2 ?_ ?_ ?_ ?_
    ·exact⟨⟨_,rfl⟩,aB hacc,aj,rfl⟩
    ·rintro i ys σ' H2 _ ⟨_,_,h,_⟩
     exact h
    ·rintro i ys σ' H2 hi ⟨⟨o,rfl⟩,s2,ha2,rfl⟩
     rw[Int.zero_add]
     have M2:=M'.same s2
     obtain⟨v,v1,v2⟩:=w3 i hi
     have hl:=Qw i S
     refine zd rfl (eG M2.bf lG) ⟨_,rfl,A' .dF,ws,_,v,rfl,rfl,cu.of (s2 _ _ w1),yL v1,?_⟩
     cases hw:(S.ds i).ws with
     | none =>
       rw[hw]at v2
       have ev:v=.non:=v2
       subst ev
       refine⟨_,rfl,uB (KR.mk hi ?_)⟩
       refine⟨⟨_,rfl⟩,s2,ha2,?_⟩
       rw[zP,hw];simp
     | some w' =>
       rw[hw]at v2
       obtain⟨b,ev,_⟩:=v2
       subst ev
       refine⟨_,rfl,mG ?_⟩
       refine⟨_,rfl,?_⟩
       refine wY.mk hi ha2 (by rw[List.length_map];lia) ?_
       refine⟨⟨_,rfl⟩,fC s2 hacc,aj,?_⟩
       rw[zP,hw,List.map_append];rfl
    ·rintro ys σ' H2 ⟨_,s2,ha2,rfl⟩
     have M2:=M'.same s2
     have hz2:=s2 _ _ (k' _ _ azl)
     have rz2:Rep H2 (.ref r) (XS n S):=(atr.mono (Mj (fun b o e=>k' b o e))).mono (Mj s2)
     refine⟨_,rfl,_,_,_,true,rfl,.tup hz2,.inl ⟨_,rfl,ahO⟩,_,rfl,mG ?_⟩
     refine⟨_,rfl,_,rfl,zd rfl (eG M2.bf G8) (zd rfl (eG M2.bf xm) ⟨Zy,fun r3 hr3=>?_⟩)⟩
     have s3:=aB (o:=.tup [.ref acc,.ref (A' .ups),.ref (A' .downs)]) hr3
     have M3:=M2.same s3
     refine⟨.ref r,.ref r3,XS n S,rfl,rz2.mono (Mj s3),?_,akp qn hn1 (by lia),fun H12 _=>q H12⟩
     simp only[XS,Jx,Rep,aH]
     refine⟨r3,_,rfl,aj,_,_,rfl,⟨acc,_,rfl,s3 _ _ ha2,XX _ _⟩,_,_,rfl,⟨A' .ups,_,rfl,M3.ups,uc fun d hd=>?_⟩,_,_,rfl,⟨A' .downs,_,rfl,M3.downs,uc fun d hd=>?_⟩,rfl⟩
     ·obtain⟨vs,e1,e2⟩:=M3.up hd
      simp only[Rep];exact⟨_,vs,rfl,e1,e2⟩
     ·obtain⟨vs,e1,e2⟩:=M3.dn hd
      simp only[Rep];exact⟨_,vs,rfl,e1,e2⟩
end
end gH
namespace H1
open PySem PySem.W PyProof.Rows
abbrev pw:=PySem.Challenge.pw_copydesks_k06_what_is_left
abbrev rw_:=PySem.Challenge.rw_copydesks_k06_what_is_left
theorem said:OpenLaw.wellSaid rw_=true:=(congrFun Fast.te9446332074065402090 rw_).trans (by kernel_rfl)
def q:Program:=view pw [0,2,3,4,5,6,7,9,10,11,12,13,14,15,16,18,19,20,21,23,24,26,27,28,30,31,32,34,35,36,37,38,39,40,41,42,43,44,45,46,47,48,49,50]
theorem dkh:(defOf q "law").isSome=true:=by kernel_rfl
def dk:=((defOf q "law").get dkh).1
def d:DefRec:={dk with name:="law"}
theorem hdef:defOf q "law"=some (d,[]):=by kernel_rfl
theorem hp:pw.theDef "law"=some (d.params,d.body,d.scope):=by kernel_rfl
theorem hk:kwWritten? d.params.kwonlyargs d.params.kw_defaults=some []:=by kernel_rfl
theorem hdf:d.params.defaults=[]:=by kernel_rfl
theorem ok:(chainsOk q && opensWell pw && (frees rw_.row.toRowW && rw_.row.toRowW.within.isEmpty))=true:=by kernel_rfl
theorem op1:opening pw=plainProg pw.main.scope.names:=by kernel_rfl
theorem op2:∀s,fenceModules? pw s=some s:=fun s=>by kernel_rfl
abbrev Xt(s:Shared):Bool:=xlAt q [] s && recOk [] s
local macro_rules | `(tactic| o_head ($_ $K $A $_)) => `(tactic| ((exact False.elim (by assumption)); (exact $K); exact $A))
noncomputable def K0:PSigma fun _:Params->Frag=>PSigma fun _:List Addr=>False->rw_.row.Holds:=by
 refine⟨?K,?A,?h⟩
 rotate_left 2
 intro hF
 k_head
noncomputable abbrev KA:List Addr:=K0.2.1
theorem KAe:∀P,KA=(K0.heap_1 P).map (·.1):=fun _=>by kernel_rfl
theorem g0:∀w:World,(fun os=>(Fast.tw12555587260221468252 Fast.tw14364793385576792824 pw (w.withFollow "special-get-raises" false) 11 (some (.ref 6)) 8628 ⟨T0 (w.withFollow "special-get-raises" false).params,11,{},#[],boot_drawn,boot_toks,os⟩ (topStub pw)).map fun s=>Fast.tw15217941149495966222 pw q ["RANKS"] Xt (absHeap (T0 (w.withFollow "special-get-raises" false).params) 11 {}) s.abs)=fun _=>some (true,openGood q ["RANKS"]):=fun w=>by kernel_rfl
theorem f0:∀w:World,(fun os=>(Fast.tw12555587260221468252 Fast.tw14364793385576792824 pw (w.withFollow "special-get-raises" false) 11 (some (.ref 6)) 8628 ⟨T0 (w.withFollow "special-get-raises" false).params,11,{},#[],boot_drawn,boot_toks,os⟩ (topStub pw)).map fun s=>List.map s.abs.heap.get? KA)=fun _=>some (List.map (fun p=>some p.2) (K0.heap_1 (w.withFollow "special-get-raises" false).params)):=fun w=>by kernel_rfl
theorem g1:∀w:World,(fun os=>(Fast.tw12555587260221468252 Fast.tw14364793385576792824 pw (w.withFollow "special-get-raises" true) 11 (some (.ref 6)) 8628 ⟨T0 (w.withFollow "special-get-raises" true).params,11,{},#[],boot_drawn,boot_toks,os⟩ (topStub pw)).map fun s=>Fast.tw15217941149495966222 pw q ["RANKS"] Xt (absHeap (T0 (w.withFollow "special-get-raises" true).params) 11 {}) s.abs)=fun _=>some (true,openGood q ["RANKS"]):=fun w=>by kernel_rfl
theorem f1:∀w:World,(fun os=>(Fast.tw12555587260221468252 Fast.tw14364793385576792824 pw (w.withFollow "special-get-raises" true) 11 (some (.ref 6)) 8628 ⟨T0 (w.withFollow "special-get-raises" true).params,11,{},#[],boot_drawn,boot_toks,os⟩ (topStub pw)).map fun s=>List.map s.abs.heap.get? KA)=fun _=>some (List.map (fun p=>some p.2) (K0.heap_1 (w.withFollow "special-get-raises" true).params)):=fun w=>by kernel_rfl
theorem hl:LeftO pw q ["RANKS"] Xt (fun s=>List.map s.heap.get? KA) (fun w=>List.map (fun p=>some p.2) (K0.heap_1 w.params)) 8628 true :=
 auf "special-get-raises" (T₀:=T0) (n₀:=11) (life:={}) (gs₀ := #[]) (d₀:=boot_drawn) (k₀:=boot_toks) (ann:=some (.ref 6)) (M:=8628) (opens op1 (by kernel_rfl) op2) sizes (fun w=>both (by rw[Fast.te12555587260221468252,Fast.te14364793385576792824];rw[Fast.te15217941149495966222];exact g0 w) (Yf:=fun s=>List.map s.heap.get? KA) (by rw[Fast.te12555587260221468252,Fast.te14364793385576792824];exact f0 w)) (fun w=>both (by rw[Fast.te12555587260221468252,Fast.te14364793385576792824];rw[Fast.te15217941149495966222];exact g1 w) (Yf:=fun s=>List.map s.heap.get? KA) (by rw[Fast.te12555587260221468252,Fast.te14364793385576792824];exact f1 w)) (by kernel_rfl)
end H1
namespace gH
open PySem L2
abbrev FO(n q:Str)(st:Stmt)(kV dc pm:Value)(an:Option Addr)(cd ct:Value):FuncData:=PySem.W.fnOf n q (KJ st) (yN st) (aO st) .none kV dc pm an cd ct
section
open PySem.W
theorem all_mk{l:OpenLaw}{w:World}{K:Frag}{h:Heap}{mg:Str->Option Value}{fa:Addr}(X:K.In h)(G:h.Ns mainGlobals mg)(hfa:mg "law"=some (.ref fa))
{bu:Addr} {bc:Addr} {aW:Addr} {aM:Addr} {aV:Addr} {aJ:Addr} {bJ:Addr} {aF:Addr} {gQ:Addr} {bx:Addr} {zm:Addr} {amL amM:Option Addr} {amN:Array (Option Value)} {amO amP amQ amR agA amS:Value} {g8:Addr} {aaj aak:Option Addr} {aal:Array (Option Value)} {aam aan aao aap HH aaq:Value} {fu:Addr} {Qx Qy:Option Addr} {Qz:Array (Option Value)} {QB QC QD QF yf QG:Value} {gq:Addr} {X3 X4:Option Addr} {X5:Array (Option Value)} {X6 X7 X8 Yb Fo Yc:Value} {gA:Addr} {Yd Ye:Option Addr} {Yg:Array (Option Value)} {Yh Yi Yj Yk Fp Yl:Value} {gB:Addr} {Ym Yn:Option Addr} {Yo:Array (Option Value)} {Yp Yq Yr Ys Fq Yt:Value} {jb:Addr} {ac9 ada:Option Addr} {adb:Array (Option Value)} {ade adf adg adh Ml adi:Value} {fQ:Addr} {Ub Uc:Option Addr} {Ud:Array (Option Value)} {Ue Ug Uh Ui Bl Uj:Value} {ie:Addr} {adk adl:Option Addr} {adm:Array (Option Value)} {adn ado adp adq Mm adt:Value} {dX:Addr} {QH QJ:Option Addr} {QK:Array (Option Value)} {QL QM QQ QR yg QS:Value} {gk:Addr} {aar aas:Option Addr} {aat:Array (Option Value)} {aau aav aaw aax HJ aay:Value} {ig:Addr} {adu adv:Option Addr} {adw:Array (Option Value)} {adx ady adz adA Mp adB:Value} {ik:Addr} {adC adD:Option Addr} {adE:Array (Option Value)} {adF adG adH adI Mq adJ:Value} {il:Addr} {adK adL:Option Addr} {adM:Array (Option Value)} {adN adO adP adQ Mr adR:Value} {fJ:Addr} {Yu Yv:Option Addr} {Yw:Array (Option Value)} {Yx Yy Yz YB Ft YC:Value} {eQ:Addr} {Uk Ul:Option Addr} {Um:Array (Option Value)} {Uo Up Uq Ur Bm Us:Value} {dG:Addr} {Ms Mt:Option Addr} {Mu:Array (Option Value)} {Mw Mx My Mz vm MF:Value} {eU:Addr} {Ut Uu:Option Addr} {Uv:Array (Option Value)} {Uw Ux Uy Uz Bo UG:Value} {cJ:Addr} {zR zT:Option Addr} {zU:Array (Option Value)} {zV zW zX zY nA zZ:Value} {ir:Addr} {adS adT:Option Addr} {adU:Array (Option Value)} {adV adW adX adY MJ adZ:Value} {dH:Addr} {MK MN:Option Addr} {MP:Array (Option Value)} {MT M8 M9 Nb vo Nf:Value} {cN:Addr} {Cy Cz:Option Addr} {CG:Array (Option Value)} {CJ CK CN CQ nY CT:Value} {cB:Addr} {wF wG:Option Addr} {wH:Array (Option Value)} {wI wJ wK wL lu wM:Value} {cL:Addr} {z6 z7:Option Addr} {z8:Array (Option Value)} {z9 Aa Ab Ac nC Ad:Value} {dj:Addr} {Jz JB:Option Addr} {JC:Array (Option Value)} {JD JF JG JH ud JK:Value} {bV:Addr} {rC rD:Option Addr} {rE:Array (Option Value)} {rF rG rH rJ jL rK:Value} {dI:Addr} {Ng Nh:Option Addr} {Ni:Array (Option Value)} {Nj Nk Nm Np vp Nq:Value} {cM:Addr} {Ae Af:Option Addr} {Ag:Array (Option Value)} {Ai Aj Ak Al nD Am:Value} {cO:Addr} {CV CW:Option Addr} {CZ:Array (Option Value)} {Dc Dd De Df nZ Dg:Value} {iu:Addr} {ad0 ad1:Option Addr} {ad2:Array (Option Value)} {ad3 ad4 ad5 ad6 Nr ad7:Value} {iw:Addr} {ad8 ad9:Option Addr} {aea:Array (Option Value)} {aeb aec aed aee Nt aef:Value} {iy:Addr} {aeg aeh:Option Addr} {aei:Array (Option Value)} {aej aek ael aem Nu aen:Value} {eV:Addr} {UJ UT:Option Addr} {UW:Array (Option Value)} {U0 U3 U4 U5 Bp U6:Value} {dm:Addr} {JL JM:Option Addr} {JN:Array (Option Value)} {JP JQ JR JS ue JT:Value} {dq:Addr} {JV JW:Option Addr} {JX:Array (Option Value)} {JZ J0 J1 J2 uf J3:Value} {eX:Addr} {U7 U8:Option Addr} {U9:Array (Option Value)} {Va Vb Vc Vd Bq Ve:Value} {fK:Addr} {YD YF:Option Addr} {YG:Array (Option Value)} {YH YJ YK YL Fv YM:Value} {eY:Addr} {Vf Vg:Option Addr} {Vh:Array (Option Value)} {Vi Vj Vk Vl Br Vm:Value} {dY:Addr} {QT QV:Option Addr} {QW:Array (Option Value)} {QX QZ Q0 Q3 yh Q4:Value} {du:Addr} {J4 J5:Option Addr} {J6:Array (Option Value)} {J7 J8 J9 Ka ug Kc:Value} {cR:Addr} {Fw Fx:Option Addr} {Fy:Array (Option Value)} {Fz FJ FN FP pX FQ:Value} {dJ:Addr} {Nv Nx:Option Addr} {Ny:Array (Option Value)} {Nz NB NK NP vq NQ:Value} {dN:Addr} {Kd Ke:Option Addr} {Kf:Array (Option Value)} {Kg Kh Kl Km uh Ko:Value} {dZ:Addr} {NT NZ:Option Addr} {N5:Array (Option Value)} {N6 N7 N8 Oa vy Ob:Value} {cP:Addr} {Dh Di:Option Addr} {Dj:Array (Option Value)} {Dk Dl Dm Dn n6 Dp:Value} {jc:Addr} {aeo aep:Option Addr} {aeq:Array (Option Value)} {aer aes aet aeu Od aev:Value} {iz:Addr} {aaz aaA:Option Addr} {aaB:Array (Option Value)} {aaC aaD aaE aaF HN aaG:Value} {iB:Addr} {aaH aaI:Option Addr} {aaJ:Array (Option Value)} {aaK aaL aaM aaN HQ aaO:Value} {lZ:Addr} {aiq air:Option Addr} {ais:Array (Option Value)} {ait aiu aiv aiw YQ aix:Value} {Ep:Addr} {apl apm:Option Addr} {apn:Array (Option Value)} {apo apq apr aps ajA apt:Value} {pM:Addr} {akq akr:Option Addr} {aks:Array (Option Value)} {akt aku akv akx abZ aky:Value} {jd:Addr} {aew aex:Option Addr} {aey:Array (Option Value)} {aez aeA aeB aeC Oe aeD:Value} {uR:Addr} {amT amU:Option Addr} {amV:Array (Option Value)} {amW amX amY amZ agB am0:Value} {iC:Addr} {aaP aaQ:Option Addr} {aaR:Array (Option Value)} {aaS aaT aaU aaV HR aaW:Value} {mj:Addr} {aiy aiz:Option Addr} {aiA:Array (Option Value)} {aiB aiC aiD aiE YS aiF:Value} {je:Addr} {aeE aeF:Option Addr} {aeG:Array (Option Value)} {aeH aeI aeJ aeK Og aeL:Value} {j0:Addr} {agC agD:Option Addr} {agE:Array (Option Value)} {agF agG agH agI RQ agJ:Value} {gC:Addr} {YT YW:Option Addr} {YX:Array (Option Value)} {YZ Y0 Y4 Y5 FT Y6:Value} {gD:Addr} {Y7 Y8:Option Addr} {Y9:Array (Option Value)} {Za Zb Zc Zd FW Ze:Value} {fU:Addr} {Vn Vo:Option Addr} {Vp:Array (Option Value)} {Vq Vr Vs Vt Bs Vu:Value} {iD:Addr} {aaX aaY:Option Addr} {aaZ:Array (Option Value)} {aa0 aa1 aa2 aa3 HS aa4:Value} {fV:Addr} {Vv Vw:Option Addr} {Vx:Array (Option Value)} {Vy Vz VB VD Bu VF:Value} {fB:Addr} {Q5 Q6:Option Addr} {Q7:Array (Option Value)} {Q8 Q9 Ra Rb yj Rc:Value} {iG:Addr} {aa5 aa6:Option Addr} {aa7:Array (Option Value)} {aa8 aa9 aba abb HW abd:Value} {WX:Addr} {atu atv:Option Addr} {atw:Array (Option Value)} {atx aty atz atA am1 atB:Value} {am2:Tok} {am3:Tok} {ajB:Tok} {qY:Addr} {agK:Array DictEntry} {apu:Nat} {am4:Tok} {am5:Tok} {am6:Tok} {am7:Tok} {ajC:Tok}
 (aeM:nsIn K mainGlobals "CopyError"=some (some (.ref bu)))
 (akz:nsIn K mainGlobals "NoDesk"=some (some (.ref bc)))
 (akA:nsIn K mainGlobals "NoPage"=some (some (.ref aW)))
 (aiG:nsIn K mainGlobals "Waiting"=some (some (.ref aM)))
 (akB:nsIn K mainGlobals "NoCopy"=some (some (.ref aV)))
 (agL:nsIn K mainGlobals "NoLetter"=some (some (.ref aJ)))
 (apv:nsIn K mainGlobals "Desk"=some (some (.ref bJ)))
 (aeN:nsIn K mainGlobals "PageLoans"=some (some (.ref aF)))
 (apw:nsIn K mainGlobals "Hall"=some (some (.ref gQ)))
 (apx:nsIn K mainGlobals "Town"=some (some (.ref bx)))
 (aeO:excIn K bu [.type "ValueError",.type "Exception",.type "BaseException",.type "object"] "ValueError.__new__"=true)
 (aeP:L2.mroIn K bu=some (.ref bu::[.type "ValueError",.type "Exception",.type "BaseException",.type "object"]))
 (akC:excIn K bc [.type "ValueError",.type "Exception",.type "BaseException",.type "object"] "ValueError.__new__"=true)
 (akD:L2.mroIn K bc=some (.ref bc::[.ref bu,.type "ValueError",.type "Exception",.type "BaseException",.type "object"]))
 (akE:excIn K aW [.type "ValueError",.type "Exception",.type "BaseException",.type "object"] "ValueError.__new__"=true)
 (akF:L2.mroIn K aW=some (.ref aW::[.ref bu,.type "ValueError",.type "Exception",.type "BaseException",.type "object"]))
 (aiH:excIn K aM [.type "ValueError",.type "Exception",.type "BaseException",.type "object"] "ValueError.__new__"=true)
 (aiI:L2.mroIn K aM=some (.ref aM::[.ref bu,.type "ValueError",.type "Exception",.type "BaseException",.type "object"]))
 (akG:excIn K aV [.type "ValueError",.type "Exception",.type "BaseException",.type "object"] "ValueError.__new__"=true)
 (akH:L2.mroIn K aV=some (.ref aV::[.ref bu,.type "ValueError",.type "Exception",.type "BaseException",.type "object"]))
 (agM:excIn K aJ [.type "ValueError",.type "Exception",.type "BaseException",.type "object"] "ValueError.__new__"=true)
 (agN:L2.mroIn K aJ=some (.ref aJ::[.ref bu,.type "ValueError",.type "Exception",.type "BaseException",.type "object"]))
 (agO:findIn K (.ref bc) "__class__"=some (some (.builtin "object.__class__")))
 (agP:findIn K (.ref bc) "__getattribute__"=some (some (.builtin "BaseException.__getattribute__")))
 (agQ:findIn K (.ref bc) "__getattr__"=some none)
 (qJ:kitOne K (.ref bc) (.ref bu)=some true)
 (eZ:bc≠bu)
 (xG:kitOne K (.ref bc) (.ref bc)=some true)
 (xH:kitOne K (.ref bc) (.ref aW)=some false)
 (oW:bc≠aW)
 (uT:kitOne K (.ref bc) (.ref aM)=some false)
 (mY:bc≠aM)
 (xJ:kitOne K (.ref bc) (.ref aV)=some false)
 (oX:bc≠aV)
 (tH:kitOne K (.ref bc) (.ref aJ)=some false)
 (lR:bc≠aJ)
 (pN:kitOne K (.ref bc) (.type "ValueError")=some true)
 (agR:findIn K (.ref aW) "__class__"=some (some (.builtin "object.__class__")))
 (agS:findIn K (.ref aW) "__getattribute__"=some (some (.builtin "BaseException.__getattribute__")))
 (agT:findIn K (.ref aW) "__getattr__"=some none)
 (qK:kitOne K (.ref aW) (.ref bu)=some true)
 (gb:aW≠bu)
 (xK:kitOne K (.ref aW) (.ref bc)=some false)
 (xM:aW≠bc)
 (xN:kitOne K (.ref aW) (.ref aW)=some true)
 (uU:kitOne K (.ref aW) (.ref aM)=some false)
 (mZ:aW≠aM)
 (xO:kitOne K (.ref aW) (.ref aV)=some false)
 (oY:aW≠aV)
 (tK:kitOne K (.ref aW) (.ref aJ)=some false)
 (lU:aW≠aJ)
 (pO:kitOne K (.ref aW) (.type "ValueError")=some true)
 (aeQ:findIn K (.ref aM) "__class__"=some (some (.builtin "object.__class__")))
 (aeR:findIn K (.ref aM) "__getattribute__"=some (some (.builtin "BaseException.__getattribute__")))
 (aeS:findIn K (.ref aM) "__getattr__"=some none)
 (pP:kitOne K (.ref aM) (.ref bu)=some true)
 (iH:aM≠bu)
 (uV:kitOne K (.ref aM) (.ref bc)=some false)
 (uW:aM≠bc)
 (uX:kitOne K (.ref aM) (.ref aW)=some false)
 (uY:aM≠aW)
 (tL:kitOne K (.ref aM) (.ref aM)=some true)
 (uZ:kitOne K (.ref aM) (.ref aV)=some false)
 (m5:aM≠aV)
 (qL:kitOne K (.ref aM) (.ref aJ)=some false)
 (kO:aM≠aJ)
 (nR:kitOne K (.ref aM) (.type "ValueError")=some true)
 (agU:findIn K (.ref aV) "__class__"=some (some (.builtin "object.__class__")))
 (agV:findIn K (.ref aV) "__getattribute__"=some (some (.builtin "BaseException.__getattribute__")))
 (agW:findIn K (.ref aV) "__getattr__"=some none)
 (qM:kitOne K (.ref aV) (.ref bu)=some true)
 (kW:aV≠bu)
 (xP:kitOne K (.ref aV) (.ref bc)=some false)
 (xQ:aV≠bc)
 (xR:kitOne K (.ref aV) (.ref aW)=some false)
 (xU:aV≠aW)
 (u0:kitOne K (.ref aV) (.ref aM)=some false)
 (u6:aV≠aM)
 (xV:kitOne K (.ref aV) (.ref aV)=some true)
 (tM:kitOne K (.ref aV) (.ref aJ)=some false)
 (lV:aV≠aJ)
 (pQ:kitOne K (.ref aV) (.type "ValueError")=some true)
 (abe:findIn K (.ref aJ) "__class__"=some (some (.builtin "object.__class__")))
 (abf:findIn K (.ref aJ) "__getattribute__"=some (some (.builtin "BaseException.__getattribute__")))
 (abg:findIn K (.ref aJ) "__getattr__"=some none)
 (nT:kitOne K (.ref aJ) (.ref bu)=some true)
 (nU:aJ≠bu)
 (tO:kitOne K (.ref aJ) (.ref bc)=some false)
 (tQ:aJ≠bc)
 (tR:kitOne K (.ref aJ) (.ref aW)=some false)
 (tU:aJ≠aW)
 (qN:kitOne K (.ref aJ) (.ref aM)=some false)
 (qO:aJ≠aM)
 (tV:kitOne K (.ref aJ) (.ref aV)=some false)
 (tW:aJ≠aV)
 (pR:kitOne K (.ref aJ) (.ref aJ)=some true)
 (m6:kitOne K (.ref aJ) (.type "ValueError")=some true)
 (apy:plainGet K bJ Str.empty=true)
 (apz:hasDictIn K bJ=true)
 (apA:plainOver K bJ=true)
 (apB:findIn K (.ref bJ) "__setattr__"=some (some (.builtin "object.__setattr__")))
 (acF:makesIn K bJ=true)
 (apC:keepIn K (.ref bJ)=true)
 (dR:findIn K (.ref bJ) "copies"=some none)
 (jn:findIn K (.ref bJ) "wish"=some none)
 (aeT:plainGet K aF Str.empty=true)
 (aeU:hasDictIn K aF=true)
 (aeV:plainOver K aF=true)
 (aeW:findIn K (.ref aF) "__setattr__"=some (some (.builtin "object.__setattr__")))
 (zH:makesIn K aF=true)
 (aeX:keepIn K (.ref aF)=true)
 (fX:findIn K (.ref aF) "page"=some none)
 (fc:findIn K (.ref aF) "number"=some none)
 (cj:findIn K (.ref aF) "writer"=some none)
 (cW:findIn K (.ref aF) "readers"=some none)
 (cZ:findIn K (.ref aF) "asked"=some none)
 (d9:findIn K (.ref aF) "awaited"=some none)
 (apD:plainGet K gQ Str.empty=true)
 (apE:hasDictIn K gQ=true)
 (apF:plainOver K gQ=true)
 (apG:findIn K (.ref gQ) "__setattr__"=some (some (.builtin "object.__setattr__")))
 (acG:makesIn K gQ=true)
 (apH:keepIn K (.ref gQ)=true)
 (pD:findIn K (.ref gQ) "pages"=some none)
 (apI:plainGet K bx Str.empty=true)
 (apJ:hasDictIn K bx=true)
 (apK:plainOver K bx=true)
 (apL:findIn K (.ref bx) "__setattr__"=some (some (.builtin "object.__setattr__")))
 (acH:makesIn K bx=true)
 (apM:keepIn K (.ref bx)=true)
 (jo:findIn K (.ref bx) "page_count"=some none)
 (qZ:findIn K (.ref bx) "hall"=some none)
 (fL:findIn K (.ref bx) "desks"=some none)
 (fG:findIn K (.ref bx) "roads_up"=some none)
 (fH:findIn K (.ref bx) "roads_down"=some none)
 (u9:findIn K (.ref bx) "row"=some none)
 (apO:nsIn K mainGlobals "_wall"=some (some (.ref zm)))
 (ajD:K.lookup zm=some ⟨amO,amL,.func (FO "_wall" "_wall" ajg amP amQ amR amM agA amS),amN⟩)
 (ajE:codeIn K agA "_wall"=true)
 (ajF:keepIn K (.ref zm)=true)
 (aeY:nsIn K mainGlobals "ask_letter"=some (some (.ref g8)))
 (Oh:K.lookup g8=some ⟨aam,aaj,.func (FO "ask_letter" "ask_letter" yU aan aao aap aak HH aaq),aal⟩)
 (Oi:codeIn K HH "ask_letter"=true)
 (Oj:keepIn K (.ref g8)=true)
 (VG:nsIn K mainGlobals "answer_letter"=some (some (.ref fu)))
 (Bv:K.lookup fu=some ⟨QB,Qx,.func (FO "answer_letter" "answer_letter" qi QC QD QF Qy yf QG),Qz⟩)
 (Bw:codeIn K yf "answer_letter"=true)
 (Bx:keepIn K (.ref fu)=true)
 (abh:nsIn K mainGlobals "gave_letter"=some (some (.ref gq)))
 (HX:K.lookup gq=some ⟨X6,X3,.func (FO "gave_letter" "gave_letter" vP X7 X8 Yb X4 Fo Yc),X5⟩)
 (HY:codeIn K Fo "gave_letter"=true)
 (Ia:keepIn K (.ref gq)=true)
 (abi:nsIn K mainGlobals "lend_letter"=some (some (.ref gA)))
 (Ib:K.lookup gA=some ⟨Yh,Yd,.func (FO "lend_letter" "lend_letter" vQ Yi Yj Yk Ye Fp Yl),Yg⟩)
 (Ie:codeIn K Fp "lend_letter"=true)
 (Ig:keepIn K (.ref gA)=true)
 (abj:nsIn K mainGlobals "back_letter"=some (some (.ref gB)))
 (Ih:K.lookup gB=some ⟨Yp,Ym,.func (FO "back_letter" "back_letter" vR Yq Yr Ys Yn Fq Yt),Yo⟩)
 (Ii:codeIn K Fq "back_letter"=true)
 (Ij:keepIn K (.ref gB)=true)
 (agX:nsIn K mainGlobals "is_enough"=some (some (.ref jb)))
 (RT:K.lookup jb=some ⟨ade,ac9,.func (FO "is_enough" "is_enough" DY adf adg adh ada Ml adi),adb⟩)
 (RV:codeIn K Ml "is_enough"=true)
 (RW:keepIn K (.ref jb)=true)
 (Zf:nsIn K mainGlobals "right_needed"=some (some (.ref fQ)))
 (FZ:K.lookup fQ=some ⟨Ue,Ub,.func (FO "right_needed" "right_needed" sE Ug Uh Ui Uc Bl Uj),Ud⟩)
 (Ga:codeIn K Bl "right_needed"=true)
 (Gb:keepIn K (.ref fQ)=true)
 (agY:findIn K (.ref bJ) "__init__"=some (some (.ref ie)))
 (agZ:isFn K (.ref ie)=true)
 (RX:K.lookup ie=some ⟨adn,adk,.func (FO "__init__" "Desk.__init__" Ea ado adp adq adl Mm adt),adm⟩)
 (RZ:codeIn K Mm "Desk.__init__"=true)
 (R0:keepIn K (.ref ie)=true)
 (VH:findIn K (.ref bJ) "right_of"=some (some (.ref dX)))
 (VJ:isFn K (.ref dX)=true)
 (By:K.lookup dX=some ⟨QL,QH,.func (FO "right_of" "Desk.right_of" qj QM QQ QR QJ yg QS),QK⟩)
 (BJ:codeIn K yg "Desk.right_of"=true)
 (qG:keepIn K (.ref dX)=true)
 (aeZ:findIn K (.ref bJ) "waits"=some (some (.ref gk)))
 (ae0:isFn K (.ref gk)=true)
 (Ol:K.lookup gk=some ⟨aau,aar,.func (FO "waits" "Desk.waits" yV aav aaw aax aas HJ aay),aat⟩)
 (Om:codeIn K HJ "Desk.waits"=true)
 (An:keepIn K (.ref gk)=true)
 (ag0:findIn K (.ref bJ) "want"=some (some (.ref ig)))
 (ag1:isFn K (.ref ig)=true)
 (R1:K.lookup ig=some ⟨adx,adu,.func (FO "want" "Desk.want" Eb ady adz adA adv Mp adB),adw⟩)
 (R3:codeIn K Mp "Desk.want"=true)
 (Gd:keepIn K (.ref ig)=true)
 (ag2:findIn K (.ref bJ) "take"=some (some (.ref ik)))
 (ag3:isFn K (.ref ik)=true)
 (R4:K.lookup ik=some ⟨adF,adC,.func (FO "take" "Desk.take" Ec adG adH adI adD Mq adJ),adE⟩)
 (R5:codeIn K Mq "Desk.take"=true)
 (Ge:keepIn K (.ref ik)=true)
 (ag4:findIn K (.ref bJ) "rest"=some (some (.ref il)))
 (ag5:isFn K (.ref il)=true)
 (R6:K.lookup il=some ⟨adN,adK,.func (FO "rest" "Desk.rest" Ed adO adP adQ adL Mr adR),adM⟩)
 (R7:codeIn K Mr "Desk.rest"=true)
 (Gf:keepIn K (.ref il)=true)
 (abk:findIn K (.ref bJ) "may_do"=some (some (.ref fJ)))
 (abl:isFn K (.ref fJ)=true)
 (Ik:K.lookup fJ=some ⟨Yx,Yu,.func (FO "may_do" "Desk.may_do" vU Yy Yz YB Yv Ft YC),Yw⟩)
 (Il:codeIn K Ft "Desk.may_do"=true)
 (wN:keepIn K (.ref fJ)=true)
 (Zg:findIn K (.ref bJ) "do_wish"=some (some (.ref eQ)))
 (Zh:isFn K (.ref eQ)=true)
 (Gg:K.lookup eQ=some ⟨Uo,Uk,.func (FO "do_wish" "Desk.do_wish" sG Up Uq Ur Ul Bm Us),Um⟩)
 (Gh:codeIn K Bm "Desk.do_wish"=true)
 (um:keepIn K (.ref eQ)=true)
 (Rf:findIn K (.ref bJ) "take_loan"=some (some (.ref dG)))
 (Rg:isFn K (.ref dG)=true)
 (ym:K.lookup dG=some ⟨Mw,Ms,.func (FO "take_loan" "Desk.take_loan" oH Mx My Mz Mt vm MF),Mu⟩)
 (yo:codeIn K vm "Desk.take_loan"=true)
 (pq:keepIn K (.ref dG)=true)
 (Zi:findIn K (.ref bJ) "go_down"=some (some (.ref eU)))
 (Zj:isFn K (.ref eU)=true)
 (Gi:K.lookup eU=some ⟨Uw,Ut,.func (FO "go_down" "Desk.go_down" sH Ux Uy Uz Uu Bo UG),Uv⟩)
 (Gj:codeIn K Bo "Desk.go_down"=true)
 (uo:keepIn K (.ref eU)=true)
 (Dq:findIn K (.ref bJ) "number_to_tell"=some (some (.ref cJ)))
 (Dr:isFn K (.ref cJ)=true)
 (n8:K.lookup cJ=some ⟨zV,zR,.func (FO "number_to_tell" "Desk.number_to_tell" jz zW zX zY zT nA zZ),zU⟩)
 (oh:codeIn K nA "Desk.number_to_tell"=true)
 (jF:keepIn K (.ref cJ)=true)
 (ag6:findIn K (.ref bJ) "hold"=some (some (.ref ir)))
 (ag7:isFn K (.ref ir)=true)
 (R8:K.lookup ir=some ⟨adV,adS,.func (FO "hold" "Desk.hold" Ef adW adX adY adT MJ adZ),adU⟩)
 (R9:codeIn K MJ "Desk.hold"=true)
 (Gk:keepIn K (.ref ir)=true)
 (Rh:findIn K (.ref aF) "__init__"=some (some (.ref dH)))
 (Ri:isFn K (.ref dH)=true)
 (yp:K.lookup dH=some ⟨MT,MK,.func (FO "__init__" "PageLoans.__init__" oJ M8 M9 Nb MN vo Nf),MP⟩)
 (yq:codeIn K vo "PageLoans.__init__"=true)
 (yr:keepIn K (.ref dH)=true)
 (Gm:findIn K (.ref aF) "take_ask"=some (some (.ref cN)))
 (Gn:isFn K (.ref cN)=true)
 (pY:K.lookup cN=some ⟨CJ,Cy,.func (FO "take_ask" "PageLoans.take_ask" jW CK CN CQ Cz nY CT),CG⟩)
 (pZ:codeIn K nY "PageLoans.take_ask"=true)
 (j6:keepIn K (.ref cN)=true)
 (yt:findIn K (.ref aF) "take_answer"=some (some (.ref cB)))
 (yu:isFn K (.ref cB)=true)
 (mq:K.lookup cB=some ⟨wI,wF,.func (FO "take_answer" "PageLoans.take_answer" iU wJ wK wL wG lu wM),wH⟩)
 (my:codeIn K lu "PageLoans.take_answer"=true)
 (iZ:keepIn K (.ref cB)=true)
 (Ds:findIn K (.ref aF) "take_gave"=some (some (.ref cL)))
 (Dt:isFn K (.ref cL)=true)
 (ou:K.lookup cL=some ⟨z9,z6,.func (FO "take_gave" "PageLoans.take_gave" jA Aa Ab Ac z7 nC Ad),z8⟩)
 (oA:codeIn K nC "PageLoans.take_gave"=true)
 (jG:keepIn K (.ref cL)=true)
 (Oo:findIn K (.ref aF) "serve"=some (some (.ref dj)))
 (Oq:isFn K (.ref dj)=true)
 (vA:K.lookup dj=some ⟨JD,Jz,.func (FO "serve" "PageLoans.serve" mL JF JG JH JB ud JK),JC⟩)
 (vB:codeIn K ud "PageLoans.serve"=true)
 (nF:keepIn K (.ref dj)=true)
 (uq:findIn K (.ref aF) "bids_for_first"=some (some (.ref bV)))
 (ur:isFn K (.ref bV)=true)
 (j7:K.lookup bV=some ⟨rF,rC,.func (FO "bids_for_first" "PageLoans.bids_for_first" gJ rG rH rJ rD jL rK),rE⟩)
 (j8:codeIn K jL "PageLoans.bids_for_first"=true)
 (gM:keepIn K (.ref bV)=true)
 (Rj:findIn K (.ref aF) "lend"=some (some (.ref dI)))
 (Rk:isFn K (.ref dI)=true)
 (yw:K.lookup dI=some ⟨Nj,Ng,.func (FO "lend" "PageLoans.lend" oK Nk Nm Np Nh vp Nq),Ni⟩)
 (yx:codeIn K vp "PageLoans.lend"=true)
 (pA:keepIn K (.ref dI)=true)
 (Du:findIn K (.ref aF) "let_write"=some (some (.ref cM)))
 (Dv:isFn K (.ref cM)=true)
 (oE:K.lookup cM=some ⟨Ai,Ae,.func (FO "let_write" "PageLoans.let_write" jB Aj Ak Al Af nD Am),Ag⟩)
 (oF:codeIn K nD "PageLoans.let_write"=true)
 (jH:keepIn K (.ref cM)=true)
 (Gp:findIn K (.ref aF) "let_read"=some (some (.ref cO)))
 (Gq:isFn K (.ref cO)=true)
 (p6:K.lookup cO=some ⟨Dc,CV,.func (FO "let_read" "PageLoans.let_read" jX Dd De Df CW nZ Dg),CZ⟩)
 (p7:codeIn K nZ "PageLoans.let_read"=true)
 (j9:keepIn K (.ref cO)=true)
 (ag8:findIn K (.ref gQ) "__init__"=some (some (.ref iu)))
 (ag9:isFn K (.ref iu)=true)
 (Sd:K.lookup iu=some ⟨ad3,ad0,.func (FO "__init__" "Hall.__init__" Eg ad4 ad5 ad6 ad1 Nr ad7),ad2⟩)
 (Sg:codeIn K Nr "Hall.__init__"=true)
 (Sh:keepIn K (.ref iu)=true)
 (aha:findIn K (.ref gQ) "take"=some (some (.ref iw)))
 (ahb:isFn K (.ref iw)=true)
 (Sq:K.lookup iw=some ⟨aeb,ad8,.func (FO "take" "Hall.take" Eh aec aed aee ad9 Nt aef),aea⟩)
 (Ss:codeIn K Nt "Hall.take"=true)
 (Gr:keepIn K (.ref iw)=true)
 (ahc:findIn K (.ref bx) "__init__"=some (some (.ref iy)))
 (ahd:isFn K (.ref iy)=true)
 (Su:K.lookup iy=some ⟨aej,aeg,.func (FO "__init__" "Town.__init__" Ei aek ael aem aeh Nu aen),aei⟩)
 (Sv:codeIn K Nu "Town.__init__"=true)
 (Sw:keepIn K (.ref iy)=true)
 (Zk:findIn K (.ref bx) "do_deed"=some (some (.ref eV)))
 (Zm:isFn K (.ref eV)=true)
 (Gs:K.lookup eV=some ⟨U0,UJ,.func (FO "do_deed" "Town.do_deed" sI U3 U4 U5 UT Bp U6),UW⟩)
 (Gu:codeIn K Bp "Town.do_deed"=true)
 (ux:keepIn K (.ref eV)=true)
 (Ot:findIn K (.ref bx) "check_desk"=some (some (.ref dm)))
 (Ou:isFn K (.ref dm)=true)
 (vC:K.lookup dm=some ⟨JP,JL,.func (FO "check_desk" "Town.check_desk" mO JQ JR JS JM ue JT),JN⟩)
 (vD:codeIn K ue "Town.check_desk"=true)
 (nG:keepIn K (.ref dm)=true)
 (Ov:findIn K (.ref bx) "check_page"=some (some (.ref dq)))
 (Ow:isFn K (.ref dq)=true)
 (vG:K.lookup dq=some ⟨JZ,JV,.func (FO "check_page" "Town.check_page" mQ J0 J1 J2 JW uf J3),JX⟩)
 (vH:codeIn K uf "Town.check_page"=true)
 (nJ:keepIn K (.ref dq)=true)
 (Zn:findIn K (.ref bx) "look_at"=some (some (.ref eX)))
 (Zo:isFn K (.ref eX)=true)
 (Gv:K.lookup eX=some ⟨Va,U7,.func (FO "look_at" "Town.look_at" sJ Vb Vc Vd U8 Bq Ve),U9⟩)
 (Gw:codeIn K Bq "Town.look_at"=true)
 (uy:keepIn K (.ref eX)=true)
 (abm:findIn K (.ref bx) "put_on"=some (some (.ref fK)))
 (abn:isFn K (.ref fK)=true)
 (Im:K.lookup fK=some ⟨YH,YD,.func (FO "put_on" "Town.put_on" vV YJ YK YL YF Fv YM),YG⟩)
 (Io:codeIn K Fv "Town.put_on"=true)
 (wO:keepIn K (.ref fK)=true)
 (Zq:findIn K (.ref bx) "give_up"=some (some (.ref eY)))
 (Zr:isFn K (.ref eY)=true)
 (Gx:K.lookup eY=some ⟨Vi,Vf,.func (FO "give_up" "Town.give_up" sO Vj Vk Vl Vg Br Vm),Vh⟩)
 (Gy:codeIn K Br "Town.give_up"=true)
 (uz:keepIn K (.ref eY)=true)
 (VL:findIn K (.ref bx) "bring_up"=some (some (.ref dY)))
 (VM:isFn K (.ref dY)=true)
 (BK:K.lookup dY=some ⟨QX,QT,.func (FO "bring_up" "Town.bring_up" qm QZ Q0 Q3 QV yh Q4),QW⟩)
 (BL:codeIn K yh "Town.bring_up"=true)
 (qH:keepIn K (.ref dY)=true)
 (Ox:findIn K (.ref bx) "bring_down"=some (some (.ref du)))
 (Oz:isFn K (.ref du)=true)
 (vI:K.lookup du=some ⟨J7,J4,.func (FO "bring_down" "Town.bring_down" mR J8 J9 Ka J5 ug Kc),J6⟩)
 (vJ:codeIn K ug "Town.bring_down"=true)
 (nM:keepIn K (.ref du)=true)
 (Hi:findIn K (.ref bx) "first_letter"=some (some (.ref cR)))
 (Hj:isFn K (.ref cR)=true)
 (qQ:K.lookup cR=some ⟨Fz,Fw,.func (FO "first_letter" "Town.first_letter" kJ FJ FN FP Fx pX FQ),Fy⟩)
 (qR:codeIn K pX "Town.first_letter"=true)
 (kY:keepIn K (.ref cR)=true)
 (Rm:findIn K (.ref bx) "carry_out"=some (some (.ref dJ)))
 (Rn:isFn K (.ref dJ)=true)
 (yz:K.lookup dJ=some ⟨Nz,Nv,.func (FO "carry_out" "Town.carry_out" oM NB NK NP Nx vq NQ),Ny⟩)
 (yC:codeIn K vq "Town.carry_out"=true)
 (pB:keepIn K (.ref dJ)=true)
 (OD:findIn K (.ref bx) "all_rights"=some (some (.ref dN)))
 (OJ:isFn K (.ref dN)=true)
 (vK:K.lookup dN=some ⟨Kg,Kd,.func (FO "all_rights" "Town.all_rights" uN Kh Kl Km Ke uh Ko),Kf⟩)
 (vL:codeIn K uh "Town.all_rights"=true)
 (nO:keepIn K (.ref dN)=true)
 (Ro:findIn K (.ref bx) "rights_of"=some (some (.ref dZ)))
 (Rp:isFn K (.ref dZ)=true)
 (yD:K.lookup dZ=some ⟨N6,NT,.func (FO "rights_of" "Town.rights_of" xr N7 N8 Oa NZ vy Ob),N5⟩)
 (yE:codeIn K vy "Town.rights_of"=true)
 (pC:keepIn K (.ref dZ)=true)
 (Gz:findIn K (.ref bx) "waiting_desks"=some (some (.ref cP)))
 (GC:isFn K (.ref cP)=true)
 (p8:K.lookup cP=some ⟨Dk,Dh,.func (FO "waiting_desks" "Town.waiting_desks" jY Dl Dm Dn Di n6 Dp),Dj⟩)
 (qb:codeIn K n6 "Town.waiting_desks"=true)
 (kh:keepIn K (.ref cP)=true)
 (ahe:nsIn K mainGlobals "answer_of"=some (some (.ref jc)))
 (Sx:K.lookup jc=some ⟨aer,aeo,.func (FO "answer_of" "answer_of" Ej aes aet aeu aep Od aev),aeq⟩)
 (Sy:codeIn K Od "answer_of"=true)
 (SJ:keepIn K (.ref jc)=true)
 (ae1:nsIn K mainGlobals "town_after"=some (some (.ref iz)))
 (O1:K.lookup iz=some ⟨aaC,aaz,.func (FO "town_after" "town_after" yW aaD aaE aaF aaA HN aaG),aaB⟩)
 (O2:codeIn K HN "town_after"=true)
 (O3:keepIn K (.ref iz)=true)
 (ae2:nsIn K mainGlobals "left_after"=some (some (.ref iB)))
 (O4:K.lookup iB=some ⟨aaK,aaH,.func (FO "left_after" "left_after" yX aaL aaM aaN aaI HQ aaO),aaJ⟩)
 (O5:codeIn K HQ "left_after"=true)
 (O6:keepIn K (.ref iB)=true)
 (akI:nsIn K mainGlobals "_law_whole"=some (some (.ref lZ)))
 (ab0:K.lookup lZ=some ⟨ait,aiq,.func (FO "_law_whole" "_law_whole" PQ aiu aiv aiw air YQ aix),ais⟩)
 (ab1:codeIn K YQ "_law_whole"=true)
 (ab2:keepIn K (.ref lZ)=true)
 (atD:nsIn K mainGlobals "_law_at"=some (some (.ref Ep)))
 (am8:K.lookup Ep=some ⟨apo,apl,.func (FO "_law_at" "_law_at" ah3 apq apr aps apm ajA apt),apn⟩)
 (am9:codeIn K ajA "_law_at"=true)
 (ana:keepIn K (.ref Ep)=true)
 (anb:nsIn K mainGlobals "_law_same"=some (some (.ref pM)))
 (ahf:K.lookup pM=some ⟨akt,akq,.func (FO "_law_same" "_law_same" WL aku akv akx akr abZ aky),aks⟩)
 (ahg:codeIn K abZ "_law_same"=true)
 (ahh:keepIn K (.ref pM)=true)
 (ahi:nsIn K mainGlobals "_law_town_of"=some (some (.ref jd)))
 (SM:K.lookup jd=some ⟨aez,aew,.func (FO "_law_town_of" "_law_town_of" Ek aeA aeB aeC aex Oe aeD),aey⟩)
 (SN:codeIn K Oe "_law_town_of"=true)
 (SQ:keepIn K (.ref jd)=true)
 (apP:nsIn K mainGlobals "_law_bid"=some (some (.ref uR)))
 (ajG:K.lookup uR=some ⟨amW,amT,.func (FO "_law_bid" "_law_bid" acv amX amY amZ amU agB am0),amV⟩)
 (ajH:codeIn K agB "_law_bid"=true)
 (ajI:keepIn K (.ref uR)=true)
 (ae3:nsIn K mainGlobals "_law_lend_out"=some (some (.ref iC)))
 (O7:K.lookup iC=some ⟨aaS,aaP,.func (FO "_law_lend_out" "_law_lend_out" yZ aaT aaU aaV aaQ HR aaW),aaR⟩)
 (O8:codeIn K HR "_law_lend_out"=true)
 (O9:keepIn K (.ref iC)=true)
 (akJ:nsIn K mainGlobals "_law_serve"=some (some (.ref mj)))
 (ab3:K.lookup mj=some ⟨aiB,aiy,.func (FO "_law_serve" "_law_serve" PX aiC aiD aiE aiz YS aiF),aiA⟩)
 (ab4:codeIn K YS "_law_serve"=true)
 (ab5:keepIn K (.ref mj)=true)
 (ahj:nsIn K mainGlobals "_law_came_up"=some (some (.ref je)))
 (SX:K.lookup je=some ⟨aeH,aeE,.func (FO "_law_came_up" "_law_came_up" El aeI aeJ aeK aeF Og aeL),aeG⟩)
 (S5:codeIn K Og "_law_came_up"=true)
 (S6:keepIn K (.ref je)=true)
 (aiJ:nsIn K mainGlobals "_law_enough"=some (some (.ref j0)))
 (Zt:K.lookup j0=some ⟨agF,agC,.func (FO "_law_enough" "_law_enough" Je agG agH agI agD RQ agJ),agE⟩)
 (Zu:codeIn K RQ "_law_enough"=true)
 (Zv:keepIn K (.ref j0)=true)
 (abo:nsIn K mainGlobals "_law_fulfilled"=some (some (.ref gC)))
 (Ip:K.lookup gC=some ⟨YZ,YT,.func (FO "_law_fulfilled" "_law_fulfilled" vW Y0 Y4 Y5 YW FT Y6),YX⟩)
 (Ir:codeIn K FT "_law_fulfilled"=true)
 (Iu:keepIn K (.ref gC)=true)
 (abp:nsIn K mainGlobals "_law_came_down"=some (some (.ref gD)))
 (Iv:K.lookup gD=some ⟨Za,Y7,.func (FO "_law_came_down" "_law_came_down" vX Zb Zc Zd Y8 FW Ze),Y9⟩)
 (Iw:codeIn K FW "_law_came_down"=true)
 (Iz:keepIn K (.ref gD)=true)
 (Zw:nsIn K mainGlobals "_law_refusal_of"=some (some (.ref fU)))
 (GD:K.lookup fU=some ⟨Vq,Vn,.func (FO "_law_refusal_of" "_law_refusal_of" sS Vr Vs Vt Vo Bs Vu),Vp⟩)
 (GF:codeIn K Bs "_law_refusal_of"=true)
 (GJ:keepIn K (.ref fU)=true)
 (ae4:nsIn K mainGlobals "_law_answered"=some (some (.ref iD)))
 (Pa:K.lookup iD=some ⟨aa0,aaX,.func (FO "_law_answered" "_law_answered" za aa1 aa2 aa3 aaY HS aa4),aaZ⟩)
 (Pb:codeIn K HS "_law_answered"=true)
 (Pg:keepIn K (.ref iD)=true)
 (Zx:nsIn K mainGlobals "_law_numbers_of"=some (some (.ref fV)))
 (GK:K.lookup fV=some ⟨Vy,Vv,.func (FO "_law_numbers_of" "_law_numbers_of" sU Vz VB VD Vw Bu VF),Vx⟩)
 (GP:codeIn K Bu "_law_numbers_of"=true)
 (GQ:keepIn K (.ref fV)=true)
 (VN:nsIn K mainGlobals "_law_first_deeds"=some (some (.ref fB)))
 (BP:K.lookup fB=some ⟨Q8,Q5,.func (FO "_law_first_deeds" "_law_first_deeds" qp Q9 Ra Rb Q6 yj Rc),Q7⟩)
 (BR:codeIn K yj "_law_first_deeds"=true)
 (BV:keepIn K (.ref fB)=true)
 (ae5:nsIn K mainGlobals "_law_asked_of"=some (some (.ref iG)))
 (Ph:K.lookup iG=some ⟨aa8,aa5,.func (FO "_law_asked_of" "_law_asked_of" zb aa9 aba abb aa6 HW abd),aa7⟩)
 (Pj:codeIn K HW "_law_asked_of"=true)
 (Pk:keepIn K (.ref iG)=true)
 (aqu:nsIn K mainGlobals "law"=some (some (.ref WX)))
 (aqv:K.lookup WX=some ⟨atx,atu,.func (FO "law" "law" alN aty atz atA atv am1 atB),atw⟩)
 (aqw:codeIn K am1 "law"=true)
 (aqx:keepIn K (.ref WX)=true)
 (atE:nsIn K mainGlobals "NONE"=some (some (.str "none" am2)))
 (atF:nsIn K mainGlobals "READ"=some (some (.str "read" am3)))
 (apQ:nsIn K mainGlobals "WRITE"=some (some (.str "write" ajB)))
 (apR:nsIn K mainGlobals "RANKS"=some (some (.ref qY)))
 (anc:K.lookup qY=some ⟨.type "dict",none,.dict agK apu,#[]⟩)
 (ane:KeysLit w.params agK.toList)
 (akK:nsIn K qY "none"=some (some (.int 0 am4)))
 (akL:nsIn K qY "read"=some (some (.int 1 am5)))
 (akM:nsIn K qY "write"=some (some (.int 2 am6)))
 (atG:nsIn K mainGlobals "DONE"=some (some (.str "done" am7)))
 (apS:nsIn K mainGlobals "WAITS"=some (some (.str "waits" ajC)))
 (awG:nsIn K mainGlobals "len"=some none)
 (ahk:nsIn K mainGlobals "enumerate"=some none)
 (apT:nsIn K mainGlobals "range"=some none)
 (ae6:nsIn K mainGlobals "isinstance"=some none)
 (awH:nsIn K mainGlobals "int"=some none)
 (atH:nsIn K mainGlobals "bool"=some none)
 (atJ:nsIn K mainGlobals "list"=some none)
 (apU:nsIn K mainGlobals "tuple"=some none)
 (awI:nsIn K mainGlobals "str"=some none)
   : ∃fd:FuncData,(∀(s:Shared) (v:Value),BindsTo s fd ⟨[v],[]⟩ [("_law_script",v)])/\∀base:Heap,K.In base->base.Ns mainGlobals mg->c7 l.prog w K mg base nP 11 fa fd ["_law_script"] (ajz K):=by
  have e:=(mg_of X G aqu).symm.trans hfa
  cases e
  have T:Txt K w mg ⟨bu,bc,aW,aM,aV,aJ,bJ,aF,gQ,bx,zm,_,g8,_,fu,_,gq,_,gA,_,gB,_,jb,_,fQ,_,ie,_,dX,_,gk,_,ig,_,ik,_,il,_,fJ,_,eQ,_,dG,_,eU,_,cJ,_,ir,_,dH,_,cN,_,cB,_,cL,_,dj,_,bV,_,dI,_,cM,_,cO,_,iu,_,iw,_,iy,_,eV,_,dm,_,dq,_,eX,_,fK,_,eY,_,dY,_,du,_,cR,_,dJ,_,dN,_,dZ,_,cP,_,jc,_,iz,_,iB,_,lZ,_,Ep,_,pM,_,jd,_,uR,_,iC,_,mj,_,je,_,j0,_,gC,_,gD,_,fU,_,iD,_,fV,_,fB,_,iG,_,fa,_,qY⟩:=⟨PB aeO aeP,
   mg_of X G aeM,
   PB akC akD,
   mg_of X G akz,
   PB akE akF,
   mg_of X G akA,
   PB aiH aiI,
   mg_of X G aiG,
   PB akG akH,
   mg_of X G akB,
   PB agM agN,
   mg_of X G agL,
   ⟨agO,agP,agQ⟩,
   qJ,
   eZ,
   xG,
   xH,
   oW,
   uT,
   mY,
   xJ,
   oX,
   tH,
   lR,
   pN,
   ⟨agR,agS,agT⟩,
   qK,
   gb,
   xK,
   xM,
   xN,
   uU,
   mZ,
   xO,
   oY,
   tK,
   lU,
   pO,
   ⟨aeQ,aeR,aeS⟩,
   pP,
   iH,
   uV,
   uW,
   uX,
   uY,
   tL,
   uZ,
   m5,
   qL,
   kO,
   nR,
   ⟨agU,agV,agW⟩,
   qM,
   kW,
   xP,
   xQ,
   xR,
   xU,
   u0,
   u6,
   xV,
   tM,
   lV,
   pQ,
   ⟨abe,abf,abg⟩,
   nT,
   nU,
   tO,
   tQ,
   tR,
   tU,
   qN,
   qO,
   tV,
   tW,
   pR,
   m6,
   ⟨apy,apz,apA,apB⟩,
   ⟨acF,agY,agZ,apC⟩,
   mg_of X G apv,
   dR,
   jn,
   ⟨aeT,aeU,aeV,aeW⟩,
   ⟨zH,Rh,Ri,aeX⟩,
   mg_of X G aeN,
   fX,
   fc,
   cj,
   cW,
   cZ,
   d9,
   ⟨apD,apE,apF,apG⟩,
   ⟨acG,ag8,ag9,apH⟩,
   mg_of X G apw,
   pD,
   ⟨apI,apJ,apK,apL⟩,
   ⟨acH,ahc,ahd,apM⟩,
   mg_of X G apx,
   jo,
   qZ,
   fL,
   fG,
   fH,
   u9,
   aK ajD ajE ajF,
   (aK ajD ajE ajF).binds fun _ _ _ _ _ _ us h=>by obtain⟨_,rfl⟩:=K7 h;rfl,
   mg_of X G apO,
   aK Oh Oi Oj,
   (aK Oh Oi Oj).binds fun _ _ _ _ _ _ us h=>by obtain⟨_,_,rfl⟩:=jy h;rfl,
   mg_of X G aeY,
   aK Bv Bw Bx,
   (aK Bv Bw Bx).binds fun _ _ _ _ _ _ us h=>by obtain⟨_,_,rfl⟩:=jy h;rfl,
   mg_of X G VG,
   aK HX HY Ia,
   (aK HX HY Ia).binds fun _ _ _ _ _ _ us h=>by obtain⟨_,_,rfl⟩:=jy h;rfl,
   mg_of X G abh,
   aK Ib Ie Ig,
   (aK Ib Ie Ig).binds fun _ _ _ _ _ _ us h=>by obtain⟨_,_,_,rfl⟩:=K8 h;rfl,
   mg_of X G abi,
   aK Ih Ii Ij,
   (aK Ih Ii Ij).binds fun _ _ _ _ _ _ us h=>by obtain⟨_,_,rfl⟩:=jy h;rfl,
   mg_of X G abj,
   aK RT RV RW,
   (aK RT RV RW).binds fun _ _ _ _ _ _ us h=>by obtain⟨_,_,rfl⟩:=jy h;rfl,
   mg_of X G agX,
   aK FZ Ga Gb,
   (aK FZ Ga Gb).binds fun _ _ _ _ _ _ us h=>by obtain⟨_,rfl⟩:=K7 h;rfl,
   mg_of X G Zf,
   aK RX RZ R0,
   (aK RX RZ R0).binds fun _ _ _ _ _ _ us h=>by obtain⟨_,rfl⟩:=K7 h;rfl,
   aK By BJ qG,
   (aK By BJ qG).binds fun _ _ _ _ _ _ us h=>by obtain⟨_,_,rfl⟩:=jy h;rfl,
   ⟨VH,VJ,qG⟩,
   aK Ol Om An,
   (aK Ol Om An).binds fun _ _ _ _ _ _ us h=>by obtain⟨_,rfl⟩:=K7 h;rfl,
   ⟨aeZ,ae0,An⟩,
   aK R1 R3 Gd,
   (aK R1 R3 Gd).binds fun _ _ _ _ _ _ us h=>by obtain⟨_,_,rfl⟩:=jy h;rfl,
   ⟨ag0,ag1,Gd⟩,
   aK R4 R5 Ge,
   (aK R4 R5 Ge).binds fun _ _ _ _ _ _ us h=>by obtain⟨_,_,rfl⟩:=jy h;rfl,
   ⟨ag2,ag3,Ge⟩,
   aK R6 R7 Gf,
   (aK R6 R7 Gf).binds fun _ _ _ _ _ _ us h=>by obtain⟨_,_,rfl⟩:=jy h;rfl,
   ⟨ag4,ag5,Gf⟩,
   aK Ik Il wN,
   (aK Ik Il wN).binds fun _ _ _ _ _ _ us h=>by obtain⟨_,_,rfl⟩:=jy h;rfl,
   ⟨abk,abl,wN⟩,
   aK Gg Gh um,
   (aK Gg Gh um).binds fun _ _ _ _ _ _ us h=>by obtain⟨_,_,rfl⟩:=jy h;rfl,
   ⟨Zg,Zh,um⟩,
   aK ym yo pq,
   (aK ym yo pq).binds fun _ _ _ _ _ _ us h=>by obtain⟨_,_,_,_,rfl⟩:=arK h;rfl,
   ⟨Rf,Rg,pq⟩,
   aK Gi Gj uo,
   (aK Gi Gj uo).binds fun _ _ _ _ _ _ us h=>by obtain⟨_,_,_,rfl⟩:=K8 h;rfl,
   ⟨Zi,Zj,uo⟩,
   aK n8 oh jF,
   (aK n8 oh jF).binds fun _ _ _ _ _ _ us h=>by obtain⟨_,_,rfl⟩:=jy h;rfl,
   ⟨Dq,Dr,jF⟩,
   aK R8 R9 Gk,
   (aK R8 R9 Gk).binds fun _ _ _ _ _ _ us h=>by obtain⟨_,_,_,_,rfl⟩:=arK h;rfl,
   ⟨ag6,ag7,Gk⟩,
   aK yp yq yr,
   (aK yp yq yr).binds fun _ _ _ _ _ _ us h=>by obtain⟨_,_,_,rfl⟩:=K8 h;rfl,
   aK pY pZ j6,
   (aK pY pZ j6).binds fun _ _ _ _ _ _ us h=>by obtain⟨_,_,_,rfl⟩:=K8 h;rfl,
   ⟨Gm,Gn,j6⟩,
   aK mq my iZ,
   (aK mq my iZ).binds fun _ _ _ _ _ _ us h=>by obtain⟨_,_,rfl⟩:=jy h;rfl,
   ⟨yt,yu,iZ⟩,
   aK ou oA jG,
   (aK ou oA jG).binds fun _ _ _ _ _ _ us h=>by obtain⟨_,_,_,rfl⟩:=K8 h;rfl,
   ⟨Ds,Dt,jG⟩,
   aK vA vB nF,
   (aK vA vB nF).binds fun _ _ _ _ _ _ us h=>by obtain⟨_,rfl⟩:=K7 h;rfl,
   ⟨Oo,Oq,nF⟩,
   aK j7 j8 gM,
   (aK j7 j8 gM).binds fun _ _ _ _ _ _ us h=>by obtain⟨_,rfl⟩:=K7 h;rfl,
   ⟨uq,ur,gM⟩,
   aK yw yx pA,
   (aK yw yx pA).binds fun _ _ _ _ _ _ us h=>by obtain⟨_,rfl⟩:=K7 h;rfl,
   ⟨Rj,Rk,pA⟩,
   aK oE oF jH,
   (aK oE oF jH).binds fun _ _ _ _ _ _ us h=>by obtain⟨_,_,rfl⟩:=jy h;rfl,
   ⟨Du,Dv,jH⟩,
   aK p6 p7 j9,
   (aK p6 p7 j9).binds fun _ _ _ _ _ _ us h=>by obtain⟨_,_,rfl⟩:=jy h;rfl,
   ⟨Gp,Gq,j9⟩,
   aK Sd Sg Sh,
   (aK Sd Sg Sh).binds fun _ _ _ _ _ _ us h=>by obtain⟨_,_,rfl⟩:=jy h;rfl,
   aK Sq Ss Gr,
   (aK Sq Ss Gr).binds fun _ _ _ _ _ _ us h=>by obtain⟨_,_,_,rfl⟩:=K8 h;rfl,
   ⟨aha,ahb,Gr⟩,
   aK Su Sv Sw,
   (aK Su Sv Sw).binds fun _ _ _ _ _ _ us h=>by obtain⟨_,_,_,rfl⟩:=K8 h;rfl,
   aK Gs Gu ux,
   (aK Gs Gu ux).binds fun _ _ _ _ _ _ us h=>by obtain⟨_,_,rfl⟩:=jy h;rfl,
   ⟨Zk,Zm,ux⟩,
   aK vC vD nG,
   (aK vC vD nG).binds fun _ _ _ _ _ _ us h=>by obtain⟨_,_,rfl⟩:=jy h;rfl,
   ⟨Ot,Ou,nG⟩,
   aK vG vH nJ,
   (aK vG vH nJ).binds fun _ _ _ _ _ _ us h=>by obtain⟨_,_,rfl⟩:=jy h;rfl,
   ⟨Ov,Ow,nJ⟩,
   aK Gv Gw uy,
   (aK Gv Gw uy).binds fun _ _ _ _ _ _ us h=>by obtain⟨_,_,_,rfl⟩:=K8 h;rfl,
   ⟨Zn,Zo,uy⟩,
   aK Im Io wO,
   (aK Im Io wO).binds fun _ _ _ _ _ _ us h=>by obtain⟨_,_,_,_,rfl⟩:=arK h;rfl,
   ⟨abm,abn,wO⟩,
   aK Gx Gy uz,
   (aK Gx Gy uz).binds fun _ _ _ _ _ _ us h=>by obtain⟨_,_,_,rfl⟩:=K8 h;rfl,
   ⟨Zq,Zr,uz⟩,
   aK BK BL qH,
   (aK BK BL qH).binds fun _ _ _ _ _ _ us h=>by obtain⟨_,_,rfl⟩:=jy h;rfl,
   ⟨VL,VM,qH⟩,
   aK vI vJ nM,
   (aK vI vJ nM).binds fun _ _ _ _ _ _ us h=>by obtain⟨_,_,rfl⟩:=jy h;rfl,
   ⟨Ox,Oz,nM⟩,
   aK qQ qR kY,
   (aK qQ qR kY).binds fun _ _ _ _ _ _ us h=>by obtain⟨_,_,rfl⟩:=jy h;rfl,
   ⟨Hi,Hj,kY⟩,
   aK yz yC pB,
   (aK yz yC pB).binds fun _ _ _ _ _ _ us h=>by obtain⟨_,_,_,rfl⟩:=K8 h;rfl,
   ⟨Rm,Rn,pB⟩,
   aK vK vL nO,
   (aK vK vL nO).binds fun _ _ _ _ _ _ us h=>by obtain⟨_,rfl⟩:=K7 h;rfl,
   ⟨OD,OJ,nO⟩,
   aK yD yE pC,
   (aK yD yE pC).binds fun _ _ _ _ _ _ us h=>by obtain⟨_,_,rfl⟩:=jy h;rfl,
   ⟨Ro,Rp,pC⟩,
   aK p8 qb kh,
   (aK p8 qb kh).binds fun _ _ _ _ _ _ us h=>by obtain⟨_,rfl⟩:=K7 h;rfl,
   ⟨Gz,GC,kh⟩,
   aK Sx Sy SJ,
   (aK Sx Sy SJ).binds fun _ _ _ _ _ _ us h=>by obtain⟨_,_,rfl⟩:=jy h;rfl,
   mg_of X G ahe,
   aK O1 O2 O3,
   (aK O1 O2 O3).binds fun _ _ _ _ _ _ us h=>by obtain⟨_,_,_,rfl⟩:=K8 h;rfl,
   mg_of X G ae1,
   aK O4 O5 O6,
   (aK O4 O5 O6).binds fun _ _ _ _ _ _ us h=>by obtain⟨_,_,_,rfl⟩:=K8 h;rfl,
   mg_of X G ae2,
   aK ab0 ab1 ab2,
   (aK ab0 ab1 ab2).binds fun _ _ _ _ _ _ us h=>by obtain⟨_,rfl⟩:=K7 h;rfl,
   mg_of X G akI,
   aK am8 am9 ana,
   (aK am8 am9 ana).binds fun _ _ _ _ _ _ us h=>by obtain⟨_,_,rfl⟩:=jy h;rfl,
   mg_of X G atD,
   aK ahf ahg ahh,
   (aK ahf ahg ahh).binds fun _ _ _ _ _ _ us h=>by obtain⟨_,_,rfl⟩:=jy h;rfl,
   mg_of X G anb,
   aK SM SN SQ,
   (aK SM SN SQ).binds fun _ _ _ _ _ _ us h=>by obtain⟨_,_,rfl⟩:=jy h;rfl,
   mg_of X G ahi,
   aK ajG ajH ajI,
   (aK ajG ajH ajI).binds fun _ _ _ _ _ _ us h=>by obtain⟨_,_,rfl⟩:=jy h;rfl,
   mg_of X G apP,
   aK O7 O8 O9,
   (aK O7 O8 O9).binds fun _ _ _ _ _ _ us h=>by obtain⟨_,_,rfl⟩:=jy h;rfl,
   mg_of X G ae3,
   aK ab3 ab4 ab5,
   (aK ab3 ab4 ab5).binds fun _ _ _ _ _ _ us h=>by obtain⟨_,_,rfl⟩:=jy h;rfl,
   mg_of X G akJ,
   aK SX S5 S6,
   (aK SX S5 S6).binds fun _ _ _ _ _ _ us h=>by obtain⟨_,_,rfl⟩:=jy h;rfl,
   mg_of X G ahj,
   aK Zt Zu Zv,
   (aK Zt Zu Zv).binds fun _ _ _ _ _ _ us h=>by obtain⟨_,_,rfl⟩:=jy h;rfl,
   mg_of X G aiJ,
   aK Ip Ir Iu,
   (aK Ip Ir Iu).binds fun _ _ _ _ _ _ us h=>by obtain⟨_,_,_,rfl⟩:=K8 h;rfl,
   mg_of X G abo,
   aK Iv Iw Iz,
   (aK Iv Iw Iz).binds fun _ _ _ _ _ _ us h=>by obtain⟨_,_,rfl⟩:=jy h;rfl,
   mg_of X G abp,
   aK GD GF GJ,
   (aK GD GF GJ).binds fun _ _ _ _ _ _ us h=>by obtain⟨_,_,rfl⟩:=jy h;rfl,
   mg_of X G Zw,
   aK Pa Pb Pg,
   (aK Pa Pb Pg).binds fun _ _ _ _ _ _ us h=>by obtain⟨_,_,rfl⟩:=jy h;rfl,
   mg_of X G ae4,
   aK GK GP GQ,
   (aK GK GP GQ).binds fun _ _ _ _ _ _ us h=>by obtain⟨_,_,rfl⟩:=jy h;rfl,
   mg_of X G Zx,
   aK BP BR BV,
   (aK BP BR BV).binds fun _ _ _ _ _ _ us h=>by obtain⟨_,_,rfl⟩:=jy h;rfl,
   mg_of X G VN,
   aK Ph Pj Pk,
   (aK Ph Pj Pk).binds fun _ _ _ _ _ _ us h=>by obtain⟨_,_,_,rfl⟩:=K8 h;rfl,
   mg_of X G ae5,
   aK aqv aqw aqx,
   (aK aqv aqw aqx).binds fun _ _ _ _ _ _ us h=>by obtain⟨_,rfl⟩:=K7 h;rfl,
   mg_of X G aqu,
   ⟨am2,mg_of X G atE⟩,
   ⟨am3,mg_of X G atF⟩,
   ⟨ajB,mg_of X G apQ⟩,
   mg_of X G apR,
   arb anc ane akK akL akM,
   ⟨am7,mg_of X G atG⟩,
   ⟨ajC,mg_of X G apS⟩,
   mg_none_of X G awG,
   mg_none_of X G ahk,
   mg_none_of X G apT,
   mg_none_of X G ae6,
   mg_none_of X G awH,
   mg_none_of X G atH,
   mg_none_of X G atJ,
   mg_none_of X G apU,
   mg_none_of X G awI⟩
  exact⟨_,fun s v=>.of_eq rfl,fun base _ _=>ath T⟩
end
theorem walk{l:PySem.W.OpenLaw}{q:Program}{loose:List Str}{XP:(Str->Option Value)->Heap->Prop}{YP:World->Heap->Prop}{d:DefRec}{K:Params->PySem.W.Frag}(hn:l.most=some 63)(hdf:d.params.defaults=[])
 (hY:∀(w:World) (h:Heap),YP w h->(K w.params).In h)
 (F:∀(w:World) (mg:Str->Option Value) (fa:Addr) (h:Heap),(K w.params).In h->h.Ns mainGlobals mg->mg d.name=some (.ref fa)->
   ∃fd:FuncData,(∀(s:Shared) (u:Value),BindsTo s fd ⟨[u],[]⟩ [("_law_script",u)])/\∀base:Heap,(K w.params).In base->base.Ns mainGlobals mg->c7 l.prog w (K w.params) mg base nP 11 fa fd ["_law_script"] (ajz (K w.params))) :
 PySem.W.WalkO q loose XP YP l.row.toRowW d [] (fun f vs=>PySem.call f vs) :=
 L2.anF (n:=63) (k:=11) (x:="_law_script") (CX:=fun _=>nP) (sp:=fun w=>ajz (K w.params)) hn (by decide) hdf ⟨rfl,by decide,by decide⟩ hY F (fun _ _ a ns hl _ hS=>⟨a,ns,rfl,hS,hl,fun _=>rfl⟩) fun _ _ _ _ _ z=>z
end gH
open PySem PySem.W PyProof.Rows
set_option maxRecDepth 100000 in
set_option maxHeartbeats 0 in
theorem PySem.Challenge.cw_copydesks_k06_what_is_left_holds : PySem.Challenge.rw_copydesks_k06_what_is_left.Holds := by
 w_on;refine PySem.W.holds_law H1.said fun said=>?_
 refine PySem.W.holds_open (r:=PySem.W.OpenLaw.row H1.rw_) (q:=H1.q) (loose:=["RANKS"]) (d:=H1.d) (kwd:=[]) (Xt:=H1.Xt) (XP:=PySem.W.XL H1.q []) (YP:=PySem.W.InK H1.K0.heap_1) H1.hl (PySem.W.InK.of H1.KAe) PySem.W.InK.keeps (fun s e=>PySem.W.xl_of s (Bool.and_eq_true_iff.mp e).1) PySem.W.XL.keeps H1.hdef H1.hp H1.hk (fun s e=>PySem.W.recFacts_of (Bool.and_eq_true_iff.mp e).2) rfl said H1.ok ⟨rfl,rfl,rfl,rfl,rfl,by decide +kernel⟩ ?hw ?hc
 (case hw=>w_witness2)
 k_fill
 refine gH.walk (l:=PySem.Challenge.rw_copydesks_k06_what_is_left) rfl H1.hdf (fun w h Y=>Y) ?F
 case F =>
  intro w mg fa h KX G hmg
  refine' gH.all_mk KX G hmg ?_ ?_ ?_ ?_ ?_ ?_ ?_ ?_ ?_ ?_ ?_ ?_ ?_ ?_ ?_ ?_ ?_ ?_ ?_ ?_ ?_ ?_ ?_ ?_ ?_ ?_ ?_ ?_ ?_ ?_ ?_ ?_ ?_ ?_ ?_ ?_ ?_ ?_ ?_ ?_ ?_ ?_ ?_ ?_ ?_ ?_ ?_ ?_ ?_ ?_ ?_ ?_ ?_ ?_ ?_ ?_ ?_ ?_ ?_ ?_ ?_ ?_ ?_ ?_ ?_ ?_ ?_ ?_ ?_ ?_ ?_ ?_ ?_ ?_ ?_ ?_ ?_ ?_ ?_ ?_ ?_ ?_ ?_ ?_ ?_ ?_ ?_ ?_ ?_ ?_ ?_ ?_ ?_ ?_ ?_ ?_ ?_ ?_ ?_ ?_ ?_ ?_ ?_ ?_ ?_ ?_ ?_ ?_ ?_ ?_ ?_ ?_ ?_ ?_ ?_ ?_ ?_ ?_ ?_ ?_ ?_ ?_ ?_ ?_ ?_ ?_ ?_ ?_ ?_ ?_ ?_ ?_ ?_ ?_ ?_ ?_ ?_ ?_ ?_ ?_ ?_ ?_ ?_ ?_ ?_ ?_ ?_ ?_ ?_ ?_ ?_ ?_ ?_ ?_ ?_ ?_ ?_ ?_ ?_ ?_ ?_ ?_ ?_ ?_ ?_ ?_ ?_ ?_ ?_ ?_ ?_ ?_ ?_ ?_ ?_ ?_ ?_ ?_ ?_ ?_ ?_ ?_ ?_ ?_ ?_ ?_ ?_ ?_ ?_ ?_ ?_ ?_ ?_ ?_ ?_ ?_ ?_ ?_ ?_ ?_ ?_ ?_ ?_ ?_ ?_ ?_ ?_ ?_ ?_ ?_ ?_ ?_ ?_ ?_ ?_ ?_ ?_ ?_ ?_ ?_ ?_ ?_ ?_ ?_ ?_ ?_ ?_ ?_ ?_ ?_ ?_ ?_ ?_ ?_ ?_ ?_ ?_ ?_ ?_ ?_ ?_ ?_ ?_ ?_ ?_ ?_ ?_ ?_ ?_ ?_ ?_ ?_ ?_ ?_ ?_ ?_ ?_ ?_ ?_ ?_ ?_ ?_ ?_ ?_ ?_ ?_ ?_ ?_ ?_ ?_ ?_ ?_ ?_ ?_ ?_ ?_ ?_ ?_ ?_ ?_ ?_ ?_ ?_ ?_ ?_ ?_ ?_ ?_ ?_ ?_ ?_ ?_ ?_ ?_ ?_ ?_ ?_ ?_ ?_ ?_ ?_ ?_ ?_ ?_ ?_ ?_ ?_ ?_ ?_ ?_ ?_ ?_ ?_ ?_ ?_ ?_ ?_ ?_ ?_ ?_ ?_ ?_ ?_ ?_ ?_ ?_ ?_ ?_ ?_ ?_ ?_ ?_ ?_ ?_ ?_ ?_ ?_ ?_ ?_ ?_ ?_ ?_ ?_ ?_ ?_ ?_ ?_ ?_ ?_ ?_ ?_ ?_ ?_ ?_ ?_ ?_ ?_ ?_ ?_ ?_ ?_ ?_ ?_ ?_ ?_ ?_ ?_ ?_ ?_ ?_ ?_ ?_ ?_ ?_ ?_ ?_ ?_ ?_ ?_ ?_ ?_ ?_ ?_ ?_ ?_ ?_ ?_ ?_ ?_ ?_ ?_ ?_ ?_ ?_ ?_ ?_ ?_ ?_ ?_ ?_ ?_ ?_ ?_ ?_ ?_ ?_ ?_ ?_ ?_ ?_ ?_ ?_ ?_ ?_ ?_ ?_ ?_ ?_ ?_ ?_ ?_ ?_ ?_ ?_ ?_ ?_ ?_ ?_ ?_ ?_ ?_ ?_ ?_ ?_ ?_ ?_ ?_ ?_ ?_ ?_ ?_ ?_ ?_ ?_ ?_ ?_ ?_ ?_ ?_ ?_ ?_ ?_ ?_
  all_goals try first | k_is | kernel_rfl | decide | exact⟨⟨_,_,rfl,rfl⟩,⟨⟨_,_,rfl,rfl⟩,⟨⟨_,_,rfl,rfl⟩,trivial⟩⟩⟩
