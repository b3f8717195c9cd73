import PyProof.Rows.All
import Wide.All
import OpenK.AllK
import Wide.FinOn
import Lean
import PyProof.EqAt
import PyProof.EqKinds
import PyProof.NeKinds
import PyProof.TupleCall
import PySem.Challenge.RW_copydesks_k04_whole_nobody_waits_for_eve
set_option Elab.async false
set_option maxRecDepth 100000
set_option maxHeartbeats 4000000
local macro_rules|`(∅)=>`(by decide +kernel)
local macro_rules|`(⟨⟩)=>`(by intro z;cases z)
namespace H1
open PySem PySem.W PySem.Calls PyProof.Rows
noncomputable def fN {α:Type} (n:Nat) (k:Nat->α):α := @Nat.rec (λ_=>α) (k 0) (λm _=>k (Nat.succ m)) n
theorem avq{α:Type}(n:Nat)(k:Nat->α):fN n k=k n:=by cases n<;>rfl
noncomputable def run (tb:String->Option Builtin) (p:Program) (w:World) (n₀:Nat) (ann:Option Value):Nat->SharedT->Thread->Option SharedT
 | 0,_,_=>none
 | n+1,s,t=>match through t with
   | true=>some s
   | false=>match stepOk n₀ ann t with
     | false=>none
     | true=>match stepT (denote tb) p w s t with
       | some (⟨T,k,l,g,d,tk,os⟩,t')=>fN tk λtk=>fN k λk=>run tb p w n₀ ann n ⟨T,k,l,g,d,tk,os⟩ t'
       | none=>none
section
variable{tb:String->Option Builtin}{p:Program}{w:World}{n₀:Nat}{ann:Option Value}
theorem apl:∀{n:Nat} {s s':SharedT} {t:Thread},run tb p w n₀ ann n s t=some s'->topRun tb p w n₀ ann n s.abs t=some s'.abs
 | 0,_,_,_,h=>by cases h
 | n+1,s,s',t,h=>by unfold run at h;unfold topRun;cases he:through t with| true=>rw[he]at h;cases h;rfl| false=>rw[he]at h;cases hk:stepOk n₀ ann t with| false=>rw[hk]at h;cases h| true=>rw[hk]at h;cases hs:stepT (denote tb) p w s t with| none=>rw[hs]at h;cases h| some r=>obtain⟨⟨T,k,l,g,d,tk,os⟩,t₂⟩:=r;rw[hs]at h;rw[stepT_spec hs];dsimp only at h;rw[avq,avq]at h;exact apl h
end
def looks(p q:Program)(loose:List Str)(Xt:Shared->Bool){α:Type}(Yf:Shared->α)(g0:Bool)(H₀:Heap)(s:Shared):=
 (staticsOk (importedModules p.main.body) H₀ s.heap && namesBound p s.heap && gensDone s && laidKept H₀ s.heap,openSeen q loose (importedModules p.main.body) Xt g0 s,Yf s)
def looks0(p q:Program)(loose:List Str)(Xt:Shared->Bool)(H₀:Heap)(s:Shared):=
 (staticsOk (importedModules p.main.body) H₀ s.heap && namesBound p s.heap && gensDone s && laidKept H₀ s.heap,openSeen q loose (importedModules p.main.body) Xt true s)
theorem left{p q:Program}{loose:List Str}{Xt:Shared->Bool}{α:Type}{Yf:Shared->α}{Ya:World->α}{N M:Nat}{g0:Bool}{T₀:Params->BT}{n₀:Nat}{life:Life}{gs₀:Array GenState}{d₀:Drawn}{k₀:Nat}{ann:Option Value}
 (open_:∀w:World,(fencedOpening treeTable p w N).map (λs=>(s.heap,s.gens,s.drawn,s.toks))=some (absHeap (T₀ w.params) n₀ life,gs₀,d₀,k₀))
 (size:∀w:World,((absHeap (T₀ w.params) n₀ life).isNs mainGlobals && gs₀.size == 0,(absHeap (T₀ w.params) n₀ life).nsMap mainGlobals "__annotations__")=(true,ann))
 (h:∀w:World,(λos=>(run treeTable p w n₀ ann M ⟨T₀ w.params,n₀,life,gs₀,d₀,k₀,os⟩ (topStub p)).map λs=>looks p q loose Xt Yf g0 (absHeap (T₀ w.params) n₀ life) s.abs)=λ_=>some (true,openGood q loose,Ya w))
 (le:Nat.ble M N=true):LeftO p q loose Xt Yf Ya N g0:=λw=>by
 obtain⟨⟨h0,gs,d,k,os⟩,e,e'⟩:=Option.map_eq_some_iff.mp (open_ w)
 obtain⟨rfl,rfl,rfl,rfl⟩:h0=absHeap (T₀ w.params) n₀ life/\gs=gs₀/\d=d₀/\k=k₀:=by simpa using e'
 obtain⟨z1,z3⟩:_/\_:=by simpa only[Prod.mk.injEq] using size w
 obtain⟨sT,r0,l0⟩:=Option.map_eq_some_iff.mp (congrFun (h w) os)
 obtain⟨l1,l2,l3⟩:_/\_/\_:=by simpa only[looks,Prod.mk.injEq] using l0
 have r:=topRun_mono (N - M) _ _ _ _ (apl r0)
 rw[show M+(N - M)=N by have:=Nat.le_of_ble_eq_true le;lia]at r
 have t:topFrom treeTable p w N ⟨absHeap (T₀ w.params) n₀ life,gs,d,k,os⟩=some sT.abs:=by
  unfold topFrom
  dsimp only
  rw[z1,absHeap_size,z3]
  have r':topRun treeTable p w n₀ ann N ⟨absHeap (T₀ w.params) n₀ life,gs,d,k,os⟩ (topStub p)=some sT.abs:=r
  rw[r']
  show(match staticsOk (importedModules p.main.body) (absHeap (T₀ w.params) n₀ life) sT.abs.heap && namesBound p sT.abs.heap && gensDone sT.abs && laidKept (absHeap (T₀ w.params) n₀ life) sT.abs.heap with | true=>_ | false=>_)=_
  rw[l1]
 unfold openEnds
 rw[e]
 show(topFrom treeTable p w N _).map _=_
 rw[t]
 exact congrArg some (Prod.ext l2 l3)
theorem azD{p q:Program}{loose:List Str}{Xt:Shared->Bool}{α:Type}{Yf:Shared->α}{Ya:World->α}{N M:Nat}{g0:Bool}{T₀:Params->BT}{n₀:Nat}{life:Life}{gs₀:Array GenState}{d₀:Drawn}{k₀:Nat}{ann:Option Value}(row:String)
 (open_:∀w:World,(fencedOpening treeTable p w N).map (λs=>(s.heap,s.gens,s.drawn,s.toks))=some (absHeap (T₀ w.params) n₀ life,gs₀,d₀,k₀))
 (size:∀w:World,((absHeap (T₀ w.params) n₀ life).isNs mainGlobals && gs₀.size == 0,(absHeap (T₀ w.params) n₀ life).nsMap mainGlobals "__annotations__")=(true,ann))
 (h0:∀w:World,(λos=>(run treeTable p (w.withFollow row false) n₀ ann M ⟨T₀ (w.withFollow row false).params,n₀,life,gs₀,d₀,k₀,os⟩ (topStub p)).map λs=>looks p q loose Xt Yf g0 (absHeap (T₀ (w.withFollow row false).params) n₀ life) s.abs)=λ_=>some (true,openGood q loose,Ya (w.withFollow row false)))
 (h1:∀w:World,(λos=>(run treeTable p (w.withFollow row true) n₀ ann M ⟨T₀ (w.withFollow row true).params,n₀,life,gs₀,d₀,k₀,os⟩ (topStub p)).map λs=>looks p q loose Xt Yf g0 (absHeap (T₀ (w.withFollow row true).params) n₀ life) s.abs)=λ_=>some (true,openGood q loose,Ya (w.withFollow row true)))
 (le:Nat.ble M N=true):LeftO p q loose Xt Yf Ya N g0:=
 left open_ size (λw=>by
  have e:=World.withFollow_self w row
  cases hb:w.params.followText row with
  | false=>rw[hb]at e;have:=h0 w;rw[e]at this;exact this
  | true=>rw[hb]at e;have:=h1 w;rw[e]at this;exact this) le
theorem glue{β γ:Type}{r:Option β}{f:β->γ}{δ:Type}{g:β->δ}{a:γ}{b:δ}(x:r.map f=some a)(y:r.map g=some b):r.map (λs=>(f s,g s))=some (a,b):=by
 cases r with| none=>cases x| some s=>cases x;cases y;rfl
theorem both{p q:Program}{loose:List Str}{Xt:Shared->Bool}{α:Type}{Yf:Shared->α}{M:Nat}{n₀:Nat}{life:Life}{gs₀:Array GenState}{d₀:Drawn}{k₀:Nat}{ann:Option Value}{w:World}{T:BT}{y:α}
 (x:(λos=>(run treeTable p w n₀ ann M ⟨T,n₀,life,gs₀,d₀,k₀,os⟩ (topStub p)).map λs=>looks0 p q loose Xt (absHeap T n₀ life) s.abs)=λ_=>some (true,openGood q loose))
 (z:(λos=>(run treeTable p w n₀ ann M ⟨T,n₀,life,gs₀,d₀,k₀,os⟩ (topStub p)).map λs=>Yf s.abs)=λ_=>some y) :
 (λos=>(run treeTable p w n₀ ann M ⟨T,n₀,life,gs₀,d₀,k₀,os⟩ (topStub p)).map λs=>looks p q loose Xt Yf true (absHeap T n₀ life) s.abs)=λ_=>some (true,openGood q loose,y):=by
 funext os;have e:=glue (congrFun x os) (congrFun z os);cases h:run treeTable p w n₀ ann M ⟨T,n₀,life,gs₀,d₀,k₀,os⟩ (topStub p)with| none=>rw[h]at e;cases e| some s=>rw[h]at e;simp only[Option.map_some,Option.some.injEq,Prod.mk.injEq,looks0,looks]at e ⊢;exact⟨e.1.1,e.1.2,e.2⟩
noncomputable def mkT (l:List Obj):Nat->Nat->Nat->BT
 | 0,_,_=>.nil
 | f+1,a,b=>match l[b]? with
   | some o=>.node o (mkT l f (2*a) (a+b)) (mkT l f (2*a) (2*a+b))
   | none=>.nil
noncomputable def T0 (P:Params):BT:=mkT (boot_heap P).objs.toList 12 1 0
theorem t0(P:Params):absHeap (T0 P) 11 {}=boot_heap P:=by kernel_rfl
theorem opens{p:Program}{N:Nat}(e:opening p=plainProg p.main.scope.names)(hN:Nat.ble 600 N=true)(f:∀s,fenceModules? p s=some s)(w:World):(fencedOpening treeTable p w N).map (λs=>(s.heap,s.gens,s.drawn,s.toks))=some (absHeap (T0 w.params) 11 {},#[],boot_drawn,boot_toks):=by
 rw[t0];exact boot_open e hN f w
theorem sizes(w:World):((absHeap (T0 w.params) 11 {}).isNs mainGlobals && (#[]:Array GenState).size == 0,(absHeap (T0 w.params) 11 {}).nsMap mainGlobals "__annotations__")=(true,some (.ref 6)):=by
 rw[t0];kernel_rfl
end H1
lay_quick H1.run H1.looks0
set_option Elab.async false
set_option linter.all false
set_option maxRecDepth 100000
namespace PySem
theorem wF:0<=sizeLine:=by decide
theorem zz1:1<=sizeLine:=by decide
theorem sS:2<=sizeLine:=by decide
theorem Zh:3<=sizeLine:=by decide
theorem zz4:4<=sizeLine:=by decide
theorem zz5:5<=sizeLine:=by decide
theorem zz6:6<=sizeLine:=by decide
theorem zz7:7<=sizeLine:=by decide
theorem zz8:8<=sizeLine:=by decide
theorem zz9:9<=sizeLine:=by decide
end PySem
namespace L2
open List
open PySem.W (Frag emptyDict findIn fnOf hideAll instObj isFn keepIn kia_one kia_tup kitAny kitOne lookIn nsIn)
open PySem.F (plainAttrs_list slot_list_pop type_list_pop)
open Nat (le_succ lt_of_lt_of_le ne_of_lt zero_le)
theorem lW{α β:Type}{p r q:α->β->Prop}{C:Prop}(h:∃x y,p x y/\r x y/\q x y)(k:∀x y,p x y->r x y->q x y->C):C:=Exists.elim h λx h=>Exists.elim h λy h=>k x y h.1 h.2.1 h.2.2
theorem ex3{β:Type}{p q:β->Prop}{C:Prop}(h:∃y,p y/\q y)(k:∀y,p y->q y->C):C:=Exists.elim h λy h=>k y h.1 h.2
theorem ex4{α β:Type}{p q:α->β->Prop}{C:Prop}(h:∃x y,p x y/\q x y)(k:∀x y,p x y->q x y->C):C:=Exists.elim h λx h=>Exists.elim h λy h=>k x y h.1 h.2
open PySem PySem.Spec PyProof.Rows
abbrev Key:=Sum Int Str
def aen:Key->Value->Bool
 | .inl k,v=>Value.isInt k v
 | .inr x,v=>Value.isStrOf x v
def aC0(w:World):Key->Int
 | .inl k=>hashInt k
 | .inr x=>hashStr w x
theorem iG:∀{k:Key} {v:Value},aen k v=true->(∃i t,k=Sum.inl i/\v=Value.int i t)\/(∃x t,k=Sum.inr x/\v=Value.str x t)
 | .inl i,v,h=>by obtain⟨t,e⟩:=Value.isInt_shape (k:=i) (v:=v) h;exact .inl ⟨i,t,rfl,e⟩
 | .inr x,v,h=>by obtain⟨t,e⟩:=Value.isStrOf_shape (x:=x) (v:=v) h;exact .inr ⟨x,t,rfl,e⟩
theorem anR(i:Int)(t:Tok):aen (.inl i) (.int i t)=true:=by simp[aen,Value.isInt]
theorem anS(x:Str)(t:Tok):aen (.inr x) (.str x t)=true:=by simp[aen,Value.isStrOf]
theorem awb(a b:Int):decide ((Sum.inl a:Key)=Sum.inl b)=(a == b):=by
 by_cases e:a=b;{subst e;simp};{have h:¬(Sum.inl a:Key)=Sum.inl b:=λq=>e (Sum.inl.inj q);rw[decide_eq_false h];exact(beq_eq_false_iff_ne.mpr e).symm}
theorem awc(a b:Str):decide ((Sum.inr a:Key)=Sum.inr b)=decide (a=b):=by
 by_cases e:a=b;{subst e;simp};{have h:¬(Sum.inr a:Key)=Sum.inr b:=λq=>e (Sum.inr.inj q);rw[decide_eq_false h,decide_eq_false e]}
theorem awd(a:Int)(b:Str):decide ((Sum.inl a:Key)=Sum.inr b)=false:=decide_eq_false (λq=>nomatch q)
theorem awe(a:Str)(b:Int):decide ((Sum.inr a:Key)=Sum.inl b)=false:=decide_eq_false (λq=>nomatch q)
def iz(prog:Program)(w:World):PySem.KeyKind prog w Key where
 is:=aen
 hash:=aC0 w
 inj:=λv a b ha hb=>by
  rcases iG ha with ⟨i,t,rfl,rfl⟩ | ⟨x,t,rfl,rfl⟩
  ·rcases iG hb with ⟨j,u,rfl,e⟩ | ⟨y,u,rfl,e⟩
   ·injection e with e1 _;rw[e1]
   ·exact nomatch e
  ·rcases iG hb with ⟨j,u,rfl,e⟩ | ⟨y,u,rfl,e⟩
   ·exact nomatch e
   ·injection e with e1 _;rw[e1]
 byValue:=λk v h=>by
  rcases iG h with ⟨i,t,rfl,rfl⟩ | ⟨x,t,rfl,rfl⟩<;>rfl
 pyHash:=λhv h=>by
  rcases iG hv with ⟨i,t,rfl,rfl⟩ | ⟨x,t,rfl,rfl⟩
  ·exact wpAny_pyHash_int h
  ·exact wpAny_pyHash_str h
 eqBool:=λhu hv h=>by
  rcases iG hu with ⟨i,t,rfl,rfl⟩ | ⟨x,t,rfl,rfl⟩
  ·rcases iG hv with ⟨j,u,rfl,rfl⟩ | ⟨y,u,rfl,rfl⟩
   ·rw[awb]at h;exact wpAny_eqBool_int h
   ·rw[awd]at h;exact SeqAt.EqAt.int_str i t y u _ _ _ _ h
  ·rcases iG hv with ⟨j,u,rfl,rfl⟩ | ⟨y,u,rfl,rfl⟩
   ·rw[awe]at h;exact SeqAt.EqAt.str_int x t j u _ _ _ _ h
   ·rw[awc]at h;exact wpAny_eqBool_str h
 «strs»:=λk x t v h=>by
  rcases iG h with ⟨i,u,rfl,e⟩ | ⟨y,u,rfl,e⟩
  ·exact nomatch e
  ·injection e with e1 _
   subst e1
   cases v<;>rfl
theorem aiq(prog:Program)(w:World)(i:Int)(t:Tok):(iz prog w).is (.inl i) (.int i t)=true:=anR i t
theorem air(prog:Program)(w:World)(x:Str)(t:Tok):(iz prog w).is (.inr x) (.str x t)=true:=anS x t
end L2
namespace L2
open List
open PySem.W (Frag emptyDict findIn fnOf hideAll instObj isFn keepIn kia_one kia_tup kitAny kitOne lookIn nsIn)
open PySem.F (plainAttrs_list slot_list_pop type_list_pop)
open Nat (le_succ lt_of_lt_of_le ne_of_lt zero_le)
open PySem PySem.Spec PyProof.Rows
inductive V where
 | non | bl (b:Bool) | int (i:Int) | str (x:Str) | byt (b:Array UInt8) | flt (b:UInt64) | ref (a:Addr) | ty (n:String)
 deriving DecidableEq
def RelV:V->Value->Prop
 | .non,u=>u=Value.none
 | .bl b,u=>u=Value.bool b
 | .int i,u=>∃t,u=Value.int i t
 | .str x,u=>∃t,u=Value.str x t
 | .byt b,u=>∃t,u=Value.bytes b t
 | .flt b,u=>∃t,u=Value.float b t
 | .ref a,u=>u=Value.ref a
 | .ty n,u=>u=Value.type n
abbrev Vals:List V->List Value->Prop:=Paired RelV
theorem Vals.length{xs:List V}{us:List Value}(r:Vals xs us):xs.length=us.length:=Paired.length r
theorem Vals.get:∀{xs:List V} {us:List Value} {i:Nat} {x:V},Vals xs us->xs[i]? = some x->∃u,us[i]? = some u/\RelV x u
 | _,_,_,_,.nil,e=>by simp at e
 | _,_,0,_,.cons r _,e=>by simp at e;subst e;exact⟨_,rfl,r⟩
 | _,_,i+1,x,.cons _ t,e=>by obtain⟨u,h1,h2⟩:=Vals.get (i:=i) (x:=x) t (by simpa using e);exact⟨u,by simpa using h1,h2⟩
theorem Vals.set{x:V}{u:Value}(r:RelV x u):∀{xs:List V} {us:List Value} (i:Nat),Vals xs us->Vals (xs.set i x) (us.set i u)
 | _,_,_,.nil=>.nil
 | _,_,0,.cons _ t=>.cons r t
 | _,_,i+1,.cons q t=>.cons q (Vals.set r i t)
theorem Vals.append:∀{xs ys:List V} {us ws:List Value},Vals xs us->Vals ys ws->Vals (xs++ys) (us++ws)
 | _,_,_,_,.nil,s=>s
 | _,_,_,_,.cons r t,s=>.cons r (Vals.append t s)
theorem Vals.take:∀{xs:List V} {us:List Value} (n:Nat),Vals xs us->Vals (xs.take n) (us.take n)
 | _,_,0,_=>.nil
 | _,_,_+1,.nil=>.nil
 | _,_,n+1,.cons r t=>.cons r (Vals.take n t)
theorem Vals.drop:∀{xs:List V} {us:List Value} (n:Nat),Vals xs us->Vals (xs.drop n) (us.drop n)
 | _,_,0,r=>r
 | _,_,_+1,.nil=>.nil
 | _,_,n+1,.cons _ t=>Vals.drop n t
def Ey:Option V->Option Value->Prop
 | some v,some u=>RelV v u
 | none,none=>True
 | _,_=>False
def KV{κ:Type}:List (κ×V)->List (κ×Value)->Prop:=Paired λ(p:κ×V) (q:κ×Value)=>p.1=q.1/\RelV p.2 q.2
def kV:Key->V
 | .inl i=>.int i
 | .inr x=>.str x
inductive HO where
 | lst (xs:List V)
 | tup (xs:List V)
 | dK (kvs:List (Key×V)) | dT (kvs:List (List Key×V))
 | set (S:Int->Bool) (n:Nat)
 | ins (C dx:Addr) (fs:List (Str×V))
 | own (x:Addr)
 | xd (fs:List (Str×V))
 | met (f x:Addr)
 | rng (lo hi:Int)
 | frz (o:Obj) (u:HO)
 | tbl (ps:Array Value)
 | ext (φ:Heap->Prop)
abbrev Hp:=Addr->Option HO
def upd(H:Hp)(a:Addr)(o:HO):Hp:=λb=>if b=a then some o else H b
theorem aj{H:Hp}{a:Addr}{o:HO}:upd H a o a=some o:=by unfold upd;rw[if_pos rfl]
theorem az{H:Hp}{a b:Addr}{o:HO}(h:b≠a):upd H a o b=H b:=by unfold upd;rw[if_neg h]
theorem amw{H:Hp}{a:Addr}{o u:HO}:upd (upd H a o) a u=upd H a u:=by
 funext b;unfold upd;split<;>rfl
theorem jP{H:Hp}{a b:Addr}{o u:HO}(h:H a=some o)(h':H b=some u)(d:o≠u):a≠b:=by
 intro e;subst e;rw[h]at h';exact d (Option.some.inj h')
theorem aF{H:Hp}{a b:Addr}{o:HO}(h:H a=some o)(h':H b=none):a≠b:=by
 intro e;subst e;rw[h]at h';cases h'
section
variable(P:Program)(w:World)
def gh(H:Hp)(h:Heap)(a:Addr):HO->Prop
 | .lst xs=>xs.length<=sizeLine/\∃(its:List Value) (n:Nat),Vals xs its/\h.get? a=some {cls:=.type "list",data:=.seq its.toArray n}
 | .tup xs=>xs.length<=sizeLine/\∃its:List Value,Vals xs its/\IsTup h a its.toArray
 | .dK kvs=>kvs.length<=sizeLine/\(a == sysModules)=false/\∃vs,KV kvs vs/\h.DictOf (iz P w) a vs
 | .dT kvs=>kvs.length<=sizeLine/\(a == sysModules)=false/\∃xs:List (List Key×Addr×Value),
    Paired (λ(p:List Key×V) (q:List Key×Addr×Value)=>p.1=q.1/\H q.2.1=some (.tup (p.1.map kV))/\RelV p.2 q.2.2) kvs xs/\
    ∃o es ep,h.get? a=some o/\o.ExactDict/\o.data=.dict es ep/\es.toList=xs.map (entryOfKey (tupleKind (iz P w)))/\(xs.map (·.1)).Nodup
 | .set S n=>h.SetOf (intKind P w) a S n
 | .ins C dx fs=>H dx=some (.own a)/\fs.length<=1000/\dx≠a/\h.get? a=some (instObj C dx)/\
    ∃mA,h.Ns1 dx mA/\(∀f,Ey (fs.lookup f) (mA f))/\PySem.Within mA (fs.map (·.1))
 | .own _=>∃o,h.get? a=some o
 | .xd fs=>∃mA,h.Ns1 a mA/\∀f,Ey (fs.lookup f) (mA f)
 | .rng lo hi=>∃t u v,h.get? a=some {cls:=.type "range",data:=.fields #[.int lo t,.int hi u,.int 1 v]}
 | .frz o u=>h.get? a=some o/\gh H h a u
 | .tbl ps=>h.get? a=some {cls:=.none,data:=.fields ps}
 | .met f x=>h.get? a=some (PySem.W.methodObj (.ref f) (.ref x))
 | .ext φ=>φ h/\(∃o,h.get? a=some o)/\∀h1 h2:Heap,φ h1->(∀o,h1.get? a=some o->h2.get? a=some o)->φ h2
def J0(H:Hp)(h:Heap):Prop:=∀a o,H a=some o->gh P w H h a o
end
section
variable{P:Program}{w:World}{H H':Hp}{h h':Heap}{a:Addr}{o:HO}
theorem gh.lt(x:gh P w H h a o):a<h.objs.size:=by
 cases o with
 | lst xs=>obtain⟨_,_,_,_,e⟩:=x;exact Heap.lt_size e
 | tup xs=>obtain⟨_,_,_,p⟩:=x;exact p.lt
 | dK kvs=>obtain⟨_,_,_,_,o,_,_,e,_⟩:=x;exact Heap.lt_size e
 | dT kvs=>obtain⟨_,_,_,_,o,_,_,e,_⟩:=x;exact Heap.lt_size e
 | set S n=>obtain⟨o,_,_,_,e,_⟩:=x;exact Heap.lt_size e
 | ins C dx fs=>obtain⟨_,_,_,e,_⟩:=x;exact Heap.lt_size e
 | own y=>obtain⟨_,e⟩:=x;exact Heap.lt_size e
 | xd fs=>obtain⟨_,⟨_,_,_,e,_⟩,_⟩:=x;exact Heap.lt_size e
 | rng lo hi=>obtain⟨_,_,_,e⟩:=x;exact Heap.lt_size e
 | frz ob u=>obtain⟨e,_⟩:=x;exact Heap.lt_size e
 | tbl ps=>exact Heap.lt_size (show h.get? a=some _ from x)
 | met f y=>exact Heap.lt_size (show h.get? a=some _ from x)
 | ext φ=>obtain⟨_,⟨_,e⟩,_⟩:=x;exact Heap.lt_size e
theorem Paired.awf{α β:Type}{F G:α->β->Prop}:∀{l₁:List α} {l₂:List β},Paired F l₁ l₂->(∀a b,F a b->G a b)->Paired G l₁ l₂
 | _,_,.nil,_=>.nil
 | _,_,.cons r t,f=>.cons (f _ _ r) (Paired.awf t f)
theorem gh.stay(x:gh P w H h a o)(k:∀b u,(b=a\/H b=some (.own a))->h.get? b=some u->h'.get? b=some u)
 (J:∀b,H b=some (.own a)->H' b=some (.own a)) (L:∀b xs,H b=some (.tup xs)->H' b=some (.tup xs)):gh P w H' h' a o:=by
 induction o with
 | lst xs=>obtain⟨z,its,n,r,e⟩:=x;exact⟨z,its,n,r,k _ _ (.inl rfl) e⟩
 | tup xs=>obtain⟨z,its,r,ob,e,c⟩:=x;exact⟨z,its,r,ob,k _ _ (.inl rfl) e,c⟩
 | dK kvs=>obtain⟨z,y,vs,r,ob,es,F,e,c⟩:=x;exact⟨z,y,vs,r,ob,es,F,k _ _ (.inl rfl) e,c⟩
 | dT kvs=>obtain⟨z,y,xs,r,ob,es,F,e,c⟩:=x;exact⟨z,y,xs,Paired.awf r λp q z=>⟨z.1,L _ _ z.2.1,z.2.2⟩,ob,es,F,k _ _ (.inl rfl) e,c⟩
 | set S n=>obtain⟨ob,es,F,t,e,c⟩:=x;exact⟨ob,es,F,t,k _ _ (.inl rfl) e,c⟩
 | ins C dx fs=>obtain⟨d,z,ne,e,mA,⟨I,es,F,O,c⟩,r⟩:=x;exact⟨J _ d,z,ne,k _ _ (.inl rfl) e,mA,⟨I,es,F,k _ _ (.inr d) O,c⟩,r⟩
 | own y=>obtain⟨ob,e⟩:=x;exact⟨ob,k _ _ (.inl rfl) e⟩
 | xd fs=>obtain⟨mA,⟨I,es,F,e,c⟩,r⟩:=x;exact⟨mA,⟨I,es,F,k _ _ (.inl rfl) e,c⟩,r⟩
 | rng lo hi=>obtain⟨t,u,v,e⟩:=x;exact⟨t,u,v,k _ _ (.inl rfl) e⟩
 | frz ob u Y=>obtain⟨e,q⟩:=x;exact⟨k _ _ (.inl rfl) e,Y q⟩
 | tbl ps=>have e:h.get? a=some {cls:=.none,data:=.fields ps}:=x;show h'.get? a=some {cls:=.none,data:=.fields ps};exact k a _ (.inl rfl) e
 | met f y=>have e:h.get? a=some (PySem.W.methodObj (.ref f) (.ref y)):=x;show h'.get? a=some (PySem.W.methodObj (.ref f) (.ref y));exact k a _ (.inl rfl) e
 | ext φ=>obtain⟨p,⟨o,e⟩,st⟩:=x;exact⟨st _ _ p λo q=>k _ _ (.inl rfl) q,⟨o,k _ _ (.inl rfl) e⟩,st⟩
theorem J0.lt(x:J0 P w H h)(e:H a=some o):a<h.objs.size:=(x a o e).lt
theorem J0.fresh(x:J0 P w H h)(e:h.objs.size<=a):H a=none:=by
 cases q:H a with| none=>rfl| some u=>exact absurd (lt_of_lt_of_le (x.lt q) e) (Nat.lt_irrefl _)
theorem J0.kept(x:J0 P w H h)(k:∀b u,h.get? b=some u->h'.get? b=some u):J0 P w H h':=λa o e=>
 (x a o e).stay (λb u _ q=>k b u q) (λ_ q=>q) λ_ _ q=>q
theorem J0.laid(x:J0 P w H h)(k:∀b u,h.get? b=some u->h'.get? b=some u)(hp:h.objs.size<=a)(new:gh P w (upd H a o) h' a o):J0 P w (upd H a o) h':=λb u e=>by
 have z:=x.fresh hp
 by_cases F:b=a
 ·subst F;rw[aj]at e;cases e;exact new
 ·rw[az F]at e
  exact(x b u e).stay (λc v _ q=>k c v q) (λc q=>by rw[az (aF q z)];exact q) λc xs q=>by rw[az (aF q z)];exact q
end
def Rd(H:Hp)(a:Addr)(u:HO):Prop:=H a=some u\/∃o,H a=some (.frz o u)
theorem Rd.ok{P:Program}{w:World}{H:Hp}{h:Heap}{a:Addr}{u:HO}(r:Rd H a u)(x:J0 P w H h):gh P w H h a u:=by
 rcases r with r | ⟨o,r⟩;{exact x a u r};{obtain⟨_,q⟩:=x a _ r;exact q}
def Mut:Option HO->Prop
 | some (.lst _)=>True
 | some (.dK _)=>True
 | some (.dT _)=>True
 | some (.set _ _)=>True
 | some (.ins _ _ _)=>True
 | some (.ext _)=>True
 | _=>False
section
variable{P:Program}{w:World}{H:Hp}{h h':Heap}{x e:Addr}{o':HO}
theorem J0.write(ok:J0 P w H h)(mu:Mut (H x))(Y:e=x\/H e=some (.own x))(k:∀b u,b≠e->h.get? b=some u->h'.get? b=some u)(O:∃u,h'.get? e=some u)
 (new:gh P w (upd H x o') h' x o'):J0 P w (upd H x o') h':=λb u q=>by
 have I:∀c y,H c=some (.own y)->c≠x:=λc y r z=>by subst z;rw[r]at mu;exact mu
 have W:∀c xs,H c=some (.tup xs)->c≠x:=λc xs r z=>by subst z;rw[r]at mu;exact mu
 by_cases J:b=x
 ·subst J;rw[aj]at q;cases q;exact new
 ·rw[az J]at q
  by_cases F:b=e
  ·have Z:H b=some (.own x):=by
    rcases Y with z | z
    ·exact absurd (F.trans z) J
    ·rw[F];exact z
   rw[q]at Z;cases Z
   obtain⟨v,hv⟩:=O
   exact⟨v,by rw[F];exact hv⟩
  ·refine(ok b u q).stay (λc v L r=>k c v ?_ r) (λc r=>by rw[az (I c b r)];exact r) λc xs r=>by rw[az (W c xs r)];exact r
   rcases L with rfl | L
   ·exact F
   ·rintro rfl
    rcases Y with z | z
    ·exact I c b L z
    ·rw[L]at z;cases z;exact J rfl
end
structure Un(fs ex:List Addr)(H H':Hp)(h h':Heap):Prop where
 keep:∀b o,h.get? b=some o->H b=none->b∉fs->b∉ex->h'.get? b=some o
 slot:∀b o,h.get? b=some o->H b=none->b∈fs->b∉ex->∃sl,h'.get? b=some {o with slots:=sl}
 free:∀b o,h.get? b=some o->H b=none->b∉ex->H' b=none
 there:∀b o,h.get? b=some o->b∉ex->∃o',h'.get? b=some o'
 tups:∀b xs,H b=some (.tup xs)->H' b=some (.tup xs)
 Mh:∀b o u,H b=some (.frz o u)->H' b=some (.frz o u)
 Ou:∀b ps,H b=some (.tbl ps)->∃more,H' b=some (.tbl (ps++more))
section
variable{fs fs' ex ex':List Addr}{H H1 H2:Hp}{h h1 h2 h':Heap}{a x e:Addr}{o:HO}
theorem Un.any(u:Un fs ex H H1 h h1){b:Addr}{ob:Obj}(q:h.get? b=some ob)(n:H b=none)(z:b∉ex):∃I,h1.get? b=some {ob with slots:=I}:=by
 by_cases F:b∈fs;{exact u.slot b ob q n F z};{exact⟨ob.slots,u.keep b ob q n F z⟩}
theorem Un.kept(k:∀b u,h.get? b=some u->h'.get? b=some u):Un fs ex H H h h':=
 ⟨λb ob q _ _ _=>k b ob q,λb ob q _ _ _=>⟨ob.slots,k b ob q⟩,λ_ _ _ n _=>n,λb ob q _=>⟨ob,k b ob q⟩,λ_ _ q=>q,λ_ _ _ q=>q,λ_ ps q=>⟨#[],by rw[q];simp⟩⟩
theorem Un.refl:Un fs ex H H h h:=Un.kept λ_ _ q=>q
theorem Un.laid(k:∀b u,h.get? b=some u->h'.get? b=some u)(hp:h.objs.size<=a)(z:H a=none):Un fs ex H (upd H a o) h h' where
 keep:=λb u q _ _ _=>k b u q
 slot:=λb u q _ _ _=>⟨u.slots,k b u q⟩
 free:=λb u q n _=>by rw[az (ne_of_lt (lt_of_lt_of_le (Heap.lt_size q) hp))];exact n
 there:=λb u q _=>⟨u,k b u q⟩
 tups:=λb xs q=>by rw[az (aF q z)];exact q
 Mh:=λb u xs q=>by rw[az (aF q z)];exact q
 Ou:=λb ps q=>⟨#[],by rw[az (aF q z),q];simp⟩
theorem Un.write(mu:Mut (H x))(W:e=x\/H e=some (.own x))(k:∀b u,b≠e->h.get? b=some u->h'.get? b=some u)(I:∃u,h'.get? e=some u):Un fs ex H (upd H x o) h h':=by
 have L:∀b,H b=none->b≠x:=λb n z=>by{subst z;rw[n]at mu;exact mu};have O:∀b,H b=none->b≠e:=λb n z=>by{subst z;rcases W with r | r;{exact L b n r};{rw[n]at r;cases r}};have J:∀b u,H b=some u->¬Mut (some u)->b≠x:=λb u q nm z=>by{subst z;rw[q]at mu;exact nm mu};refine⟨λb u q n _ _=>k b u (O b n) q,λb u q n _ _=>⟨u.slots,k b u (O b n) q⟩,λb u q n _=>by rw[az (L b n)];exact n,λb u q _=>?_,
  λb xs q=>by rw[az (J b _ q λz=>z)];exact q,λb u xs q=>by rw[az (J b _ q λz=>z)];exact q,λb ps q=>⟨#[],by rw[az (J b _ q λz=>z),q];simp⟩⟩
 by_cases F:b=e;{subst F;exact I};{exact⟨u,k b u F q⟩}
end
def trk(h:Heap)(H:Hp):List Addr:=(range h.objs.size).filter λa=>(H a).isSome
def afi(h:Heap)(H:Hp):Heap:=hideAll h (trk h H)
theorem anT(h:Heap)(H:Hp):(afi h H).objs.size=h.objs.size:=PySem.W.hideAll_size _ _
theorem apm{h:Heap}{H:Hp}{b:Addr}{o:Obj}(e:h.get? b=some o)(n:H b=none):(afi h H).get? b=some o:=
 PySem.W.hideAll_get _ e λz=>by
  have q:(H b).isSome=true:=(mem_filter.mp z).2
  rw[n]at q;simp at q
theorem asp{h:Heap}{H:Hp}{b:Addr}{o:Obj}(e:(afi h H).get? b=some o):h.get? b=some o/\H b=none:=by
 have F:h.get? b=some o:=PySem.W.of_hideAll (trk h H) e;refine⟨F,?_⟩;cases q:H b with| none=>rfl| some x=>have I:b∈trk h H:=mem_filter.mpr ⟨mem_range.mpr (Heap.lt_size F),by simp[q]⟩;have z:(afi h H).get? b=none:=PySem.W.hideAll_none (trk h H) I;rw[z]at e;cases e
structure Mod(K:Frag)(mg:Str->Option Value)(base:Heap):Prop where
 kin:K.In base
 glob:base.Ns mainGlobals mg
 blt:∃mb,base.Ns builtinsNs mb/\∀x:Str,x≠"__name__"->mb x=bootBuiltins x
 nolimit:base.NoLimit
structure Cx where
 prog:Program
 w:World
 K:Frag
 mg:Str->Option Value
 base:Heap
 A:Around
 N:List Str
 s₀:Shared
 H₀:Hp
 env:Env
 outer:List Env
 stack:List Env
 ex:List Addr
 fn:Str->Bool
 calm:Bool
 pn:List (Addr×Obj)
 xe:Value->Shared->Prop
def frs(l:List Env):List Addr:=l.filterMap (·.frame)
abbrev Cx.fs(X:Cx):List Addr:=frs X.outer
def Vis(sc:Scope)(x:Str):Prop:=sc.names.lookup x=some .local\/sc.names.lookup x=some .cell\/sc.names.lookup x=some .free
def Loc(sc:Scope)(x:Str):Prop:=sc.names.lookup x=some .local\/sc.names.lookup x=some .cell
def Look(env:Env)(h:Heap)(m:Str->Option Value)(x:Str)(u:Value):Prop:=
 (env.kindOf x=some .local/\m x=some u)\/((env.kindOf x=some .cell\/env.kindOf x=some .free)/\∃c,env.cells.lookup x=some c/\h.IsCell c (some u))
structure Cx.Ok(X:Cx):Prop where
 mod:Mod X.K X.mg X.base
 kind:X.env.scope.kind=.function
 glob:X.env.globals=mainGlobals
 blt:X.env.builtins=builtinsNs
 above:X.s₀.heap.objs.size<=X.env.locals
 inj:∀x y c,X.env.cells.lookup x=some c->X.env.cells.lookup y=some c->x=y
 has:∀x,(X.env.kindOf x=some .cell\/X.env.kindOf x=some .free)->∃c,X.env.cells.lookup x=some c
 cab:∀x c,X.fn x=true->X.env.cells.lookup x=some c->X.s₀.heap.objs.size<=c
 hd:X.calm=true->X.A.handled=none
 frames:X.A.frames=some X.stack
 stk:X.stack=X.outer\/(X.stack=X.env::X.outer/\X.env.frame=some X.env.locals)
 exf:∀b∈X.ex,b≠X.env.locals/\∀x c,X.env.cells.lookup x=some c->c≠b
 bs:∀b o,X.base.get? b=some o->X.s₀.heap.get? b=some o/\X.H₀ b=none
 bsz:X.base.objs.size<=X.s₀.heap.objs.size
 ais:∀b o,X.base.get? b=some o->b∉X.ex
 ak4:∀b∈X.ex,b∉X.fs
 Mi:X.s₀.heap.FunFrames X.base X.outer
 frf:∀b∈X.fs,X.H₀ b=none
structure Inv(X:Cx)(pins:List (Addr×Obj))(σ:List (Option V))(H:Hp)(s:Shared):Prop where
 ok:X.Ok
 os:s.os=X.s₀.os
 bare:AllBare s.gens
 base:Un X.fs X.ex X.H₀ H X.s₀.heap s.heap
 loc:∃m,s.heap.Ns X.env.locals m/\∀(i:Nat) (x:Str) (v:V),X.N[i]? = some x->σ[i]? = some (some v)->Vis X.env.scope x->∃u,RelV v u/\Look X.env s.heap m x u
 cell:∀x c,X.env.cells.lookup x=some c->∃v,s.heap.IsCell c v
 free:H X.env.locals=none
 wG:∀x c,X.env.cells.lookup x=some c->H c=none
 pin:∀p∈X.pn++pins,s.heap.get? p.1=some p.2/\H p.1=none/\p.1≠X.env.locals/\p.1∉X.fs/\∀v,p.2.data≠.cell v
 hok:J0 X.prog X.w H s.heap
 len:σ.length=X.N.length
section
variable{X:Cx}{pins:List (Addr×Obj)}{σ:List (Option V)}{H H':Hp}{s:Shared}{h':Heap}
theorem Cx.Ok.aC2(ok:X.Ok){b:Addr}{o:Obj}(e:X.base.get? b=some o):b∉X.fs:=λz=>by
 have:=(ok.Mi.mem z).1
 rw[e]at this;cases this
theorem Inv.bs(I:Inv X pins σ H s):∀b o,X.base.get? b=some o->s.heap.get? b=some o/\H b=none:=λb o e=>
 ⟨I.base.keep b o (I.ok.bs b o e).1 (I.ok.bs b o e).2 (I.ok.aC2 e) (I.ok.ais b o e),I.base.free b o (I.ok.bs b o e).1 (I.ok.bs b o e).2 (I.ok.ais b o e)⟩
theorem Inv.bk(I:Inv X pins σ H s):∀b o,X.base.get? b=some o->s.heap.get? b=some o:=λb o e=>(I.bs b o e).1
theorem Inv.mod(I:Inv X pins σ H s):Mod X.K X.mg X.base:=I.ok.mod
theorem Inv.zr(I:Inv X pins σ H s):X.K.In s.heap:=I.ok.mod.kin.keeps I.bk
theorem Inv.lt(I:Inv X pins σ H s):X.env.locals<s.heap.objs.size:=let ⟨_,z,_⟩:=I.loc;z.lt
theorem Inv.sz(I:Inv X pins σ H s):X.s₀.heap.objs.size<=s.heap.objs.size:=Nat.le_trans I.ok.above (Nat.le_of_lt I.lt)
theorem Inv.aC3(I:Inv X pins σ H s){a:Addr}(h:s.heap.objs.size<=a):a∉X.fs:=λz=>by
 obtain⟨_,o,F,_⟩:=I.ok.Mi.mem z
 exact absurd (lt_of_lt_of_le (Heap.lt_size F) (Nat.le_trans I.sz h)) (Nat.lt_irrefl _)
theorem Inv.cne(I:Inv X pins σ H s):∀x c,X.env.cells.lookup x=some c->c≠X.env.locals:=λx c e z=>by
 obtain⟨v,o,L,hd⟩:=I.cell x c e
 obtain⟨m,⟨o',es,O,F,J,_⟩,_⟩:=I.loc
 rw[z,F]at L;cases L;rw[J]at hd;cases hd
theorem Inv.Mi(I:Inv X pins σ H s):s.heap.FunFrames X.base X.outer:=by
 have all:∀(l:List Env),(∀b∈frs l,b∈X.fs)->X.s₀.heap.FunFrames X.base l->s.heap.FunFrames X.base l:=by{intro l;induction l with| nil=>intro _ _;trivial| cons env r W=>intro hs hl;obtain⟨hk,⟨L,o,F,Y,Z,hd⟩,hr⟩:=hl;have J:L∈X.fs:=hs L (by unfold frs;rw[filterMap_cons,F];exact mem_cons_self);obtain⟨sl,e⟩:=I.base.slot L o Z (I.ok.frf L J) J λz=>I.ok.ak4 L z J;exact⟨hk,⟨L,_,F,Y,e,hd⟩,W (λb O=>hs b (by unfold frs;rw[filterMap_cons,F];exact mem_cons_of_mem _ O)) hr⟩};exact all X.outer (λ_ O=>O) I.ok.Mi
theorem Inv.stack(I:Inv X pins σ H s):s.heap.FunFrames X.base X.stack:=by
 rcases I.ok.stk with e | ⟨e,z⟩;{rw[e];exact I.Mi};{rw[e];obtain⟨m,F,_⟩:=I.loc;refine .cons (by rw[I.ok.kind];decide) z F ?_ I.Mi;exact Heap.get?_none_of_le (Nat.le_trans I.ok.bsz I.ok.above)}
theorem Inv.Zi(I:Inv X pins σ H s):∀b∈frs X.stack,b∈X.env.locals::X.fs:=λb z=>by
 rcases I.ok.stk with e | ⟨e,F⟩
 ·rw[e]at z;exact mem_cons_of_mem _ z
 ·rw[e]at z
  unfold frs at z
  rw[filterMap_cons,F]at z
  exact z
theorem Inv.afj(I:Inv X pins σ H s):∀b∈frs X.stack,H b=none:=λb F=>by
 rcases mem_cons.mp (I.Zi b F)with e | F
 ·rw[e];exact I.free
 ·obtain⟨_,o,J,_⟩:=I.ok.Mi.mem F
  exact I.base.free b o J (I.ok.frf b F) λz=>I.ok.ak4 b z F
theorem Inv.step{g':Array GenState}{t':Nat}{d':Drawn}{ch:List Addr}(I:Inv X pins σ H s)
 (J:∀b∈ch,(b∈X.ex\/X.s₀.heap.objs.size<=b)/\b≠X.env.locals/\(∀x c,X.env.cells.lookup x=some c->c≠b)/\∀p∈X.pn++pins,p.1≠b)
 (keep:∀b o,b≠X.env.locals->b∉X.fs->b∉ch->s.heap.get? b=some o->H b=none->h'.get? b=some o)
 (slot:∀b o,b≠X.env.locals->b∈X.fs->b∉ch->s.heap.get? b=some o->H b=none->∃sl,h'.get? b=some {o with slots:=sl}) (free:∀b o,b∉ch->s.heap.get? b=some o->H b=none->H' b=none)
 (there:∀b o,b∉ch->s.heap.get? b=some o->∃o',h'.get? b=some o')
 (tups:∀b xs,H b=some (.tup xs)->H' b=some (.tup xs)) (Mh:∀b o u,H b=some (.frz o u)->H' b=some (.frz o u)) (Ou:∀b ps,H b=some (.tbl ps)->∃more,H' b=some (.tbl (ps++more)))
 (ns:∀m,s.heap.Ns X.env.locals m->h'.Ns X.env.locals m) (hok:J0 X.prog X.w H' h') (hg:AllBare g') :
 Inv X pins σ H' {s with heap:=h',gens:=g',drawn:=d',toks:=t'}:=by
 have ac:∀b o,X.s₀.heap.get? b=some o->b≠X.env.locals:=λb o e=>ne_of_lt (lt_of_lt_of_le (Heap.lt_size e) I.ok.above);have W:∀b o,X.s₀.heap.get? b=some o->b∉X.ex->b∉ch:=λb o e F Z=>by{rcases (J b Z).1 with z | z;{exact F z};{exact absurd (lt_of_lt_of_le (Heap.lt_size e) z) (Nat.lt_irrefl _)}};have L:∀x c,X.env.cells.lookup x=some c->∀v,s.heap.IsCell c v->h'.IsCell c v:=λx c e v ⟨o,ho,hd⟩=>by{have O:c∉ch:=λz=>(J c z).2.2.1 x c e rfl;by_cases hc:c∈X.fs;{obtain⟨sl,q⟩:=slot c o (I.cne x c e) hc O ho (I.wG x c e);exact⟨_,q,hd⟩};{exact⟨o,keep c o (I.cne x c e) hc O ho (I.wG x c e),hd⟩}};refine⟨I.ok,I.os,hg,⟨λb o e n Z F=>?_,λb o e n Z F=>?_,λb o e n F=>?_,λb o e F=>?_,λb xs e=>tups b xs (I.base.tups b xs e),λb o xs e=>Mh b o xs (I.base.Mh b o xs e),λb ps e=>?_⟩,?_,λx c e=>?_,?_,λx c e=>?_,λp hp=>?_,hok,I.len⟩;{exact keep b o (ac b o e) Z (W b o e F) (I.base.keep b o e n Z F) (I.base.free b o e n F)};{obtain⟨sl,Y⟩:=I.base.slot b o e n Z F;obtain⟨af,e2⟩:=slot b _ (ac b o e) Z (W b o e F) Y (I.base.free b o e n F);exact⟨af,e2⟩};{obtain⟨o',Y⟩:=I.base.there b o e F;exact free b o' (W b o e F) Y (I.base.free b o e n F)};{obtain⟨o',Y⟩:=I.base.there b o e F;exact there b o' (W b o e F) Y};{obtain⟨m1,Y⟩:=I.base.Ou b ps e;obtain⟨m2,e2⟩:=Ou b _ Y;exact⟨m1++m2,by rw[e2,Array.append_assoc]⟩};{obtain⟨m,hn,hl⟩:=I.loc;refine⟨m,ns m hn,λi x v Y e2 e3=>?_⟩;obtain⟨u,r,l⟩:=hl i x v Y e2 e3;refine⟨u,r,?_⟩;rcases l with l | ⟨k,c,e,z⟩;{exact .inl l};{exact .inr ⟨k,c,e,L x c e _ z⟩}};{obtain⟨v,z⟩:=I.cell x c e;exact⟨v,L x c e v z⟩};{obtain⟨m,⟨o,_,_,ho,_⟩,_⟩:=I.loc;exact free _ o (λz=>(J _ z).2.1 rfl) ho I.free};{obtain⟨v,o,ho,hd⟩:=I.cell x c e;exact free c o (λz=>(J c z).2.2.1 x c e rfl) ho (I.wG x c e)};{obtain⟨e,n,ne,nf,d⟩:=I.pin p hp;have O:p.1∉ch:=λz=>(J p.1 z).2.2.2 p hp rfl;exact⟨keep p.1 p.2 ne nf O e n,free p.1 p.2 O e n,ne,nf,d⟩}
theorem Inv.un{t':Nat}(I:Inv X pins σ H s)(u:Un X.fs [] H H' s.heap h')(hok:J0 X.prog X.w H' h'):Inv X pins σ H' {s with heap:=h',toks:=t'}:=by
 obtain⟨m,⟨o,es,ep,W,r⟩,_⟩:=id I.loc;obtain⟨sl,Y⟩:=u.any W I.free (by simp);exact I.step (g':=s.gens) (d':=s.drawn) (ch:=[]) (λ_ z=>nomatch z) (λb o _ J _ e n=>u.keep b o e n J (by simp)) (λb o _ J _ e n=>u.slot b o e n J (by simp)) (λb o _ e n=>u.free b o e n (by simp)) (λb o _ e=>u.there b o e (by simp)) u.tups u.Mh u.Ou (λm' Z=>by
  obtain⟨o',L,O,F,r'⟩:=Z
  rw[W]at F;cases F
  exact⟨_,L,O,Y,r'⟩) hok I.bare
theorem Inv.call{g':Array GenState}{t':Nat}{d':Drawn}{ch:List Addr}(I:Inv X pins σ H s)(u:Un (frs X.stack) ch H H' s.heap h')(hok:J0 X.prog X.w H' h')(hg:AllBare g')
 (J:∀b∈ch,(b∈X.ex\/X.s₀.heap.objs.size<=b)/\b≠X.env.locals/\(∀x c,X.env.cells.lookup x=some c->c≠b)/\∀p∈X.pn++pins,p.1≠b) :
 Inv X pins σ H' {s with heap:=h',gens:=g',drawn:=d',toks:=t'}:=by
 obtain⟨m,⟨o,es,ep,Z,r⟩,_⟩:=id I.loc;obtain⟨sl,O⟩:=u.any Z I.free λz=>(J _ z).2.1 rfl;exact I.step (ch:=ch) J (λb o O hb F e n=>u.keep b o e n (λz=>(mem_cons.mp (I.Zi b z)).elim O hb) F) (λb o _ _ F e n=>u.any e n F) (λb o F e n=>u.free b o e n F) (λb o F e=>u.there b o e F) u.tups u.Mh u.Ou (λm' hm=>by
  obtain⟨o',W,Y,L,r'⟩:=hm
  rw[Z]at L;cases L
  exact⟨_,W,Y,O,r'⟩) hok hg
theorem Inv.turned{t':Nat}{F:Addr}(I:Inv X pins σ H s)(k:∀b o,b≠F->s.heap.get? b=some o->h'.get? b=some o)(W:H F=none)(O:F≠X.env.locals)
 (h1:F∈X.ex\/X.s₀.heap.objs.size<=F) (h2:∀x c,X.env.cells.lookup x=some c->c≠F) (Y:∀p∈X.pn++pins,p.1≠F):Inv X pins σ H {s with heap:=h',toks:=t'}:=by
 have L:∀b u,H b=some u->b≠F:=λb u e z=>by{rw[z,W]at e;cases e};refine I.step (g':=s.gens) (d':=s.drawn) (ch:=[F]) (λb Z=>?_) (λb o _ _ J e _=>k b o (λz=>J (by simp[z])) e) (λb o _ _ J e _=>⟨o.slots,k b o (λz=>J (by simp[z])) e⟩) (λ_ _ _ _ n=>n)
  (λb o J e=>⟨o,k b o (λz=>J (by simp[z])) e⟩) (λ_ _ e=>e) (λ_ _ _ e=>e) (λb ps e=>⟨#[],by rw[e];simp⟩) (λm hm=>?_) (λb u e=>?_) I.bare
 ·have e:b=F:=by{simpa using Z};subst e;exact⟨h1,O,h2,Y⟩
 ·obtain⟨o,es,ep,ho,r⟩:=hm;exact⟨o,es,ep,k _ o (Ne.symm O) ho,r⟩
 ·refine(I.hok b u e).stay (λc v J q=>k c v ?_ q) (λ_ q=>q) λ_ _ q=>q;rcases J with z | z;{rw[z];exact L b u e};{exact L c _ z}
theorem Inv.tok(I:Inv X pins σ H s)(t:Nat):Inv X pins σ H {s with toks:=t}:=I.un (h':=s.heap) (t':=t) Un.refl I.hok
theorem Inv.kept{t':Nat}(I:Inv X pins σ H s)(k:∀b u,s.heap.get? b=some u->h'.get? b=some u):Inv X pins σ H {s with heap:=h',toks:=t'}:=I.un (Un.kept k) (I.hok.kept k)
theorem Inv.laid{a:Addr}{o:HO}{t':Nat}(I:Inv X pins σ H s)(k:∀b u,s.heap.get? b=some u->h'.get? b=some u)(hp:s.heap.objs.size<=a)(new:gh X.prog X.w (upd H a o) h' a o) :
 Inv X pins σ (upd H a o) {s with heap:=h',toks:=t'}:=I.un (Un.laid k hp (I.hok.fresh hp)) (I.hok.laid k hp new)
theorem Inv.write{x e:Addr}{o:HO}{t':Nat}(I:Inv X pins σ H s)(mu:Mut (H x))(F:e=x\/H e=some (.own x))(k:∀b u,b≠e->s.heap.get? b=some u->h'.get? b=some u)(z:∃u,h'.get? e=some u)
 (new:gh X.prog X.w (upd H x o) h' x o):Inv X pins σ (upd H x o) {s with heap:=h',toks:=t'}:=I.un (Un.write mu F k z) (I.hok.write mu F k z new)
theorem Inv.amx{F:List (Addr×Obj)}(I:Inv X pins σ H s)(h:∀p∈F,s.heap.get? p.1=some p.2/\H p.1=none/\p.1≠X.env.locals/\p.1∉X.fs/\∀v,p.2.data≠.cell v):Inv X F σ H s:=
 ⟨I.ok,I.os,I.bare,I.base,I.loc,I.cell,I.free,I.wG,λp hp=>(mem_append.mp hp).elim (λz=>I.pin p (mem_append_left _ z)) (h p),I.hok,I.len⟩
theorem ait{N:List Str}(z:N.Nodup){i j:Nat}{x:Str}(a:N[i]? = some x)(b:N[j]? = some x):i=j:=by
 obtain⟨h1,F⟩:=List.getElem?_eq_some_iff.mp a;obtain⟨h2,I⟩:=List.getElem?_eq_some_iff.mp b;exact(getElem_inj z).mp (F.trans I.symm)
theorem aeo{M:Model}{A:Around}{E:Value->Shared->Prop}{i:Nat}{x:Str}{v:V}{u:Value}{Q:Unit->Shared->Prop}(I:Inv X pins σ H s)(hN:X.N.Nodup)(hi:X.N[i]? = some x)(O:Loc X.env.scope x)(r:RelV v u)
 (h:∀s',Inv X pins (σ.set i (some v)) H s'->(∃a,Heap.SameBut a s.heap s'.heap/\(a=X.env.locals\/X.env.cells.lookup x=some a))->Q () s') (hf:X.fn x=true\/X.env.scope.names.lookup x=some .local:=by first | exact .inl rfl | exact .inr rfl | assumption):wpAny M A (storeName X.env x u) Q E s:=by
 obtain⟨m,hn,hl⟩:=id I.loc;have ad:(X.env.scope.kind == .class || (X.env.scope.kind == .module && X.env.locals != X.env.globals))=false:=by{rw[I.ok.kind];rfl};have ae:i<σ.length:=by{rw[I.len];exact(List.getElem?_eq_some_iff.mp hi).1};have cne:=I.cne;have F:∀{a:Addr} {h':Heap},(∃o,s.heap.get? a=some o/\H a=none)->Heap.SameBut a s.heap h'->J0 X.prog X.w H h':=λ{a h'} ha hs b ob e=>by{obtain⟨_,_,W⟩:=ha;refine(I.hok b ob e).stay (λc w' L q=>(hs.2 c ?_).trans q) (λ_ q=>q) λ_ _ q=>q;rintro rfl;rcases L with rfl | L;{rw[W]at e;cases e};{rw[W]at L;cases L}};rcases O with hk | hk;{refine wpAny_storeName_local hk hn (λh' al hs=>?_) ad;obtain⟨oL,_,_,am,_⟩:=id hn;refine h _ ⟨I.ok,I.os,I.bare,⟨λb o e n Z O=>?_,λb o e n Z O=>?_,I.base.free,λb o e O=>?_,I.base.tups,I.base.Mh,I.base.Ou⟩,⟨_,al,λj y v' J Y e3=>?_⟩,λy c e=>?_,I.free,I.wG,λp hp=>?_,F ⟨oL,am,I.free⟩ hs,by simpa using I.len⟩ ⟨_,hs,.inl rfl⟩;{exact(hs.2 b (ne_of_lt (lt_of_lt_of_le (Heap.lt_size e) I.ok.above))).trans (I.base.keep b o e n Z O)};{obtain⟨sl,J⟩:=I.base.slot b o e n Z O;exact⟨sl,(hs.2 b (ne_of_lt (lt_of_lt_of_le (Heap.lt_size e) I.ok.above))).trans J⟩};{obtain⟨o',J⟩:=I.base.there b o e O;exact⟨o',(hs.2 b (ne_of_lt (lt_of_lt_of_le (Heap.lt_size e) I.ok.above))).trans J⟩};{by_cases hj:j=i;{subst hj;rw[hi]at J;cases J;rw[getElem?_set_self ae]at Y;cases Y;exact⟨u,r,.inl ⟨hk,by simp⟩⟩};{rw[getElem?_set_ne (Ne.symm hj)]at Y;obtain⟨u',r',q⟩:=hl j y v' J Y e3;refine⟨u',r',?_⟩;rcases q with ⟨k,e⟩ | ⟨k,c,e,z⟩;{refine .inl ⟨k,?_⟩;have:y≠x:=λe=>hj (ait hN J (e▸hi));simp[this,e]};{exact .inr ⟨k,c,e,z.sameBut hs (cne y c e)⟩}}};{obtain⟨w',z⟩:=I.cell y c e;exact⟨w',z.sameBut hs (cne y c e)⟩};{obtain⟨e,n,ne,nf,d⟩:=I.pin p hp;exact⟨(hs.2 p.1 ne).trans e,n,ne,nf,d⟩}};{have ac:X.fn x=true:=by{rcases hf with z | z;{exact z};{rw[z]at hk;cases hk}};obtain⟨c,L⟩:=I.ok.has x (.inl hk);obtain⟨w',z⟩:=I.cell x c L;refine wpAny_storeName_cell I.ok.kind hk L z (λh' af hs=>?_);obtain⟨oc,ag,au⟩:=id z;refine h {s with heap:=h'} ⟨I.ok,I.os,I.bare,⟨λb o e n Z O=>?_,λb o e n Z O=>?_,I.base.free,λb o e O=>?_,I.base.tups,I.base.Mh,I.base.Ou⟩,⟨m,hn.sameBut hs (Ne.symm (cne x c L)),λj y v' J Y e3=>?_⟩,λy c' e=>?_,I.free,I.wG,λp hp=>?_,F ⟨oc,ag,I.wG x c L⟩ hs,by simpa using I.len⟩ ⟨c,hs,.inr L⟩;{exact(hs.2 b (ne_of_lt (lt_of_lt_of_le (Heap.lt_size e) (I.ok.cab x c ac L)))).trans (I.base.keep b o e n Z O)};{obtain⟨sl,J⟩:=I.base.slot b o e n Z O;exact⟨sl,(hs.2 b (ne_of_lt (lt_of_lt_of_le (Heap.lt_size e) (I.ok.cab x c ac L)))).trans J⟩};{obtain⟨o',J⟩:=I.base.there b o e O;exact⟨o',(hs.2 b (ne_of_lt (lt_of_lt_of_le (Heap.lt_size e) (I.ok.cab x c ac L)))).trans J⟩};{by_cases hj:j=i;{subst hj;rw[hi]at J;cases J;rw[getElem?_set_self ae]at Y;cases Y;exact⟨u,r,.inr ⟨.inl hk,c,L,af⟩⟩};{rw[getElem?_set_ne (Ne.symm hj)]at Y;obtain⟨u',r',q⟩:=hl j y v' J Y e3;refine⟨u',r',?_⟩;rcases q with q | ⟨k,c',e,z'⟩;{exact .inl q};{refine .inr ⟨k,c',e,z'.sameBut hs ?_⟩;rintro rfl;exact hj (ait hN J (I.ok.inj _ _ _ e L▸hi))}}};{by_cases ah:c'=c;{subst ah;exact⟨_,af⟩};{obtain⟨w2,z2⟩:=I.cell y c' e;exact⟨w2,z2.sameBut hs ah⟩}};{obtain⟨e,n,ne,nf,d⟩:=I.pin p hp;refine⟨(hs.2 p.1 ?_).trans e,n,ne,nf,d⟩;intro q;rw[q,ag]at e;have q':oc=p.2:=Option.some.inj e;exact d w' (by rw[<-q'];exact au)}}
theorem aiu{M:Model}{A:Around}{E:Value->Shared->Prop}{i:Nat}{x:Str}{v:V}{u:Value}{Q:Unit->Shared->Prop}(I:Inv X pins σ H s)(z:X.N.Nodup)(hi:X.N[i]? = some x)(F:Loc X.env.scope x)(r:RelV v u)
 (h:∀s',Inv X pins (σ.set i (some v)) H s'->Q () s') (J:X.fn x=true\/X.env.scope.names.lookup x=some .local:=by first | exact .inl rfl | exact .inr rfl | assumption):wpAny M A (storeName X.env x u) Q E s:=
 aeo I z hi F r (λs' L _=>h s' L) J
theorem Inv.call'{s':Shared}{ch:List Addr}(I:Inv X pins σ H s)(F:s'.os=s.os)(u:Un (frs X.stack) ch H H' s.heap s'.heap)(hok:J0 X.prog X.w H' s'.heap)(J:AllBare s'.gens)
 (z:∀b∈ch,(b∈X.ex\/X.s₀.heap.objs.size<=b)/\b≠X.env.locals/\(∀x c,X.env.cells.lookup x=some c->c≠b)/\∀p∈X.pn++pins,p.1≠b):Inv X pins σ H' s':=by
 obtain⟨h',g',d',t',o'⟩:=s';have e:o'=s.os:=F;subst e;exact I.call (g':=g') (t':=t') (d':=d') u hok J z
end
abbrev XK:=Value->Option Addr->Hp->Prop
abbrev St:=List (Option V)
abbrev VK:=V->Hp->Prop
abbrev TE:=St->Hp->VK->Prop
abbrev TT:=St->Hp->(Bool->Hp->Prop)->Prop
abbrev TA:=St->Hp->(List V->Hp->Prop)->Prop
structure Ends where
 nx:St->Hp->Prop
 rt:VK
 bk:St->Hp->Prop:=λ_ _=>False
 ct:St->Hp->Prop:=λ_ _=>False
abbrev TS:=Ends->St->Hp->Prop
def EP(X:Cx)(pins:List (Addr×Obj))(σ:St)(Q:VK)(u:Value)(s':Shared):Prop:=∃v H',Inv X pins σ H' s'/\RelV v u/\Q v H'
def TP(X:Cx)(pins:List (Addr×Obj))(σ:St)(Q:Bool->Hp->Prop)(b:Bool)(s':Shared):Prop:=∃H',Inv X pins σ H' s'/\Q b H'
def AP(X:Cx)(pins:List (Addr×Obj))(σ:St)(Q:List V->Hp->Prop)(us:List Value)(s':Shared):Prop:=∃vs H',Inv X pins σ H' s'/\Vals vs us/\Q vs H'
def SP(X:Cx)(pins:List (Addr×Obj))(D:Ends)(f:Flow)(s':Shared):Prop:=
 match f with
 | .next=>∃σ' H',Inv X pins σ' H' s'/\D.nx σ' H'
 | .brk=>∃σ' H',Inv X pins σ' H' s'/\D.bk σ' H'
 | .cont=>∃σ' H',Inv X pins σ' H' s'/\D.ct σ' H'
 | .ret u=>∃v σ' H',Inv X pins σ' H' s'/\RelV v u/\D.rt v H'
def PE(X:Cx)(e:Expr)(t:TE):Prop:=
 ∀(pins:List (Addr×Obj)) (s:Shared) (σ:St) (H:Hp) (Q:VK),Inv X pins σ H s->t σ H Q->wpAny (model X.prog X.w) X.A (eval e X.env) (EP X pins σ Q) X.xe s
def PT(X:Cx)(e:Expr)(t:TT):Prop:=
 ∀(pins:List (Addr×Obj)) (s:Shared) (σ:St) (H:Hp) (Q:Bool->Hp->Prop),Inv X pins σ H s->t σ H Q->wpAny (model X.prog X.w) X.A (isTrue e X.env (eval e X.env)) (TP X pins σ Q) X.xe s
def PW(X:Cx)(e:Expr)(t:TT):Prop:=
 ∀(whole:Sem Value) (pins:List (Addr×Obj)) (s:Shared) (σ:St) (H:Hp) (Q:Bool->Hp->Prop),Inv X pins σ H s->t σ H Q->wpAny (model X.prog X.w) X.A (isTrue e X.env whole) (TP X pins σ Q) X.xe s
theorem PW.pt{X:Cx}{e:Expr}{t:TT}(h:PW X e t):PT X e t:=h _
def PA(X:Cx)(es:List Expr)(t:TA):Prop:=
 ∀(pos:Pos) (pins:List (Addr×Obj)) (s:Shared) (σ:St) (H:Hp) (Q:List V->Hp->Prop),Inv X pins σ H s->t σ H Q->wpAny (model X.prog X.w) X.A (spliced (backTo pos (starEach es X.env))) (AP X pins σ Q) X.xe s
def PS(X:Cx)(st:Stmt)(t:TS):Prop:=
 ∀(pins:List (Addr×Obj)) (s:Shared) (σ:St) (H:Hp) (D:Ends),Inv X pins σ H s->t D σ H->wpAny (model X.prog X.w) X.A (exec st X.env) (SP X pins D) X.xe s
def PSs(X:Cx)(st:List Stmt)(t:TS):Prop:=
 ∀(pins:List (Addr×Obj)) (s:Shared) (σ:St) (H:Hp) (D:Ends),Inv X pins σ H s->t D σ H->wpAny (model X.prog X.w) X.A (execs st X.env) (SP X pins D) X.xe s
theorem gM{α:Type}{t:Sem α}{Q z:α->Shared->Prop}{M:Model}{A:Around}{E:Value->Shared->Prop}{s:Shared}(h:wpAny M A t Q E s)(F:∀a s,Q a s->z a s):wpAny M A t z E s:=wpAny_mono h F λ_ _ x=>x
section
variable{X:Cx}
def jE(i:Nat):TE:=λσ H Q=>∃v,σ[i]? = some (some v)/\Q v H
def tC(v:V):TE:=λ_ H Q=>Q v H
theorem awi{i:Nat}{x:Str}{pos:Pos}(O:X.N[i]? = some x)(W:Vis X.env.scope x)(hd:(x == ("__debug__":Str))=false:=by decide) (J:(x == ("__classdict__":Str))=false:=by decide):PE X (.Name x pos) (jE i):=by
 intro pins s σ H Q I h;obtain⟨v,e,h⟩:=h;obtain⟨m,Y,hl⟩:=I.loc;obtain⟨u,r,l⟩:=hl i x v O e W;have F:EP X pins σ Q u s:=⟨v,H,I,r,h⟩;rcases l with ⟨hk,Z⟩ | ⟨hk,c,L,z⟩;{exact wpAny_Name (wpAny_loadName_local I.ok.kind hk Y Z F) hd};{rcases hk with hk | hk;{exact wpAny_Name (wpAny_loadName_cell I.ok.kind hk L z F) hd};{exact wpAny_Name (wpAny_loadName_free I.ok.kind hk L z F J) hd}}
theorem aB{i j pos}:PE X (.Constant (.int i) j pos) (tC (.int i)):=λ_ _ _ H _ I h=>wpAny_Constant_int ⟨.int i,H,I.tok _,⟨_,rfl⟩,h⟩
theorem tU{b j pos}:PE X (.Constant (.bool b) j pos) (tC (.bl b)):=λ_ _ _ H _ I h=>Constant_bool ⟨.bl b,H,I,rfl,h⟩
theorem uO{j pos}:PE X (.Constant .none j pos) (tC .non):=λ_ _ _ H _ I h=>Constant_none ⟨.non,H,I,rfl,h⟩
theorem aC{x j pos}:PE X (.Constant (.str x) j pos) (tC (.str x)):=λ_ _ _ H _ I h=>Calls.Constant_str ⟨.str x,H,I.tok _,⟨_,rfl⟩,h⟩
def Gl(X:Cx)(x:Str):Prop:=X.env.kindOf x=some .globalImplicit
theorem Az{E:Value->Shared->Prop}{pins:List (Addr×Obj)}{s:Shared}{σ:St}{H:Hp}{x:Str}{u:Value}{pos:Pos}{Q:Value->Shared->Prop}(I:Inv X pins σ H s)(z:Gl X x)(F:X.mg x=some u)(h:Q u s)
 (hd:(x == ("__debug__":Str))=false:=by decide):wpAny (model X.prog X.w) X.A (eval (.Name x pos) X.env) Q E s:=
 Calls.Name_function_global I.ok.kind z (Calls.loadGlobal_global (by rw[I.ok.glob];exact I.mod.glob.keeps I.bk) F h) hd
theorem Zj{E:Value->Shared->Prop}{pins:List (Addr×Obj)}{s:Shared}{σ:St}{H:Hp}{x:Str}{u:Value}{pos:Pos}{Q:Value->Shared->Prop}(I:Inv X pins σ H s)(z:Gl X x)(F:X.mg x=none)(J:bootBuiltins x=some u)(h:Q u s)
 (L:x≠"__name__":=by decide) (hd:(x == ("__debug__":Str))=false:=by decide):wpAny (model X.prog X.w) X.A (eval (.Name x pos) X.env) Q E s:=by
 obtain⟨O,h1,h2⟩:=I.mod.blt;exact Calls.Name_function_global I.ok.kind z (Calls.loadGlobal_builtin (by rw[I.ok.glob];exact I.mod.glob.keeps I.bk) F (by rw[I.ok.blt];exact h1.keeps I.bk) ((h2 x L).trans J) h) hd
theorem asr{x:Str}{v:V}{u:Value}{pos:Pos}(z:Gl X x)(F:X.mg x=some u)(r:RelV v u)(hd:(x == ("__debug__":Str))=false:=by decide):PE X (.Name x pos) (tC v):=
 λ_ _ _ H _ I h=>Az I z F ⟨v,H,I,r,h⟩ hd
theorem ass{x:Str}{v:V}{u:Value}{pos:Pos}(z:Gl X x)(F:X.mg x=none)(J:bootBuiltins x=some u)(r:RelV v u)(L:x≠"__name__":=by decide) (hd:(x == ("__debug__":Str))=false:=by decide):PE X (.Name x pos) (tC v):=
 λ_ _ _ H _ I h=>Zj I z F J ⟨v,H,I,r,h⟩ L hd
variable{a b:Expr}{ta tb:TE}{pos:Pos}
def PC(X:Cx)(op:CmpOp)(a b:Expr)(t:TE):Prop:=
 ∀(pins:List (Addr×Obj)) (s:Shared) (σ:St) (H:Hp) (Q:VK),Inv X pins σ H s->t σ H Q->
  wpAny (model X.prog X.w) X.A (eval a X.env) (λv s₁=>wpAny (model X.prog X.w) X.A (eval b X.env) (λu s₂=>wpAny (model X.prog X.w) X.A (compareOp op v u) (EP X pins σ Q) X.xe s₂) X.xe s₁) X.xe s
theorem aiv(b:Expr){z:CmpOp}(h:z≠.In)(h2:z≠.NotIn):behindInMarks z b=false:=by
 have F:(z == CmpOp.In)=false:=by{cases z<;>first | rfl | exact absurd rfl h};have I:(z == CmpOp.NotIn)=false:=by{cases z<;>first | rfl | exact absurd rfl h2};cases b<;>simp[behindInMarks,F,I]
def aC5(ta:TE):TE:=λσ H Q=>ta σ H λx H1=>Q (.bl (decide (x=.non))) H1
def azI(ta:TE):TE:=λσ H Q=>ta σ H λx H1=>Q (.bl (!decide (x=.non))) H1
theorem RelV.aiw{x:V}{v:Value}(r:RelV x v):(v == Value.none)=decide (x=.non):=by
 cases x with
 | non=>cases r;rfl
 | bl _=>cases r;rfl
 | int _=>obtain⟨t,rfl⟩:=r;rfl
 | str _=>obtain⟨t,rfl⟩:=r;rfl
 | byt _=>obtain⟨t,rfl⟩:=r;rfl
 | flt _=>obtain⟨t,rfl⟩:=r;rfl
 | ref _=>cases r;rfl
 | ty _=>cases r;rfl
theorem ak5{j pos'}(z:PE X a ta):PC X .Is a (.Constant .none j pos') (aC5 ta):=by
 intro pins s σ H Q I h;refine gM (z pins s σ H _ I h) λv s1 F=>lW F λx H1 J L O=>?_;exact Constant_none (is_none_gen ⟨.bl _,H1,J,by rw[L.aiw];rfl,O⟩)
theorem wH{j pos'}(z:PE X a ta):PC X .IsNot a (.Constant .none j pos') (azI ta):=by
 intro pins s σ H Q I h;refine gM (z pins s σ H _ I h) λv s1 F=>lW F λx H1 J L O=>?_;exact Constant_none (isnot_none_gen ⟨.bl _,H1,J,by rw[L.aiw];rfl,O⟩)
def tB(t:TE):TT:=λσ H Q=>t σ H λx H1=>∃c,x=.bl c/\Q c H1
theorem apr{z:CmpOp}{t:TE}(h:PC X z a b t)(h1:behindInMarks z b=false:=by first | exact aiv _ (by decide) (by decide) | rfl):PE X (.Compare a [z] [b] pos) t:=λpins s σ H Q I F=>wpAny_Compare1 (h pins s σ H Q I F) h1
theorem yo{z:CmpOp}{t:TE}(h:PC X z a b t)(h1:behindInMarks z b=false:=by first | exact aiv _ (by decide) (by decide) | rfl):PT X (.Compare a [z] [b] pos) (tB t):=by
 intro pins s σ H Q I F;refine wpAny_isTrue_Compare1 (gM (h pins s σ H _ I F) λv s1 h1=>gM h1 λu Y h2=>gM h2 λc Z J=>lW J λx H1 L O W=>?_) h1;obtain⟨d,rfl,q⟩:=W;cases O;exact wpAny_truthy_bool ⟨H1,L,q⟩
theorem jo{e:Expr}{t:TE}(h:PE X e t)(F:∀z,isTrue e X.env z=(do let v <-z;standAt e.pos;holding [v] (truthy v)):=by intro _;rfl):PT X e (tB t):=by
 intro pins s σ H Q I J;refine isTrue_plain (gM (h pins s σ H _ I J) λv s1 L=>lW L λx H1 O W Y=>?_) (F _);obtain⟨d,rfl,q⟩:=Y;cases W;exact wpAny_truthy_bool ⟨H1,O,q⟩
variable{tA tB':TT}{rest:List Expr}
def azJ(t u:TT):TT:=λσ H Q=>t σ H λc H1=>if c=true then u σ H1 Q else Q false H1
def tOr(t u:TT):TT:=λσ H Q=>t σ H λc H1=>if c=true then Q true H1 else u σ H1 Q
def aC6(t:TT):TT:=λσ H Q=>t σ H λc H1=>Q (!c) H1
theorem Ba(z:PT X a tA):PW X (.BoolOp .And [a] pos) tA:=by
 intro F pins s σ H Q I h;refine isTrue_and (gM (z pins s σ H Q I h) λc s1 e=>?_);cases c with| true=>exact isTrue_and_nil e| false=>exact e
theorem lZ(z:PT X a tA):PW X (.BoolOp .Or [a] pos) tA:=by
 intro F pins s σ H Q I h;refine isTrue_or (gM (z pins s σ H Q I h) λc s1 e=>?_);cases c with| false=>exact isTrue_or_nil e| true=>exact e
theorem Gy(J:PT X a tA)(L:PW X (.BoolOp .And (b::rest) pos) tB'):PW X (.BoolOp .And (a::b::rest) pos) (azJ tA tB'):=by
 intro O pins s σ H Q I h;refine isTrue_and (gM (J pins s σ H _ I h) λc s1 W=>ex3 W λH1 z F=>?_);cases c with| true=>exact L O pins s1 σ H1 Q z F| false=>exact⟨H1,z,F⟩
theorem nJ(J:PT X a tA)(L:PW X (.BoolOp .Or (b::rest) pos) tB'):PW X (.BoolOp .Or (a::b::rest) pos) (tOr tA tB'):=by
 intro O pins s σ H Q I h;refine isTrue_or (gM (J pins s σ H _ I h) λc s1 W=>ex3 W λH1 z F=>?_);cases c with| true=>exact⟨H1,z,F⟩| false=>exact L O pins s1 σ H1 Q z F
theorem oh(z:PT X a tA):PT X (.UnaryOp .Not a pos) (aC6 tA):=by
 intro pins s σ H Q I h;exact isTrue_not (z pins s σ H (λc H1=>Q (!c) H1) I h)
def azK(ta tb:TE):TE:=λσ H Q=>ta σ H λx H1=>∃c,x=.bl c/\if c=true then tb σ H1 Q else Q (.bl false) H1
def aC7(ta tb:TE):TE:=λσ H Q=>ta σ H λx H1=>∃c,x=.bl c/\if c=true then Q (.bl true) H1 else tb σ H1 Q
def azL(ta:TE):TE:=λσ H Q=>ta σ H λx H1=>∃c,x=.bl c/\Q (.bl (!c)) H1
theorem ak6{z}{t:TE}(h:PE X a t):PE X (.BoolOp z [a] pos) t:=λpins s σ H Q I F=>BoolOp_one (h pins s σ H Q I F)
theorem aps(J:PE X a ta)(L:PE X (.BoolOp .And (b::rest) pos) tb):PE X (.BoolOp .And (a::b::rest) pos) (azK ta tb):=by
 intro pins s σ H Q I h;refine BoolOp_and (gM (J pins s σ H _ I h) λv s1 O=>lW O λx H1 F W z=>?_);obtain⟨c,rfl,z⟩:=z;cases W;refine wpAny_truthy_bool ?_;cases c with| true=>exact L pins s1 σ H1 Q F z| false=>exact⟨.bl false,H1,F,rfl,z⟩
theorem azM(J:PE X a ta)(L:PE X (.BoolOp .Or (b::rest) pos) tb):PE X (.BoolOp .Or (a::b::rest) pos) (aC7 ta tb):=by
 intro pins s σ H Q I h;refine BoolOp_or (gM (J pins s σ H _ I h) λv s1 O=>lW O λx H1 F W z=>?_);obtain⟨c,rfl,z⟩:=z;cases W;refine wpAny_truthy_bool ?_;cases c with| false=>exact L pins s1 σ H1 Q F z| true=>exact⟨.bl true,H1,F,rfl,z⟩
theorem awj(F:PE X a ta):PE X (.UnaryOp .Not a pos) (azL ta):=by
 intro pins s σ H Q I h;refine UnaryOp_ (gM (F pins s σ H _ I h) λv s1 J=>lW J λx H1 L O z=>?_);obtain⟨c,rfl,z⟩:=z;cases O;exact not_of (wpAny_truthy_bool ⟨.bl (!c),H1,L,rfl,z⟩)
def tIf(t:TT)(ta tb:TE):TE:=λσ H Q=>t σ H λc H1=>if c=true then ta σ H1 Q else tb σ H1 Q
theorem rE{c:Expr}(J:PT X c tA)(L:PE X a ta)(O:PE X b tb):PE X (.IfExp c a b pos) (tIf tA ta tb):=by
 intro pins s σ H Q I h;refine wpAny_IfExp (gM (J pins s σ H _ I h) λd s1 W=>ex3 W λH1 z F=>?_);cases d with| true=>exact L pins s1 σ H1 Q z F| false=>exact O pins s1 σ H1 Q z F
end
def bU(K:Frag)(H:Hp)(a:Addr)(xs:List V):Prop:=
 Rd H a (.lst xs)\/
  ∃(o:Obj) (its:Array Value) (n:Nat),K.lookup a=some o/\o.cls=.type "list"/\o.dict=none/\o.data=.seq its n/\its.size<=sizeLine/\Vals xs its.toList
def cW(K:Frag)(H:Hp)(a:Addr)(xs:List V):Prop:=
 Rd H a (.tup xs)\/
  ∃(o:Obj) (its:Array Value) (n:Nat),K.lookup a=some o/\o.cls=.type "tuple"/\o.data=.seq its n/\its.size<=sizeLine/\Vals xs its.toList
def aC8:Value->Option V
 | .none=>some .non
 | .bool b=>some (.bl b)
 | .int i _=>some (.int i)
 | .str x _=>some (.str x)
 | .bytes b _=>some (.byt b)
 | .float b _=>some (.flt b)
 | .ref a=>some (.ref a)
 | .type n=>some (.ty n)
 | _=>none
theorem RelV.abs{x:V}{u:Value}(r:RelV x u):aC8 u=some x:=by
 cases x with
 | non=>cases r;rfl
 | bl _=>cases r;rfl
 | int _=>obtain⟨t,rfl⟩:=r;rfl
 | str _=>obtain⟨t,rfl⟩:=r;rfl
 | byt _=>obtain⟨t,rfl⟩:=r;rfl
 | flt _=>obtain⟨t,rfl⟩:=r;rfl
 | ref _=>cases r;rfl
 | ty _=>cases r;rfl
theorem RelV.inj{x y:V}{u:Value}(r:RelV x u)(q:RelV y u):x=y:=Option.some.inj (r.abs.symm.trans q.abs)
theorem Vals.inj:∀{xs ys:List V} {us:List Value},Vals xs us->Vals ys us->xs=ys
 | _,_,_,.nil,.nil=>rfl
 | _,_,_,.cons r t,.cons z t'=>by rw[r.inj z,Vals.inj t t']
section
variable{X:Cx}{pins:List (Addr×Obj)}{σ:St}{H:Hp}{s:Shared}{a:Addr}{xs ys:List V}
theorem bU.of{K:Frag}(h:H a=some (.lst xs)):bU K H a xs:=.inl (.inl h)
theorem cW.of{K:Frag}(h:H a=some (.tup xs)):cW K H a xs:=.inl (.inl h)
theorem Inv.list(I:Inv X pins σ H s)(h:bU X.K H a xs):∃its:List Value,Vals xs its/\PlainL s.heap a its.toArray/\xs.length<=sizeLine:=by
 rcases h with h | ⟨o,its,n,hk,F,hd,hs,J,r⟩;{obtain⟨z,its,n,r,e⟩:=h.ok I.hok;exact⟨its,r,⟨_,n,e,rfl,rfl,rfl⟩,z⟩};{refine⟨its.toList,r,⟨o,n,I.zr a o hk,F,hd,by simpa using hs⟩,?_⟩;have e:=r.length;simp only[Array.length_toList]at e;lia}
theorem Inv.tuple(I:Inv X pins σ H s)(h:cW X.K H a xs):∃its:List Value,Vals xs its/\IsTup s.heap a its.toArray/\xs.length<=sizeLine:=by
 rcases h with h | ⟨o,its,n,hk,F,hs,J,r⟩;{obtain⟨z,its,r,p⟩:=h.ok I.hok;exact⟨its,r,p,z⟩};{refine⟨its.toList,r,⟨o,I.zr a o hk,F,n,by simpa using hs⟩,?_⟩;have e:=r.length;simp only[Array.length_toList]at e;lia}
theorem Inv.aix(I:Inv X pins σ H s)(h:bU X.K H a xs)(h':bU X.K H a ys):xs=ys:=by
 obtain⟨F,r,⟨o,n,e,_,_,d⟩,_⟩:=I.list h;obtain⟨z,O,⟨o',Y,J,_,_,L⟩,_⟩:=I.list h';rw[e]at J;cases J;rw[d]at L;injection L with W _;have:F=z:=by{simpa using congrArg Array.toList W};subst this;exact r.inj O
theorem Inv.anU(I:Inv X pins σ H s)(h:cW X.K H a xs)(h':cW X.K H a ys):xs=ys:=by
 obtain⟨F,r,⟨o,e,_,n,d⟩,_⟩:=I.tuple h;obtain⟨z,O,⟨o',J,_,Y,L⟩,_⟩:=I.tuple h';rw[e]at J;cases J;rw[d]at L;injection L with W _;have:F=z:=by{simpa using congrArg Array.toList W};subst this;exact r.inj O
end
abbrev Cx.wish(X:Cx)(E:Value->Shared->Prop):Cx:={X with xe:=E}
abbrev Cx.kE(X:Cx):Cx:=X.wish λ_ _=>False
theorem Cx.Ok.wish{X:Cx}(ok:X.Ok)(E:Value->Shared->Prop):(X.wish E).Ok:=
 ⟨ok.mod,ok.kind,ok.glob,ok.blt,ok.above,ok.inj,ok.has,ok.cab,ok.hd,ok.frames,ok.stk,ok.exf,ok.bs,ok.bsz,ok.ais,ok.ak4,ok.Mi,ok.frf⟩
theorem Cx.Ok.yp{X:Cx}{E:Value->Shared->Prop}(ok:(X.wish E).Ok):X.Ok:=
 ⟨ok.mod,ok.kind,ok.glob,ok.blt,ok.above,ok.inj,ok.has,ok.cab,ok.hd,ok.frames,ok.stk,ok.exf,ok.bs,ok.bsz,ok.ais,ok.ak4,ok.Mi,ok.frf⟩
section
variable{X:Cx}{pins:List (Addr×Obj)}{σ:St}{H:Hp}{s:Shared}{E:Value->Shared->Prop}
theorem Inv.wish(I:Inv X pins σ H s)(E:Value->Shared->Prop):Inv (X.wish E) pins σ H s:=⟨I.ok.wish E,I.os,I.bare,I.base,I.loc,I.cell,I.free,I.wG,I.pin,I.hok,I.len⟩
theorem Inv.yp(I:Inv (X.wish E) pins σ H s):Inv X pins σ H s:=⟨I.ok.yp,I.os,I.bare,I.base,I.loc,I.cell,I.free,I.wG,I.pin,I.hok,I.len⟩
theorem SP.yp{D:Ends}{f:Flow}{s':Shared}(h:SP (X.wish E) pins D f s'):SP X pins D f s':=by
 cases f with
 | next=>obtain⟨z,H',I,q⟩:=h;exact⟨z,H',I.yp,q⟩
 | brk=>obtain⟨z,H',I,q⟩:=h;exact⟨z,H',I.yp,q⟩
 | cont=>obtain⟨z,H',I,q⟩:=h;exact⟨z,H',I.yp,q⟩
 | ret u=>obtain⟨v,z,H',I,r,q⟩:=h;exact⟨v,z,H',I.yp,r,q⟩
theorem PSs.kE{st:List Stmt}{t:TS}(h:PSs X.kE st t):PSs X st t:=λpins s σ H D I F=>
 wpAny_mono (h pins s σ H D (I.wish _) F) (λ_ _ q=>q.yp) λ_ _ z=>False.elim z
end
section
variable{X:Cx}{st:Stmt}{rest:List Stmt}{t u:TS}{e:Expr}{te:TE}{pos:Pos}
def bM:TS:=λD σ H=>D.nx σ H
def aV(t u:TS):TS:=λD σ H=>t {D with nx:=u D} σ H
theorem bw:PSs X [] bM:=λ_ _ σ H _ I h=>wpAny_execs_nil ⟨σ,H,I,h⟩
theorem ao(h1:PS X st t)(h2:PSs X rest u):PSs X (st::rest) (aV t u):=by
 intro pins s σ H D I h;refine wpAny_execs_cons (gM (h1 pins s σ H {D with nx:=u D} I h) λf s1 q=>?_);cases f with
 | next=>obtain⟨z,H',F,q⟩:=q;exact h2 pins s1 z H' D F q
 | ret v=>exact q
 | brk=>exact q
 | cont=>exact q
theorem aA(h1:PS X st t):PSs X [st] t:=by
 intro pins s σ H D I h;refine wpAny_execs_cons (gM (h1 pins s σ H D I h) λf s1 q=>?_);cases f with| next=>exact wpAny_execs_nil q| ret v=>exact q| brk=>exact q| cont=>exact q
theorem Inv.quiet{pins:List (Addr×Obj)}{σ:St}{H:Hp}{s:Shared}(I:Inv X pins σ H s):interactive X.env=false:=by simp[interactive,I.ok.kind]
def amy(te:TE):TS:=λD σ H=>te σ H λ_ H1=>D.nx σ H1
theorem bN(z:PE X e te)(hs:swapsWith e none pos.line X.env=pure false:=by rfl):PS X (.Expr e pos) (amy te):=by
 intro pins s σ H D I h;exact wpAny_Expr_any (gM (z pins s σ H _ I h) λv s1 F=>lW F λx H1 J O L=>⟨σ,H1,J,L⟩) I.quiet hs
def awk(te:TE):TS:=λD σ H=>te σ H D.rt
theorem aZ(z:PE X e te):PS X (.Return (some e) pos) (awk te):=by
 intro pins s σ H D I h;exact wpAny_Return_some (gM (z pins s σ H _ I h) λv s1 F=>lW F λx H1 J L O=>⟨x,σ,H1,J,L,O⟩)
def cR(c:TT)(t u:TS):TS:=λD σ H=>c σ H λb H1=>if b=true then t D σ H1 else u D σ H1
theorem bY{c:Expr}{a b:List Stmt}{tc:TT}(J:PT X c tc)(L:PSs X a t)(O:PSs X b u):PS X (.If c a b pos) (cR tc t u):=by
 intro pins s σ H D I h;refine wpAny_If (gM (J pins s σ H _ I h) λd s1 W=>ex3 W λH1 z F=>?_);cases d with| true=>exact L pins s1 σ H1 D z F| false=>exact O pins s1 σ H1 D z F
def awl:TS:=λ_ _ _=>False
end
abbrev TG:=V->St->Hp->(St->Hp->Prop)->Prop
abbrev TGs:=List V->St->Hp->(St->Hp->Prop)->Prop
def PG(X:Cx)(target:Expr)(t:TG):Prop:=
 ∀(pins:List (Addr×Obj)) (s:Shared) (σ:St) (H:Hp) (v:V) (u:Value) (Q:St->Hp->Prop),Inv X pins σ H s->RelV v u->t v σ H Q->
  wpAny (model X.prog X.w) X.A (assign target X.env u) (λ_ s'=>∃σ' H',Inv X pins σ' H' s'/\Q σ' H') X.xe s
def PGs(X:Cx)(ts:List Expr)(t:TGs):Prop:=
 ∀(pins:List (Addr×Obj)) (s:Shared) (σ:St) (H:Hp) (vs:List V) (us:List Value) (Q:St->Hp->Prop),Inv X pins σ H s->Vals vs us->t vs σ H Q->
  wpAny (model X.prog X.w) X.A (assignInOrder ((assignEach ts X.env).map (·.2)) us) (λ_ s'=>∃σ' H',Inv X pins σ' H' s'/\Q σ' H') X.xe s
abbrev awm:=V->V->V->Hp->(Hp->Prop)->Prop
def azO(X:Cx)(t:awm):Prop:=
 ∀(pins:List (Addr×Obj)) (s:Shared) (σ:St) (H:Hp) (o i v:V) (ov iv u:Value) (Q:Hp->Prop),Inv X pins σ H s->RelV o ov->RelV i iv->RelV v u->t o i v H Q->
  wpAny (model X.prog X.w) X.A (setItem ov iv u) (λ_ s'=>∃H',Inv X pins σ H' s'/\Q H') X.xe s
section
variable{X:Cx}{pos:Pos}
def aep(i:Nat):TG:=λv σ H Q=>Q (σ.set i (some v)) H
theorem cj{i:Nat}{x:Str}(z:X.N.Nodup)(hi:X.N[i]? = some x)(F:Loc X.env.scope x)(J:X.fn x=true\/X.env.scope.names.lookup x=some .local:=by first | exact .inl rfl | exact .inr rfl | assumption):PG X (.Name x pos) (aep i):=by
 intro pins s σ H v u Q I r h;exact wpAny_assign_Name (aiu I z hi F r (λs' L=>⟨_,H,L,h⟩) J)
def aC9:TGs:=λvs σ H Q=>vs=[]/\Q σ H
def azP(t:TG)(u:TGs):TGs:=λvs σ H Q=>∃v r,vs=v::r/\t v σ H λσ' H'=>u r σ' H' Q
theorem ug:PGs X [] aC9:=by
 intro pins s σ H vs us Q I r h;obtain⟨e,h⟩:=h;subst e;cases r;exact assignInOrder_nil ⟨σ,H,I,h⟩
theorem dJ{e:Expr}{es:List Expr}{t:TG}{u:TGs}(h1:PG X e t)(h2:PGs X es u)
 (hs:(assignEach (e::es) X.env).map (·.2)=assign e X.env::(assignEach es X.env).map (·.2):=by rfl):PGs X (e::es) (azP t u):=by
 intro pins s σ H vs us Q I r h;obtain⟨v,W,z,h⟩:=h;subst z;cases r with| cons r F=>rw[hs];refine assignInOrder_cons (gM (h1 pins s σ H _ _ _ I r h) λ_ s1 hz=>ex4 hz λJ H1 L O=>?_);exact h2 pins s1 J H1 _ _ Q L F O
def azQ(K:Frag)(n:Nat)(t:TGs):TG:=λv σ H Q=>∃a xs,v=.ref a/\cW K H a xs/\xs.length=n/\t xs σ H Q
theorem Gz{es:List Expr}{k:Nat}{t:TGs}{n:Nat}(L:X.calm=true)(h:PGs X es t)
 (O:(assignEach es X.env).length=n:=by rfl) (z:(assignEach es X.env).findIdx? (·.1)=none:=by rfl):PG X (.Tuple es k pos) (azQ X.K n t):=by
 intro pins s σ H v u Q I r F;obtain⟨a,xs,W,Y,hl,F⟩:=F;subst W;cases r;obtain⟨its,J,Z,hz⟩:=I.tuple Y;refine assign_Tuple_tuple (I.ok.hd L) Z (by simp[O,<-hl,J.length]) z λh' hx=>?_;have I1:Inv X pins σ H {s with heap:=h'}:=I.kept (t':=s.toks) λb o e=>hx b o (ne_of_lt (Heap.lt_size e)) e;exact h pins _ σ H xs _ Q I1 (by simpa using J) F
def azR(to ti:TE)(t:awm):TG:=λv σ H Q=>to σ H λo H1=>ti σ H1 λi H2=>t o i v H2 λH3=>Q σ H3
theorem GC{o i:Expr}{to J:TE}{t:awm}(L:PE X o to)(hi:PE X i J)(hs:azO X t)
 (O:∀v,assign (.Subscript o i pos) X.env v=(do
   let z <-holding [v] (eval o X.env)
   let F <-holding [v,z] (eval i X.env)
   standAt pos
   holding [v,z,F] (setItem z F v)
   release [v,z,F] []):=by intro _;rfl):PG X (.Subscript o i pos) (azR to J t):=by
 intro pins s σ H v u Q I r h;rw[O];refine wpAny_bind (wpAny_holding (gM (L pins s σ H _ I h) λz s1 hz=>lW hz λx H1 W Y Z=>?_));refine wpAny_bind (wpAny_holding (gM (hi pins s1 σ H1 _ W Z) λF s2 hz=>lW hz λy H2 I2 r2 q2=>?_));refine wpAny_bind (wpAny_standAt (wpAny_bind (wpAny_holding (gM (hs pins s2 σ H2 x y v z F u _ I2 Y r2 r q2) λ_ s3 hz=>ex3 hz λH3 I3 q3=>?_))));exact wpAny_release ⟨σ,H3,I3,q3⟩
def awn(te:TE)(g:TG):TS:=λD σ H=>te σ H λx H1=>g x σ H1 D.nx
theorem uP{tg e:Expr}{te:TE}{g:TG}(z:PE X e te)(F:PG X tg g)(hs:swapsWithSole [tg] e pos.line X.env=pure false:=by rfl)(J:swappedStores [tg] e X.env=pure none:=by rfl)
 (h1:(assignEach [tg] X.env).map (·.2)=[assign tg X.env]:=by rfl):PS X (.Assign [tg] e pos) (awn te g):=by
 intro pins s σ H D I h;refine wpAny_Assign_stores (gM (z pins s σ H _ I h) λv s1 hz=>lW hz λx H1 L O W=>?_) hs J;rw[h1];exact gM (F pins s1 σ H1 x v _ L O W) λ_ Y q=>q
theorem bu{i:Nat}{x:Str}{e:Expr}{te:TE}{pos':Pos}(z:X.N.Nodup)(hi:X.N[i]? = some x)(F:Loc X.env.scope x)(J:PE X e te)(hs:swapsWith e (some (.Name x pos')) pos.line X.env=pure false:=by rfl)(L:X.fn x=true\/X.env.scope.names.lookup x=some .local:=by first | exact .inl rfl | exact .inr rfl | assumption) :
 PS X (.Assign [.Name x pos'] e pos) (awn te (aep i)):=by
 intro pins s σ H D I h;refine wpAny_Assign_Name (gM (J pins s σ H _ I h) λv s1 hz=>lW hz λy H1 O W Y=>?_) hs;exact aiu O z hi F W (λs2 Z=>⟨_,H1,Z,Y⟩) L
end
section
variable{X:Cx}{pos:Pos}
def Zk(c:TT)(tb:TS):TS:=λD σ H=>∃W:Nat->St->Hp->Prop,(∃m,W m σ H)/\∀m σ H,W m σ H->
 c σ H λb H1=>if b=true then ∃N:St->Hp->Prop,(∀σ' H',N σ' H'->∃m',m'<m/\W m' σ' H')/\tb {D with nx:=N,ct:=N,bk:=D.nx} σ H1 else D.nx σ H1
theorem Ov{c:Expr}{body:List Stmt}{tc:TT}{tb:TS}(hp:PassesOwn (model X.prog X.w) X.A X.env X.xe)(hc:PT X c tc)(hb:PSs X body tb):PS X (.While c body [] pos) (Zk tc tb):=by
 intro pins s σ H D I h;obtain⟨W,⟨m0,w0⟩,z⟩:=h;refine wpAny_While (codeAny_whileLoop (λn s'=>∃af H',Inv X pins af H' s'/\W n af H') ?_ m0 ⟨σ,H,I,w0⟩);rintro n s1 ⟨L,H1,I1,w1⟩;refine wpAny_passesOwn hp (gM (hc pins s1 L H1 _ I1 (z n L H1 w1)) λb s2 hz=>ex3 hz λH2 I2 O=>?_);cases b with
 | true=>
   obtain⟨N,hN,O⟩:=O;rw[if_pos rfl];refine wpAny_passesOwn hp (gM (hb pins s2 L H2 _ I2 O) λf s3 Y=>?_);cases f with
   | next=>obtain⟨F,J,Z,n3⟩:=Y;obtain⟨m',hm,w3⟩:=hN F J n3;exact⟨m',hm,F,J,Z,w3⟩
   | cont=>obtain⟨F,J,Z,n3⟩:=Y;obtain⟨m',hm,w3⟩:=hN F J n3;exact⟨m',hm,F,J,Z,w3⟩
   | brk=>exact Y
   | ret v=>exact Y
 | false=>rw[if_neg Bool.false_ne_true];exact wpAny_execs_nil ⟨L,H2,I2,O⟩
end
structure It where
 go:Nat->Hp->Prop
 yld:Nat->Hp->V->Hp->Prop
 stop:Nat->Hp->Prop
def Ow(X:Cx)(pins:List (Addr×Obj))(H:Hp)(b:Addr):Prop:=
 H b=none/\b≠X.env.locals/\b∉X.fs/\(b∈X.ex\/X.s₀.heap.objs.size<=b)/\(∀x c,X.env.cells.lookup x=some c->c≠b)/\∀p∈X.pn++pins,p.1≠b
theorem Inv.apt{X:Cx}{pins:List (Addr×Obj)}{σ:St}{H H':Hp}{s:Shared}{b:Addr}(I:Inv X pins σ H s)(F:s.heap.objs.size<=b)(J:H' b=none):Ow X pins H' b:=by
 refine⟨J,Nat.ne_of_gt (lt_of_lt_of_le I.lt F),I.aC3 F,.inr (Nat.le_trans I.sz F),λx c e z=>?_,λp hp z=>?_⟩;{obtain⟨v,q⟩:=I.cell x c e;exact absurd (lt_of_lt_of_le q.lt (by rw[z];exact F)) (Nat.lt_irrefl _)};{exact absurd (lt_of_lt_of_le (Heap.lt_size (I.pin p hp).1) (by rw[z];exact F)) (Nat.lt_irrefl _)}
structure Turn(P:Program)(w:World)(K:Frag)(tg:Expr)(J:It)(fp:List Addr)(it:Addr)(tn:Nat->Heap->Prop):Prop where
 mem:it∈fp
 obj:∀i h,tn i h->∀b∈fp,∃o,h.get? b=some o/\∀v,o.data≠.cell v
 keep:∀i h h',tn i h->(∀b∈fp,∀o,h.get? b=some o->h'.get? b=some o)->tn i h'
 item:∀(X:Cx),X.prog=P->X.w=w->X.K=K->X.calm=true->∀(i:Nat) (pins:List (Addr×Obj)) (s:Shared) (σ:St) (H:Hp) (E:Value->Shared->Prop),Inv X pins σ H s->(∀b∈fp,Ow X pins H b)->tn i s.heap->J.go i H->
  wpAny (model P w) X.A (pyNext (.ref it)) (λr s1=>∃u,r=some u/\
   wpAny (model P w) X.A (letOwnedTupleGo tg (.ref it) u) (λ_ s2=>∃x H',Inv X pins σ H' s2/\RelV x u/\J.yld i H x H'/\tn (i+1) s2.heap/\∀b∈fp,H' b=none) E s1) E s
 done:∀(X:Cx),X.prog=P->X.w=w->X.K=K->X.calm=true->∀(i:Nat) (pins:List (Addr×Obj)) (s:Shared) (σ:St) (H:Hp) (E:Value->Shared->Prop),Inv X pins σ H s->(∀b∈fp,Ow X pins H b)->tn i s.heap->J.stop i H->
  wpAny (model P w) X.A (pyNext (.ref it)) (λr s1=>r=none/\Inv X pins σ H s1) E s
 self:∀(A:Around) (i:Nat) (s:Shared) (Q:Value->Shared->Prop) (E:Value->Shared->Prop),tn i s.heap->Q (.ref it) s->wpAny (model P w) A (pyIter (.ref it)) Q E s
abbrev TI:=St->Hp->(It->Hp->Prop)->Prop
def PIE(X:Cx)(pins:List (Addr×Obj))(σ:St)(tg:Expr)(R:It->Hp->Prop)(itv:Value)(s2:Shared):Prop:=
 ∃(it:Addr) (fp:List Addr) (tn:Nat->Heap->Prop) (J:It) (H':Hp),itv=.ref it/\Inv X pins σ H' s2/\Turn X.prog X.w X.K tg J fp it tn/\tn 0 s2.heap/\(∀b∈fp,Ow X pins H' b)/\R J H'
def PI(X:Cx)(tg iter:Expr)(wi:TI):Prop:=
 ∀(pins:List (Addr×Obj)) (s:Shared) (σ:St) (H:Hp) (R:It->Hp->Prop),Inv X pins σ H s->wi σ H R->
  wpAny (model X.prog X.w) X.A (eval iter X.env) (λv s1=>wpAny (model X.prog X.w) X.A (pyIter v) (PIE X pins σ tg R) X.xe s1) X.xe s
theorem apu{M:Model}{A:Around}{E:Value->Shared->Prop}{s:Shared}{tg:Expr}{F:Addr}{u:Value}{o:Obj}{n:String}{vs:Array Value}{Q:Unit->Shared->Prop}(I:s.heap.get? F=some o)(J:o.cls=.type n)(hd:o.data=.fields vs)
 (L:["enumerate","zip","dict_itemiterator","dict_reverseitemiterator","odict_iterator","itertools.zip_longest","itertools.pairwise"].contains n=false) (z:Q () s):wpAny M A (letOwnedTupleGo tg (.ref F) u) Q E s:=by
 unfold letOwnedTupleGo;cases tg<;>first
  | exact wpAny_pure z
  | (cases u<;>first
      | exact wpAny_pure z
      | (refine wpAny_bind (wpAny_load I ?_)
         rw[J,hd]
         show wpAny M A (if(["enumerate","zip","dict_itemiterator","dict_reverseitemiterator","odict_iterator","itertools.zip_longest","itertools.pairwise"].contains n && vs[0]? == some (rawInt _))=true then _ else _) Q E s
         rw[if_neg (by intro h;rw[L,Bool.false_and]at h;cases h)]
         exact wpAny_pure z))
def Itl(K:Frag)(a:Addr):It:=
 ⟨λi H=>∃xs x,bU K H a xs/\xs[i]? = some x,λi H x H'=>H'=H/\∀xs,bU K H a xs->xs[i]? = some x,λi H=>∃xs,bU K H a xs/\xs.length<=i⟩
def Itt(K:Frag)(a:Addr):It:=
 ⟨λi H=>∃xs x,cW K H a xs/\xs[i]? = some x,λi H x H'=>H'=H/\∀xs,cW K H a xs->xs[i]? = some x,λi H=>∃xs,cW K H a xs/\xs.length<=i⟩
def Itr(lo:Int)(n:Nat):It:=⟨λi _=>i<n,λi H x H'=>H'=H/\x=.int (lo+i),λi _=>n<=i⟩
theorem anV{P:Program}{w:World}{K:Frag}{tg:Expr}(a F:Addr):Turn P w K tg (Itl K a) [F] F (λi h=>h.IsListIter F a i) where
 mem:=by simp
 obj:=λi h st b J=>by
  have e:b=F:=by simpa using J
  subst e
  obtain⟨o,e,c,d⟩:=st
  exact⟨o,e,λv z=>by rw[d]at z;cases z⟩
 keep:=λi h h' st k=>st.at λo e=>k F (by simp) o e
 item:=by
  intro X Y Z hK hc i pins s σ H E I O st hg
  subst Y Z hK
  obtain⟨xs,x,W,hx⟩:=hg
  obtain⟨its,rv,p,hz⟩:=I.list W
  obtain⟨u,hu,ru⟩:=rv.get hx
  obtain⟨f0,f1,f2,f3,f4,f5⟩:=O F (by simp)
  refine wpAny_pyNext_list_item st p.isList (x:=u) (by simpa using hu) λh' L sb=>?_
  have I1:Inv X pins σ H {s with heap:=h'}:=I.turned (t':=s.toks) (λb o J e=>(sb.2 b J).trans e) f0 f1 f3 f4 f5
  obtain⟨o,e,c,d⟩:=id L
  exact⟨u,rfl,apu (s:={s with heap:=h'}) e c d (by decide) ⟨x,H,I1,ru,⟨rfl,λys hy=>by rw[I.aix hy W];exact hx⟩,L,λb J=>(O b J).1⟩⟩
 done:=by
  intro X Y Z hK hc i pins s σ H E I O st hg
  subst Y Z hK
  obtain⟨xs,W,hx⟩:=hg
  obtain⟨its,rv,p,hz⟩:=I.list W
  obtain⟨f0,f1,f2,f3,f4,f5⟩:=O F (by simp)
  have hl:=rv.length
  exact wpAny_pyNext_list_end (I.ok.hd hc) st p.isList (by simp;lia) λh' eb=>⟨rfl,I.turned (t':=s.toks) (λb o J e=>eb b o J e) f0 f1 f3 f4 f5⟩
 self:=λ_ _ _ _ _ st h=>wpAny_pyIter_listiter st h
theorem ak7{P:Program}{w:World}{K:Frag}{tg:Expr}(a F:Addr):Turn P w K tg (Itt K a) [F] F (λi h=>h.IsTupleIter F a i) where
 mem:=by simp
 obj:=λi h st b J=>by
  have e:b=F:=by simpa using J
  subst e
  obtain⟨o,e,c,d⟩:=st
  exact⟨o,e,λv z=>by rw[d]at z;cases z⟩
 keep:=λi h h' st k=>st.at λo e=>k F (by simp) o e
 item:=by
  intro X Y Z hK hc i pins s σ H E I O st hg
  subst Y Z hK
  obtain⟨xs,x,W,hx⟩:=hg
  obtain⟨its,rv,p,hz⟩:=I.tuple W
  obtain⟨u,hu,ru⟩:=rv.get hx
  obtain⟨f0,f1,f2,f3,f4,f5⟩:=O F (by simp)
  refine wpAny_pyNext_tuple_item st (show s.heap.IsTuple a its.toArray from p) (x:=u) (by simpa using hu) λh' L sb=>?_
  have I1:Inv X pins σ H {s with heap:=h'}:=I.turned (t':=s.toks) (λb o J e=>(sb.2 b J).trans e) f0 f1 f3 f4 f5
  obtain⟨o,e,c,d⟩:=id L
  exact⟨u,rfl,apu (s:={s with heap:=h'}) e c d (by decide) ⟨x,H,I1,ru,⟨rfl,λys hy=>by rw[I.anU hy W];exact hx⟩,L,λb J=>(O b J).1⟩⟩
 done:=by
  intro X Y Z hK hc i pins s σ H E I O st hg
  subst Y Z hK
  obtain⟨xs,W,hx⟩:=hg
  obtain⟨its,rv,p,hz⟩:=I.tuple W
  obtain⟨f0,f1,f2,f3,f4,f5⟩:=O F (by simp)
  have hl:=rv.length
  exact wpAny_pyNext_tuple_end (I.ok.hd hc) st (show s.heap.IsTuple a its.toArray from p) (by simp;lia) λh' eb=>⟨rfl,I.turned (t':=s.toks) (λb o J e=>eb b o J e) f0 f1 f3 f4 f5⟩
 self:=λ_ _ _ _ _ st h=>wpAny_pyIter_tupleiter st h
theorem ak8{P:Program}{w:World}{K:Frag}{tg:Expr}(F:Addr)(lo:Int)(n:Nat):Turn P w K tg (Itr lo n) [F] F (λi h=>IsRangeIter h F (lo+(i:Nat)*1) ((n:Int) - (i:Nat)) 1) where
 mem:=by simp
 obj:=λi h st b J=>by
  have e:b=F:=by simpa using J
  subst e
  exact⟨_,st,λv z=>by
   have z':Data.fields _=Data.cell v:=z
   cases z'⟩
 keep:=λi h h' st k=>k F (by simp) _ st
 item:=by
  intro X Y Z hK hc i pins s σ H E I O st hg
  subst Y Z hK
  obtain⟨f0,f1,f2,f3,f4,f5⟩:=O F (by simp)
  have W:=Walks.range (prog:=X.prog) (w:=X.w) (I.ok.hd hc) F lo 1 n
  refine W.item i s _ _ hg st λv h' tk hv L kk=>?_
  obtain⟨t,rfl⟩:=hv
  have I1:Inv X pins σ H {s with heap:=h',toks:=tk}:=I.turned (λb o J e=>kk b o (by simpa using J) e) f0 f1 f3 f4 f5
  refine⟨_,rfl,apu (s:={s with heap:=h',toks:=tk}) (n:="range_iterator") L rfl rfl (by decide) ⟨.int (lo+i),H,I1,⟨t,?_⟩,⟨rfl,rfl⟩,L,λb J=>(O b J).1⟩⟩
  rw[Int.mul_one]
 done:=by
  intro X Y Z hK hc i pins s σ H E I O st hg
  subst Y Z hK
  obtain⟨f0,f1,f2,f3,f4,f5⟩:=O F (by simp)
  exact wpAny_pyNext_range_end (I.ok.hd hc) st (by have:n<=i:=hg;lia) λh' eb=>⟨rfl,I.turned (t':=s.toks) (λb o J e=>eb b o J e) f0 f1 f3 f4 f5⟩
 self:=λ_ _ _ _ _ st h=>wpAny_pyIter_rangeiter st h
section
variable{X:Cx}{tg:Expr}
def azT(K:Frag)(tl:TE):TI:=λσ H R=>tl σ H λx H1=>∃a,x=.ref a/\(∃xs,bU K H1 a xs)/\R (Itl K a) H1
def aDa(K:Frag)(tl:TE):TI:=λσ H R=>tl σ H λx H1=>∃a,x=.ref a/\(∃xs,cW K H1 a xs)/\R (Itt K a) H1
theorem ou{l:Expr}{tl:TE}(hl:PE X l tl):PI X tg l (azT X.K tl):=by
 intro pins s σ H R I h;refine gM (hl pins s σ H _ I h) λv s1 F=>lW F λx H1 z J L=>?_;obtain⟨a,e,⟨xs,O⟩,q⟩:=L;subst e;cases J;obtain⟨W,Z,p,F⟩:=z.list O;refine wpAny_pyIter_list p.isList ?_;refine⟨s1.heap.objs.size,[s1.heap.objs.size],_,_,H1,rfl,z.kept (t':=s1.toks) λb o e=>Heap.get?_push_of_some _ e,anV a _,⟨_,Heap.get?_push_size _ rfl,rfl,rfl⟩,λb Y=>?_,q⟩;have e:b=s1.heap.objs.size:=by{simpa using Y};subst e;exact z.apt (Nat.le_refl _) (z.hok.fresh (Nat.le_refl _))
theorem awo{l:Expr}{tl:TE}(hl:PE X l tl):PI X tg l (aDa X.K tl):=by
 intro pins s σ H R I h;refine gM (hl pins s σ H _ I h) λv s1 J=>lW J λx H1 z L O=>?_;obtain⟨a,e,⟨xs,W⟩,q⟩:=O;subst e;cases L;obtain⟨F,Z,p,J⟩:=z.tuple W;refine wpAny_pyIter_tuple (show s1.heap.IsTuple a F.toArray from p) ?_;refine⟨s1.heap.objs.size,[s1.heap.objs.size],_,_,H1,rfl,z.kept (t':=s1.toks) λb o e=>Heap.get?_push_of_some _ e,ak7 a _,⟨_,Heap.get?_push_size _ rfl,rfl,rfl⟩,λb Y=>?_,q⟩;have e:b=s1.heap.objs.size:=by{simpa using Y};subst e;exact z.apt (Nat.le_refl _) (z.hok.fresh (Nat.le_refl _))
theorem apv{pins:List (Addr×Obj)}{σ:St}{H:Hp}{s:Shared}{R:It->Hp->Prop}{E:Value->Shared->Prop}{lo hi:Int}{t u v:Tok}{tk:Nat}(I:Inv X pins σ H s)(h1 : -(2 ^ 62)<=lo)(h2:lo<2 ^ 62)(F : -(2 ^ 62)<=hi)(J:hi<2 ^ 62)
 (q:R (Itr lo (hi - lo).toNat) H):wpAny (model X.prog X.w) X.A (pyIter (.ref s.heap.objs.size)) (PIE X pins σ tg R) E {s with heap:=s.heap.push {cls:=.type "range",data:=.fields #[.int lo t,.int hi u,.int 1 v]},toks:=tk}:=by
 refine wpAny_pyIter_range (IsRange.new ..) (small_one h1 h2 F J) ?_;have z:Inv X pins σ H {s with heap:=s.heap.push {cls:=.type "range",data:=.fields #[.int lo t,.int hi u,.int 1 v]},toks:=tk}:=I.kept λb o e=>Heap.get?_push_of_some _ e;refine⟨(s.heap.push {cls:=.type "range",data:=.fields #[.int lo t,.int hi u,.int 1 v]}).objs.size,[(s.heap.push {cls:=.type "range",data:=.fields #[.int lo t,.int hi u,.int 1 v]}).objs.size],_,_,H,rfl,
  z.kept (t':=tk) λb o e=>Heap.get?_push_of_some _ e,ak8 _ lo (hi - lo).toNat,?_,λb L=>?_,q⟩
 ·have O:lo+((0:Nat):Int)*1=lo:=by{simp};have W:(((hi - lo).toNat:Nat):Int) - ((0:Nat):Int)=Builtin.Range.rangeSize lo hi 1:=by{rw[rangeSize_one];split<;>lia};show IsRangeIter _ _ (lo+((0:Nat):Int)*1) ((((hi - lo).toNat:Nat):Int) - ((0:Nat):Int)) 1;rw[O,W];exact Heap.get?_push_size _ rfl
 ·have e:b=(s.heap.push {cls:=.type "range",data:=.fields #[.int lo t,.int hi u,.int 1 v]}).objs.size:=by{simpa using L};subst e;exact z.apt (Nat.le_refl _) (z.hok.fresh (Nat.le_refl _))
def azU(ta:TA):TI:=λσ H R=>ta σ H λvs H1=>∃j:Int,vs=[.int j]/\-(2 ^ 62)<=j/\j<2 ^ 62/\R (Itr 0 j.toNat) H1
theorem fU{a:Expr}{ta:TA}{p pos:Pos}(F:Gl X "range") (J:X.mg "range"=none) (L:PA X [a] ta) (hs:starEach [a] X.env=[(false,eval a X.env)]:=by rfl):PI X tg (.Call (.Name "range" p) [a] [] pos) (azU ta):=by
 intro pins s σ H R I h;refine Call_ (Zj I F J boot_range (PyProof.Rows.callWith_type1 (gM (L pos pins s σ H _ I h) λus s1 O=>lW O λvs H1 W Y z=>?_) hs rfl));obtain⟨j,e,z,Z,q⟩:=z;subst e;cases Y with| cons r rr=>cases rr;obtain⟨t,rfl⟩:=r;exact call_range_1 (apv W (by lia) (by lia) z Z (by simpa using q))
def J3(wi:TI)(g:TG)(tb:TS):TS:=λD σ H=>wi σ H λJ H1=>∃W:Nat->Nat->St->Hp->Prop,(∃m,W 0 m σ H1)/\∀i m σ H,W i m σ H->
 (J.stop i H/\D.nx σ H)\/(J.go i H/\∃N:St->Hp->Prop,(∀σ' H',N σ' H'->∃m',m'<m/\W (i+1) m' σ' H')/\∀x H',J.yld i H x H'->g x σ H' λσ2 H2=>tb {D with nx:=N,ct:=N,bk:=D.nx} σ2 H2)
def Zm(fp:List Addr)(h:Heap):List (Addr×Obj):=fp.filterMap λb=>(h.get? b).map λo=>(b,o)
theorem Bb{z:List Addr}{h:Heap}{b:Addr}{o:Obj}(F:b∈z)(e:h.get? b=some o):(b,o)∈Zm z h:=mem_filterMap.mpr ⟨b,F,by rw[e];rfl⟩
theorem anW{z:List Addr}{h:Heap}{p:Addr×Obj}(hp:p∈Zm z h):p.1∈z/\h.get? p.1=some p.2:=by
 obtain⟨b,F,e⟩:=mem_filterMap.mp hp;cases q:h.get? b with| none=>rw[q]at e;cases e| some o=>rw[q]at e;have I:(b,o)=p:=Option.some.inj e;subst I;exact⟨F,q⟩
theorem Inv.pinned{pins:List (Addr×Obj)}{σ:St}{H:Hp}{s:Shared}{F:List Addr}(I:Inv X pins σ H s)(O:∀b∈F,Ow X pins H b)(W:∀b∈F,∃o,s.heap.get? b=some o/\∀v,o.data≠.cell v):Inv X (pins++Zm F s.heap) σ H s:=
 I.amx λp hp=>(mem_append.mp hp).elim (λz=>I.pin p (mem_append_right _ z)) λz=>by
  obtain⟨J,e⟩:=anW z
  obtain⟨f0,f1,Y,_⟩:=O p.1 J
  obtain⟨o,L,d⟩:=W p.1 J
  rw[e]at L;cases L
  exact⟨e,f0,f1,Y,d⟩
theorem Inv.Ox{pins pl:List (Addr×Obj)}{σ:St}{H:Hp}{s:Shared}(I:Inv X (pins++pl) σ H s):Inv X pins σ H s:=I.amx λp hp=>I.pin p (mem_append_right _ (mem_append_left _ hp))
theorem mU{iter:Expr}{body:List Stmt}{wi:TI}{g:TG}{tb:TS}{pos:Pos}(hp:PassesOwn (model X.prog X.w) X.A X.env X.xe)(hc:X.calm=true)(hi:PI X tg iter wi)(hg:PG X tg g)(z:PSs X body tb)
 (hs:∀x,foldedSetIterable iter X.env x=pure x:=by intro _;rfl):PS X (.For tg iter body [] pos) (J3 wi g tb):=by
 intro pins s σ H D I h;refine wpAny_For (gM (hi pins s σ H _ I h) λv s1 h1=>gM h1 λay s2 h2=>?_) hs;obtain⟨it,fp,tn,J,H2,e,I2,T,ak,f2,W,⟨m0,w0⟩,ad⟩:=h2;subst e;have F:∀{H':Hp},(∀b∈fp,H' b=none)->∀b∈fp,Ow X pins H' b:=λhn b z=>⟨hn b z,(f2 b z).2⟩;refine codeAny_forLoop_any (λn s'=>∃i ae H',Inv X pins ae H' s'/\tn i s'.heap/\(∀b∈fp,H' b=none)/\W i n ae H') ?_ m0 ⟨0,σ,H2,I2,ak,λb z=>(f2 b z).1,w0⟩;rintro n s3 ⟨i,af,H3,I3,ag,ah,w3⟩;rcases ad i n af H3 w3 with ⟨stop,qn⟩ | ⟨go,N,hN,step⟩;{refine wpAny_passesOwn hp (gM (T.done X rfl rfl rfl hc i pins s3 af H3 X.xe I3 (F ah) ag stop) λr s4 ⟨hr,I4⟩=>?_);subst hr;exact wpAny_execs_nil ⟨af,H3,I4,qn⟩}
 ·refine wpAny_passesOwn hp (gM (T.item X rfl rfl rfl hc i pins s3 af H3 X.xe I3 (F ah) ag go) λr s4 ⟨u,hr,h4⟩=>?_);subst hr;refine wpAny_passesOwn hp (gM h4 λ_ s5 hz=>lW hz λx H5 I5 r5 ⟨y5,aa,am⟩=>?_);have an:=I5.pinned (F am) (T.obj _ _ aa);refine wpAny_passesOwn hp (gM (hg _ s5 af H5 x u _ an r5 (step x H5 y5)) λ_ s6 hz=>ex4 hz λaN H6 I6 q6=>?_);refine wpAny_passesOwn hp (gM (z _ s6 aN H6 _ I6 q6) λf s7 Z=>?_);have again:∀{L:St} {O:Hp},Inv X (pins++Zm fp s5.heap) L O s7->N L O->∃m,m<n/\∃i ae H',Inv X pins ae H' s7/\tn i s7.heap/\(∀b∈fp,H' b=none)/\W i m ae H':=λ{L O} Y n7=>by{obtain⟨m',hm,w7⟩:=hN L O n7;refine⟨m',hm,i+1,L,O,Y.Ox,T.keep _ _ _ aa λb z o e=>(Y.pin (b,o) (mem_append_right _ (mem_append_right _ (Bb z e)))).1,λb z=>?_,w7⟩;obtain⟨o,e,d⟩:=T.obj _ _ aa b z;exact(Y.pin (b,o) (mem_append_right _ (mem_append_right _ (Bb z e)))).2.1};cases f with
  | next=>obtain⟨L,O,Y,n7⟩:=Z;exact again Y n7
  | cont=>obtain⟨L,O,Y,n7⟩:=Z;exact again Y n7
  | brk=>obtain⟨L,O,Y,Z⟩:=Z;exact⟨L,O,Y.Ox,Z⟩
  | ret v=>obtain⟨x7,L,O,Y,r7,Z⟩:=Z;exact⟨x7,L,O,Y.Ox,r7,Z⟩
end
theorem rF{K:Frag}{a:Addr}{xs:List V}{g:TG}{tb:TS}{D:Ends}{σ:St}{H:Hp}(Pv:Nat->St->Hp->Prop)(L:Pv 0 σ H)(hl:∀i σ H,i<=xs.length->Pv i σ H->bU K H a xs)
 (hs:∀i x σ H,xs[i]? = some x->Pv i σ H->g x σ H λF H2=>tb {D with nx:=Pv (i+1),ct:=Pv (i+1),bk:=D.nx} F H2) (hd:∀σ H,Pv xs.length σ H->D.nx σ H) :
 ∃W:Nat->Nat->St->Hp->Prop,(∃m,W 0 m σ H)/\∀i m σ H,W i m σ H->
  ((Itl K a).stop i H/\D.nx σ H)\/((Itl K a).go i H/\∃N:St->Hp->Prop,(∀I H',N I H'->∃J,J<m/\W (i+1) J I H')/\∀x H',(Itl K a).yld i H x H'->g x σ H' λF H2=>tb {D with nx:=N,ct:=N,bk:=D.nx} F H2):=by
 refine⟨λi m σ H=>m=xs.length - i/\i<=xs.length/\Pv i σ H,⟨xs.length,by simp,zero_le _,L⟩,?_⟩;rintro i m σ H ⟨rfl,hi,p⟩;have q:=hl i σ H hi p;by_cases z:i<xs.length;{refine .inr ⟨⟨xs,xs[i],q,by simp[z]⟩,Pv (i+1),λI H' O=>⟨xs.length - (i+1),by lia,rfl,z,O⟩,λx H' y=>?_⟩;obtain⟨e,y⟩:=y;subst e;exact hs i x σ _ (y xs q) p};{have e:i=xs.length:=by{lia};subst e;exact .inl ⟨⟨xs,q,Nat.le_refl _⟩,hd σ H p⟩}
theorem asu{K:Frag}{a:Addr}{xs:List V}{g:TG}{tb:TS}{D:Ends}{σ:St}{H:Hp}(Pv:Nat->St->Hp->Prop)(L:Pv 0 σ H)(hl:∀i σ H,i<=xs.length->Pv i σ H->cW K H a xs)
 (hs:∀i x σ H,xs[i]? = some x->Pv i σ H->g x σ H λF H2=>tb {D with nx:=Pv (i+1),ct:=Pv (i+1),bk:=D.nx} F H2) (hd:∀σ H,Pv xs.length σ H->D.nx σ H) :
 ∃W:Nat->Nat->St->Hp->Prop,(∃m,W 0 m σ H)/\∀i m σ H,W i m σ H->
  ((Itt K a).stop i H/\D.nx σ H)\/((Itt K a).go i H/\∃N:St->Hp->Prop,(∀I H',N I H'->∃J,J<m/\W (i+1) J I H')/\∀x H',(Itt K a).yld i H x H'->g x σ H' λF H2=>tb {D with nx:=N,ct:=N,bk:=D.nx} F H2):=by
 refine⟨λi m σ H=>m=xs.length - i/\i<=xs.length/\Pv i σ H,⟨xs.length,by simp,zero_le _,L⟩,?_⟩;rintro i m σ H ⟨rfl,hi,p⟩;have q:=hl i σ H hi p;by_cases z:i<xs.length;{refine .inr ⟨⟨xs,xs[i],q,by simp[z]⟩,Pv (i+1),λI H' O=>⟨xs.length - (i+1),by lia,rfl,z,O⟩,λx H' y=>?_⟩;obtain⟨e,y⟩:=y;subst e;exact hs i x σ _ (y xs q) p};{have e:i=xs.length:=by{lia};subst e;exact .inl ⟨⟨xs,q,Nat.le_refl _⟩,hd σ H p⟩}
theorem qC{lo:Int}{n:Nat}{g:TG}{tb:TS}{D:Ends}{σ:St}{H:Hp}(Pv:Nat->St->Hp->Prop)(L:Pv 0 σ H)
 (hs:∀i σ H,i<n->Pv i σ H->g (.int (lo+i)) σ H λF H2=>tb {D with nx:=Pv (i+1),ct:=Pv (i+1),bk:=D.nx} F H2) (hd:∀σ H,Pv n σ H->D.nx σ H) :
 ∃W:Nat->Nat->St->Hp->Prop,(∃m,W 0 m σ H)/\∀i m σ H,W i m σ H->
  ((Itr lo n).stop i H/\D.nx σ H)\/((Itr lo n).go i H/\∃N:St->Hp->Prop,(∀I H',N I H'->∃J,J<m/\W (i+1) J I H')/\∀x H',(Itr lo n).yld i H x H'->g x σ H' λF H2=>tb {D with nx:=N,ct:=N,bk:=D.nx} F H2):=by
 refine⟨λi m σ H=>m=n - i/\i<=n/\Pv i σ H,⟨n,by simp,zero_le _,L⟩,?_⟩;rintro i m σ H ⟨rfl,hi,p⟩;by_cases z:i<n;{refine .inr ⟨z,Pv (i+1),λI H' O=>⟨n - (i+1),by lia,rfl,z,O⟩,λx H' y=>?_⟩;obtain⟨e,y⟩:=y;subst e y;exact hs i σ _ z p};{have e:i=n:=by{lia};subst e;exact .inl ⟨Nat.le_refl _,hd σ H p⟩}
abbrev R2:=V->V->Hp->VK->Prop
def Wx(X:Cx)(f:Value->Value->Sem Value)(r:R2):Prop:=
 ∀(pins:List (Addr×Obj)) (s:Shared) (σ:St) (H:Hp) (x y:V) (v u:Value) (Q:VK),Inv X pins σ H s->RelV x v->RelV y u->r x y H Q->
  wpAny (model X.prog X.w) X.A (f v u) (EP X pins σ Q) X.xe s
def UnR(X:Cx)(f:Value->Sem Value)(r:V->Hp->VK->Prop):Prop:=
 ∀(pins:List (Addr×Obj)) (s:Shared) (σ:St) (H:Hp) (x:V) (v:Value) (Q:VK),Inv X pins σ H s->RelV x v->r x H Q->
  wpAny (model X.prog X.w) X.A (f v) (EP X pins σ Q) X.xe s
def Vj(X:Cx)(f:Value)(r:List V->Hp->VK->Prop):Prop:=
 ∀(pins:List (Addr×Obj)) (s:Shared) (σ:St) (H:Hp) (xs:List V) (us:List Value) (Q:VK),Inv X pins σ H s->Vals xs us->r xs H Q->
  wpAny (model X.prog X.w) X.A (call f us) (EP X pins σ Q) X.xe s
def aDc(X:Cx)(r:V->Hp->(Bool->Hp->Prop)->Prop):Prop:=
 ∀(pins:List (Addr×Obj)) (s:Shared) (σ:St) (H:Hp) (x:V) (v:Value) (Q:Bool->Hp->Prop),Inv X pins σ H s->RelV x v->r x H Q->
  wpAny (model X.prog X.w) X.A (truthy v) (TP X pins σ Q) X.xe s
def Zn(r:R2)(ta tb:TE):TE:=λσ H Q=>ta σ H λx H1=>tb σ H1 λy H2=>r x y H2 Q
def tUn(r:V->Hp->VK->Prop)(ta:TE):TE:=λσ H Q=>ta σ H λx H1=>r x H1 Q
def rI(C:Int->Int->Prop)(g:Int->Int->V):R2:=λx y H Q=>∃i j,x=.int i/\y=.int j/\C i j/\Q (g i j) H
def rI0(g:Int->Int->V):R2:=λx y H Q=>∃i j,x=.int i/\y=.int j/\Q (g i j) H
def rU(g:Int->V):V->Hp->VK->Prop:=λx H Q=>∃i,x=.int i/\Q (g i) H
section
variable{X:Cx}{a b c:Expr}{ta tb tc:TE}{pos:Pos}
theorem awp(F:PE X a ta)(J:PE X b tb){pins:List (Addr×Obj)}{s:Shared}{σ:St}{H:Hp}{R:V->V->Hp->Prop}(I:Inv X pins σ H s)
 (h:ta σ H λx H1=>tb σ H1 λy H2=>R x y H2) {Q:Value->Shared->Prop} {f:Value->Value->Sem Value}
 (L:∀v u z x y H2,Inv X pins σ H2 z->RelV x v->RelV y u->R x y H2->wpAny (model X.prog X.w) X.A (f v u) Q X.xe z) :
 wpAny (model X.prog X.w) X.A (eval a X.env) (λv O=>wpAny (model X.prog X.w) X.A (eval b X.env) (λu W=>wpAny (model X.prog X.w) X.A (f v u) Q X.xe W) X.xe O) X.xe s:=by
 refine gM (F pins s σ H _ I h) λv s1 hz=>lW hz λx H1 Y Z q1=>?_;refine gM (J pins s1 σ H1 _ Y q1) λu z hz=>lW hz λy H2 I2 r2 q2=>?_;exact L v u z x y H2 I2 Z r2 q2
theorem bI{z:Operator}{r:R2}(F:Wx X (binaryOp z) r)(J:PE X a ta)(L:PE X b tb):PE X (.BinOp a z b pos) (Zn r ta tb):=by
 intro pins s σ H Q I h;exact wpAny_BinOp (awp J L I h λv u O x y H2 W Y Z q=>F pins O σ H2 x y v u Q W Y Z q)
theorem Vk{z:UnaryOp}{r:V->Hp->VK->Prop}(F:UnR X (unaryOp z) r)(J:PE X a ta):PE X (.UnaryOp z a pos) (tUn r ta):=by
 intro pins s σ H Q I h;exact UnaryOp_ (gM (J pins s σ H _ I h) λv s1 L=>lW L λx H1 O W Y=>F pins s1 σ H1 x v Q O W Y)
theorem opI{f:Value->Value->Sem Value}{C:Int->Int->Prop}{g:Int->Int->Int}
 (rule:∀(i j:Int) (t u:Tok) (s:Shared) (Q:Value->Shared->Prop) (E:Value->Shared->Prop),C i j->Q (.int (g i j) s.toks) {s with toks:=s.toks+1}->wpAny (model X.prog X.w) X.A (f (.int i t) (.int j u)) Q E s) :
 Wx X f (rI C λi j=>.int (g i j)):=by
 intro pins s σ H x y v u Q I z F h;obtain⟨i,j,rfl,rfl,J,q⟩:=h;obtain⟨t,rfl⟩:=z;obtain⟨t',rfl⟩:=F;exact rule i j t t' s _ _ J ⟨.int (g i j),H,I.tok _,⟨_,rfl⟩,q⟩
theorem azV{f:Value->Value->Sem Value}{g:Int->Int->Int}
 (rule:∀(i j:Int) (t u:Tok) (s:Shared) (Q:Value->Shared->Prop) (E:Value->Shared->Prop),Q (.int (g i j) s.toks) {s with toks:=s.toks+1}->wpAny (model X.prog X.w) X.A (f (.int i t) (.int j u)) Q E s) :
 Wx X f (rI0 λi j=>.int (g i j)):=by
 intro pins s σ H x y v u Q I z F h;obtain⟨i,j,rfl,rfl,q⟩:=h;obtain⟨t,rfl⟩:=z;obtain⟨t',rfl⟩:=F;exact rule i j t t' s _ _ ⟨.int (g i j),H,I.tok _,⟨_,rfl⟩,q⟩
theorem awq{f:Value->Value->Sem Value}{g:Int->Int->Bool}
 (rule:∀(i j:Int) (t u:Tok) (s:Shared) (Q:Value->Shared->Prop) (E:Value->Shared->Prop),Q (.bool (g i j)) s->wpAny (model X.prog X.w) X.A (f (.int i t) (.int j u)) Q E s) :
 Wx X f (rI0 λi j=>.bl (g i j)):=by
 intro pins s σ H x y v u Q I z F h;obtain⟨i,j,rfl,rfl,q⟩:=h;obtain⟨t,rfl⟩:=z;obtain⟨t',rfl⟩:=F;exact rule i j t t' s _ _ ⟨.bl (g i j),H,I,rfl,q⟩
def azW(i j:Int):Prop:=0<j/\j<1073741824
def aDd(i j:Int):Prop:=0<=j/\j<=1000000/\i.natAbs<2 ^ 64
def apw(i j:Int):Prop:=(-(2 ^ 64)<i/\i<2 ^ 64)\/(-(2 ^ 64)<j/\j<2 ^ 64)
theorem apw.ok{i j:Int}(h:apw i j):IntMulOk i j:=by
 rcases h with ⟨h1,h2⟩ | ⟨h1,h2⟩;{exact .of_left (intBits_le_64 h1 h2)};{exact .of_right (intBits_le_64 h1 h2)}
theorem jU:Wx X (binaryOp .Add) (rI0 λi j=>.int (i+j)):=azV λ_ _ _ _ _ _ _ q=>add_int q
theorem Mj:Wx X (binaryOp .Sub) (rI0 λi j=>.int (i - j)):=azV λ_ _ _ _ _ _ _ q=>sub_int q
theorem Bc:Wx X (binaryOp .Mult) (rI apw λi j=>.int (i*j)):=opI λ_ _ _ _ _ _ _ z q=>mul_int q z.ok
theorem j9:Wx X (binaryOp .FloorDiv) (rI azW λi j=>.int (i / j)):=opI λi j _ _ _ _ _ z q=>by
 have h1:(0:Int)<j:=z.1
 have h2:j<1073741824:=z.2
 exact floordiv_int (by lia) (by rw[Int.fdiv_eq_ediv_of_nonneg i (by lia)];exact q) (.inl (PyProof.noPylong_small (by lia)))
theorem fc:Wx X (binaryOp .Mod) (rI (λ_ j=>0<j) λi j=>.int (i % j)):=opI λi j _ _ _ _ _ z q=>by
 have h1:(0:Int)<j:=z
 exact mod_int' (by lia) (by rw[Int.fmod_eq_emod_of_nonneg i (by lia)];exact q)
theorem afk:Wx X (binaryOp .Pow) (rI aDd λi j=>.int (i ^ j.toNat)):=opI λ_ _ _ _ _ _ _ z q=>pow_int_small z.1 z.2.1 z.2.2 q
theorem unI{f:Value->Sem Value}{g:Int->Int}
 (rule:∀(i:Int) (t:Tok) (s:Shared) (Q:Value->Shared->Prop) (E:Value->Shared->Prop),Q (.int (g i) s.toks) {s with toks:=s.toks+1}->wpAny (model X.prog X.w) X.A (f (.int i t)) Q E s) :
 UnR X f (rU λi=>.int (g i)):=by
 intro pins s σ H x v Q I z h;obtain⟨i,rfl,q⟩:=h;obtain⟨t,rfl⟩:=z;exact rule i t s _ _ ⟨.int (g i),H,I.tok _,⟨_,rfl⟩,q⟩
theorem GD:UnR X (unaryOp .USub) (rU λi=>.int (-i)):=unI λ_ _ _ _ _ q=>neg_int q
end
def awr:V->V->Bool
 | .non,.non=>true | .non,.int _=>true | .int _,.non=>true | .non,.bl _=>true | .bl _,.non=>true | .non,.str _=>true | .str _,.non=>true
 | .int _,.int _=>true | .bl _,.bl _=>true | .str _,.str _=>true | .byt _,.byt _=>true
 | .int _,.str _=>true | .str _,.int _=>true | .bl _,.str _=>true | .str _,.bl _=>true
 | _,_=>false
def rEq:R2:=λx y H Q=>awr x y=true/\Q (.bl (decide (x=y))) H
def rNe:R2:=λx y H Q=>awr x y=true/\Q (.bl (!decide (x=y))) H
theorem amz{i j:Int}:decide (V.int i=V.int j)=(i == j):=by
 rw[Bool.eq_iff_iff];simp
theorem apx{i j:Bool}:decide (V.bl i=V.bl j)=(i == j):=by
 rw[Bool.eq_iff_iff];simp
theorem amA{i j:Str}:decide (V.str i=V.str j)=(i == j):=by
 rw[Bool.eq_iff_iff];simp
theorem amB{i j:Array UInt8}:decide (V.byt i=V.byt j)=(i.toList == j.toList):=by
 rw[Bool.eq_iff_iff];cases i;cases j;simp
section
variable{X:Cx}{a b c:Expr}{ta tb tc:TE}{pos:Pos}
theorem eY{pins:List (Addr×Obj)}{σ:St}{H:Hp}{s:Shared}{Q:VK}{k k':Bool}(I:Inv X pins σ H s)(q:Q (.bl k) H)(e:k=k'):EP X pins σ Q (.bool k') s:=by
 subst e;exact⟨.bl k,H,I,rfl,q⟩
theorem cQ:Wx X (compareOp .Eq) rEq:=by
 intro pins s σ H x y v u Q I J z h;obtain⟨hs,q⟩:=h;cases x with
 | non=>
   cases J;cases y with
   | non=>cases z;exact PySem.EqNone.eq_none_none (eY I q (by simp))
   | bl j=>cases z;exact PySem.EqNone.eq_none_bool (eY I q (by simp))
   | int j=>obtain⟨F,rfl⟩:=z;exact PySem.EqNone.eq_none_int (eY I q (by simp))
   | str j=>obtain⟨F,rfl⟩:=z;exact PySem.EqNone.eq_none_str (eY I q (by simp))
   | _=>exact absurd (show false=true from hs) Bool.false_ne_true
 | bl i=>
   cases J;cases y with
   | non=>cases z;exact PySem.EqNone.eq_bool_none (eY I q (by simp))
   | bl j=>cases z;exact eq_bool (eY I q apx)
   | str j=>obtain⟨F,rfl⟩:=z;exact PySem.EqMixed.eq_bool_str (eY I q (by simp))
   | _=>exact absurd (show false=true from hs) Bool.false_ne_true
 | int i=>
   obtain⟨t,rfl⟩:=J;cases y with
   | non=>cases z;exact PySem.EqNone.eq_int_none (eY I q (by simp))
   | int j=>obtain⟨F,rfl⟩:=z;exact eq_int (eY I q amz)
   | str j=>obtain⟨F,rfl⟩:=z;exact PySem.EqMixed.eq_int_str (eY I q (by simp))
   | _=>exact absurd (show false=true from hs) Bool.false_ne_true
 | str i=>
   obtain⟨t,rfl⟩:=J;cases y with
   | non=>cases z;exact PySem.EqNone.eq_str_none (eY I q (by simp))
   | bl j=>cases z;exact PySem.EqMixed.eq_str_bool (eY I q (by simp))
   | int j=>obtain⟨F,rfl⟩:=z;exact PySem.EqMixed.eq_str_int (eY I q (by simp))
   | str j=>obtain⟨F,rfl⟩:=z;exact eq_str (eY I q amA)
   | _=>exact absurd (show false=true from hs) Bool.false_ne_true
 | byt i=>
   obtain⟨t,rfl⟩:=J;cases y with
   | byt j=>obtain⟨F,rfl⟩:=z;exact PySem.W.eq_bytes (eY I q amB)
   | _=>exact absurd (show false=true from hs) Bool.false_ne_true
 | _=>cases y<;>exact absurd (show false=true from hs) Bool.false_ne_true
theorem uQ:Wx X (compareOp .NotEq) rNe:=by
 intro pins s σ H x y v u Q I J z h;obtain⟨hs,q⟩:=h;cases x with
 | non=>
   cases J;cases y with
   | non=>cases z;exact PySem.EqNone.ne_none_none (eY I q (by simp))
   | bl j=>cases z;exact PySem.EqNone.ne_none_bool (eY I q (by simp))
   | int j=>obtain⟨F,rfl⟩:=z;exact PySem.EqNone.ne_none_int (eY I q (by simp))
   | str j=>obtain⟨F,rfl⟩:=z;exact PySem.EqNone.ne_none_str (eY I q (by simp))
   | _=>exact absurd (show false=true from hs) Bool.false_ne_true
 | bl i=>
   cases J;cases y with
   | non=>cases z;exact PySem.EqNone.ne_bool_none (eY I q (by simp))
   | bl j=>cases z;exact ne_bool (eY I q (congrArg not apx))
   | str j=>obtain⟨F,rfl⟩:=z;exact PySem.EqMixed.ne_bool_str (eY I q (by simp))
   | _=>exact absurd (show false=true from hs) Bool.false_ne_true
 | int i=>
   obtain⟨t,rfl⟩:=J;cases y with
   | non=>cases z;exact PySem.EqNone.ne_int_none (eY I q (by simp))
   | int j=>obtain⟨F,rfl⟩:=z;exact ne_int (eY I q (congrArg not amz))
   | str j=>obtain⟨F,rfl⟩:=z;exact PySem.EqMixed.ne_int_str (eY I q (by simp))
   | _=>exact absurd (show false=true from hs) Bool.false_ne_true
 | str i=>
   obtain⟨t,rfl⟩:=J;cases y with
   | non=>cases z;exact PySem.EqNone.ne_str_none (eY I q (by simp))
   | bl j=>cases z;exact PySem.EqMixed.ne_str_bool (eY I q (by simp))
   | int j=>obtain⟨F,rfl⟩:=z;exact PySem.EqMixed.ne_str_int (eY I q (by simp))
   | str j=>obtain⟨F,rfl⟩:=z;exact ne_str (eY I q (congrArg not amA))
   | _=>exact absurd (show false=true from hs) Bool.false_ne_true
 | byt i=>
   obtain⟨t,rfl⟩:=J;cases y with
   | byt j=>obtain⟨F,rfl⟩:=z;exact PySem.W.ne_bytes (eY I q (congrArg not amB))
   | _=>exact absurd (show false=true from hs) Bool.false_ne_true
 | _=>cases y<;>exact absurd (show false=true from hs) Bool.false_ne_true
theorem Vl:Wx X (compareOp .Lt) (rI0 λi j=>.bl (decide (i<j))):=awq λ_ _ _ _ _ _ _ q=>lt_int q
theorem avs:Wx X (compareOp .Gt) (rI0 λi j=>.bl (decide (j<i))):=awq λ_ _ _ _ _ _ _ q=>gt_int q
theorem Oz:Wx X (compareOp .GtE) (rI0 λi j=>.bl (decide (j<=i))):=awq λ_ _ _ _ _ _ _ q=>ge_int q
theorem aY(b:Expr){z:CmpOp}(h:z≠.In:=by decide)(h2:z≠.NotIn:=by decide):behindInMarks z b=false:=by
 have F:(z == CmpOp.In)=false:=by{cases z<;>first | rfl | exact absurd rfl h};have I:(z == CmpOp.NotIn)=false:=by{cases z<;>first | rfl | exact absurd rfl h2};cases b<;>simp[behindInMarks,F,I]
theorem oA{z:CmpOp}{r:R2}(F:Wx X (compareOp z) r)(J:PE X a ta)(L:PE X b tb)(O:behindInMarks z b=false):PE X (.Compare a [z] [b] pos) (Zn r ta tb):=by
 intro pins s σ H Q I h;exact wpAny_Compare1 (awp J L I h λv u W x y H2 Y Z ry q=>F pins W σ H2 x y v u Q Y Z ry q) O
def aiy(t:TE):TT:=λσ H Q=>t σ H λx H'=>∃k,x=.bl k/\Q k H'
theorem aP{J:CmpOp}{r:R2}(L:Wx X (compareOp J) r)(O:PE X a ta)(W:PE X b tb)(Y:behindInMarks J b=false):PT X (.Compare a [J] [b] pos) (aiy (Zn r ta tb)):=by
 intro pins s σ H Q I h;refine wpAny_isTrue_Compare1 (gM (O pins s σ H _ I h) λv s1 F=>lW F λx H1 Z r1 q1=>gM (W pins s1 σ H1 _ Z q1) λu s2 F=>lW F λy H2 I2 r2 q2=>
  gM (L pins s2 σ H2 x y v u _ I2 r1 r2 q2) λc s3 F=>lW F λz H3 I3 r3 ⟨k,e,q3⟩=>?_) Y
 subst e;cases r3;exact wpAny_truthy_bool ⟨H3,I3,q3⟩
def azX(K:Frag)(x:V)(H:Hp)(k:Bool):Prop:=
 match x with
 | .non=>k=false
 | .bl b=>k=b
 | .int i=>k=(i != 0)
 | .str y=>y.length<=sizeLine/\k=((y.length:Int) != 0)
 | .byt y=>y.size<=sizeLine/\k=((y.size:Int) != 0)
 | .ref p=>(∃xs,bU K H p xs/\k = !xs.isEmpty)\/(∃xs,cW K H p xs/\k = !xs.isEmpty)\/∃kvs,H p=some (.dK kvs)/\k = !kvs.isEmpty
 | _=>False
theorem ak9{κ:Type}{kvs:List (κ×V)}{vs:List (κ×Value)}(r:KV kvs vs):(!vs.isEmpty) = !kvs.isEmpty:=by
 cases r<;>rfl
theorem Zo{xs:List V}{its:List Value}(r:Vals xs its):(!its.toArray.isEmpty) = !xs.isEmpty:=by
 cases r<;>simp
theorem Zq:(sizeLine:Nat)<2 ^ 63:=by rw[sizeLine_eq];decide
theorem aws:aDc X (λx H Q=>∃k,azX X.K x H k/\Q k H):=by
 intro pins s σ H x v Q I J h;obtain⟨k,e,q⟩:=h;have hl:=Zq;have hs:sizeLine=16777216:=sizeLine_eq;cases x with
 | non=>cases J;have z:k=false:=e;subst z;exact truthy_none ⟨H,I,q⟩
 | bl b=>cases J;have z:k=b:=e;subst z;exact wpAny_truthy_bool ⟨H,I,q⟩
 | int i=>obtain⟨t,rfl⟩:=J;have z:k=(i != 0):=e;subst z;exact PySem.P.truthy_int ⟨H,I,q⟩
 | str y=>obtain⟨t,rfl⟩:=J;obtain⟨Z,z⟩:y.length<=sizeLine/\k=((y.length:Int) != 0):=e;subst z;exact PySem.P.truthy_str (by lia) ⟨H,I.tok _,q⟩
 | byt y=>obtain⟨t,rfl⟩:=J;obtain⟨Z,z⟩:y.size<=sizeLine/\k=((y.size:Int) != 0):=e;subst z;exact PySem.W.truthy_bytes (by lia) ⟨H,I.tok _,q⟩
 | ref p=>cases J;have z:(∃xs,bU X.K H p xs/\k = !xs.isEmpty)\/(∃xs,cW X.K H p xs/\k = !xs.isEmpty)\/∃kvs,H p=some (.dK kvs)/\k = !kvs.isEmpty:=e;rcases z with ⟨xs,L,z⟩ | ⟨xs,L,z⟩ | ⟨kvs,L,z⟩;{subst z;obtain⟨O,r,pl,Y⟩:=I.list L;have F:=r.length;exact wpAny_truthy_list pl.isList (by simp only[size_toArray];lia) ⟨H,I.tok _,by rw[Zo r];exact q⟩};{subst z;obtain⟨O,r,pl,Y⟩:=I.tuple L;have F:=r.length;exact truthy_tuple pl (by simp only[size_toArray];lia) ⟨H,I.tok _,by rw[Zo r];exact q⟩};{subst z;obtain⟨Y,hS,vs,r,m⟩:kvs.length<=sizeLine/\(p == sysModules)=false/\∃vs,KV kvs vs/\s.heap.DictOf (iz X.prog X.w) p vs:=I.hok p _ L;have F:kvs.length=vs.length:=Paired.length r;exact wpAny_truthy_dict hS m (by lia) ⟨H,I.tok _,by rw[ak9 r];exact q⟩}
 | _=>exact(show False from e).elim
theorem GF(F:PE X a ta)(J:∀z,isTrue a X.env z=(do let v <-z;standAt a.pos;holding [v] (truthy v))) :
 PT X a (λσ H Q=>ta σ H λx H'=>∃k,azX X.K x H' k/\Q k H'):=by
 intro pins s σ H Q I h;exact isTrue_plain (gM (F pins s σ H _ I h) λv s1 hz=>lW hz λx H1 L O W=>aws pins s1 σ H1 x v Q L O W) (J _)
theorem Zr:Wx X (binaryOp .Add) (λx y H Q=>∃i j,x=.str i/\y=.str j/\i.length+j.length<=sizeLine/\Q (.str (i++j)) H):=by
 intro pins s σ H x y v u Q I z F h;obtain⟨i,j,rfl,rfl,J,q⟩:=h;obtain⟨t,rfl⟩:=z;obtain⟨L,rfl⟩:=F;exact add_str (λL tk=>⟨.str (i++j),H,I.tok _,⟨_,rfl⟩,q⟩) J
theorem vals1{x:V}{us:List Value}(r:Vals [x] us):∃u,us=[u]/\RelV x u:=by
 cases r with| cons z F=>cases F;exact⟨_,rfl,z⟩
theorem nM:Vj X (.type "int") (λxs H Q=>(∃i,xs=[.int i]/\Q (.int i) H)\/∃k,xs=[.bl k]/\Q (.int (if k then 1 else 0)) H):=by
 intro pins s σ H xs us Q I r h;rcases h with ⟨i,rfl,q⟩ | ⟨k,rfl,q⟩;{obtain⟨u,rfl,t,rfl⟩:=vals1 r;exact call_int_int ⟨.int i,H,I,⟨_,rfl⟩,q⟩};{obtain⟨u,rfl,z⟩:=vals1 r;cases z;exact call_int_bool ⟨.int (if k then 1 else 0),H,I.tok _,⟨_,rfl⟩,q⟩}
end
structure ala(h:Heap)(x dx C:Addr)(mA:Str->Option Value):Prop where
 obj:h.get? x=some (instObj C dx)
 ns:h.Ns1 dx mA
 ne:dx≠x
theorem anY{h:Heap}{dx:Addr}{mA:Str->Option Value}(n:h.Ns1 dx mA):∃I,h.get? dx=some I/\∀name,lookIn name I=some (mA name):=by
 obtain⟨o,es,Y,J,hd,hk,_,L⟩:=n;refine⟨o,J,λname=>?_⟩;have e:=L name;unfold nsFind findBy at e;rw[<-Array.find?_toList]at e;unfold lookIn;rw[hd];dsimp only;split;{rename_i y q;rw[q]at e;exact congrArg some e};{rename_i q;rw[q]at e;have a:es.toList.any (·.refKey)=false:=by{rw[any_eq_false];intro y O;obtain⟨z,t,F⟩:=hk y (Array.mem_toList_iff.mp O);simp[DictEntry.refKey,F]};have W:¬es.toList.any (·.refKey)=true:=by{rw[a];exact Bool.false_ne_true};rw[if_neg W];exact congrArg some e}
theorem ala.look{h:Heap}{x dx C:Addr}{mA:Str->Option Value}(I:ala h x dx C mA):∃z,PySem.W.InstAt h x (instObj C dx) C (some z)/\∀name,lookIn name z=some (mA name):=
 let ⟨z,F,hl⟩:=anY I.ns
 ⟨z,⟨I.obj,rfl,rfl,F⟩,hl⟩
section
variable{prog:Program}{w:World}{A:Around}{E:Value->Shared->Prop}{s:Shared}{K:Frag}{x dx C f:Addr}{mA:Str->Option Value}{name:Str}{v:Value}
theorem get_map{z:Bool}{Q:Value->Shared->Prop}(X:K.In s.heap)(I:ala s.heap x dx C mA)(L:PySem.W.plainGet K C name=true)(O:PySem.W.hasDictIn K C=true)
 (Y:findIn K (.ref C) name=some none) (Z:mA name=some v) (F:PySem.W.handedIn v=true) (h:Q v {s with toks:=s.toks+1}) :
 wpAny (model prog w) A (getAttr (.ref x) name z) Q E s:=by
 obtain⟨od,J,hl⟩:=I.look;exact PySem.W.get_value X J (PySem.W.plainGet_of L).1 (PySem.W.findObj_own O Y rfl (by rw[hl,Z])) F h
theorem apy{pl:Sem Bool}{Q:Value×List Value->Shared->Prop}(X:K.In s.heap)(I:ala s.heap x dx C mA)(z:PySem.W.plainGet K C name=true)
 (F:findIn K (.ref C) name=some (some (.ref f))) (L:isFn K (.ref f)=true) (O:mA name=none) (h:Q (.ref f,[.ref x]) s) :
 wpAny (model prog w) A (getMethod (.ref x) name pl) Q E s:=by
 obtain⟨Y,J,hl⟩:=I.look;exact PySem.W.method_fn X J (PySem.W.plainGet_of z).1 (PySem.W.plainGet_of z).2 F (beq_iff_eq.mp L) (by show(lookIn name Y).map (·.isSome)=some false;rw[hl,O];rfl) h
theorem asw{ns:List Str}{Q:Unit->Shared->Prop}(X:K.In s.heap)(I:ala s.heap x dx C mA)
 (hs:findIn K (.ref C) "__setattr__"=some (some (.builtin "object.__setattr__"))) (hp:PySem.W.plainOver K C=true) (ht:PySem.W.takerIn K C name=some none) (hh:PySem.W.hasDictIn K C=true)
 (hw:PySem.Within mA ns) (hsz:ns.length<=sizeLine)
 (h:∀h',ala h' x dx C (λy=>if y=name then some v else mA y)->Heap.SameBut dx s.heap h'->Q () {s with heap:=h',toks:=s.toks+2}) :
 wpAny (model prog w) A (setAttr (.ref x) name v) Q E s:=by
 obtain⟨od,J,hl⟩:=I.look;refine PySem.W.set_plain X J hs (PySem.W.osa_open (s:={s with toks:=s.toks+1}) (r:=none) X J hp ht λb=>?_);obtain⟨cd,hc,L⟩:=PySem.W.any_some hh;have hx:s.heap.get? x=some ⟨.ref C,some dx,.plain,#[]⟩:=I.obj;refine wpAny_bind (wpAny_pure (wpAny_bind (wpAny_bind (wpAny_loadPart hx (wpAny_bind (PySem.W.Looks.here (s:={s with toks:=s.toks+1}) (PySem.W.looks_clsIn X hc) ?_))))));rw[L];refine wpAny_pure (a:=some dx) (wpAny_bind (wpAny_pure (wpAny_bind ?_)));refine wpAny_nsSet1 (s:={s with toks:=s.toks+1}) I.ns λh' z F=>?_;obtain⟨oD,ag,ah,O,Y,Z⟩:=z.count (PySem.Within.cons name v hw);refine wpAny_bind (wpAny_lookBehind O (by rw[Y];exact pastItsLine_dict (Nat.le_trans Z (by rw[length_cons];lia))) ?_);exact wpAny_pure (h _ ⟨(F.2 _ (Ne.symm I.ne)).trans I.obj,z,I.ne⟩ F)
theorem apz{R:Result->Shared->Prop}{vs:List Value}{z:List (Str×Value)}(X:K.In s.heap)(F:PySem.W.makesIn K C=true)
 (hi:findIn K (.ref C) "__init__"=some (some (.ref f))) (I:PySem.W.typeIn K (.ref f)=some (.type "function"))
 (h:codeAny (model prog w) (A.under (.builtin "type.__call__" ⟨.ref C::vs,z⟩)) (.call (.ref f) ⟨.ref (s.heap.objs.size+1)::vs,z⟩) (PySem.W.InitBack (s.heap.objs.size+1) R)
   {s with heap:=(s.heap.push emptyDict).push (instObj C s.heap.objs.size)}) :
 codeAny (model prog w) A (.call (.ref C) ⟨vs,z⟩) R s:=by
 obtain⟨J,g,d,t,os⟩:=s;exact PySem.W.make_core (PySem.W.makes_of X F) (PySem.W.looks_findIn X hi) (λself=>PySem.W.bind_fn X self I) (.inl rfl) h
end
def gJ(f:Str)(v:V):List (Str×V)->List (Str×V)
 | []=>[(f,v)]
 | (g,x)::r=>if g=f then(g,v)::r else(g,x)::gJ f v r
theorem kJ(f g:Str)(v:V):∀fs:List (Str×V),(gJ f v fs).lookup g=if g=f then some v else fs.lookup g
 | []=>by show List.lookup g [(f,v)]=_;by_cases h:g=f;{have z:(g == f)=true:=beq_iff_eq.mpr h;simp only[List.lookup,z,if_pos h]};{have z:(g == f)=false:=beq_eq_false_iff_ne.mpr h;simp only[List.lookup,z,if_neg h]}
 | (k,x)::r=>by have F:=kJ f g v r;rw[show gJ f v ((k,x)::r)=(if k=f then(k,v)::r else(k,x)::gJ f v r)from rfl];by_cases hk:k=f;{rw[if_pos hk];by_cases h:g=k;{have z:(g == k)=true:=beq_iff_eq.mpr h;simp only[List.lookup,z,if_pos (h.trans hk)]};{have z:(g == k)=false:=beq_eq_false_iff_ne.mpr h;simp only[List.lookup,z,if_neg (λe:g=f=>h (e.trans hk.symm))]}};{rw[if_neg hk];by_cases h:g=k;{have z:(g == k)=true:=beq_iff_eq.mpr h;simp only[List.lookup,z,if_neg (λe:g=f=>hk (h.symm.trans e))]};{have z:(g == k)=false:=beq_eq_false_iff_ne.mpr h;simp only[List.lookup,z];exact F}}
theorem S7(f:Str)(v:V):∀fs:List (Str×V),f∈(gJ f v fs).map (·.1)/\∀g,g∈fs.map (·.1)->g∈(gJ f v fs).map (·.1)
 | []=>⟨by simp[gJ],λg h=>by simp at h⟩
 | (k,x)::r=>by obtain⟨z,F⟩:=S7 f v r;rw[show gJ f v ((k,x)::r)=(if k=f then(k,v)::r else(k,x)::gJ f v r)from rfl];by_cases hk:k=f;{rw[if_pos hk];subst hk;exact⟨by simp,λg h=>by simpa using h⟩};{rw[if_neg hk];refine⟨?_,λg h=>?_⟩;{rw[map_cons];exact mem_cons_of_mem _ z};{rw[map_cons]at h ⊢;rcases mem_cons.mp h with e | e;{exact mem_cons.mpr (.inl e)};{exact mem_cons_of_mem _ (F g e)}}}
theorem Vm(f:Str)(v:V):∀fs:List (Str×V),(gJ f v fs).length<=fs.length+1
 | []=>by simp[gJ]
 | (k,x)::r=>by have z:=Vm f v r;rw[show gJ f v ((k,x)::r)=(if k=f then(k,v)::r else(k,x)::gJ f v r)from rfl];by_cases hk:k=f;{rw[if_pos hk,length_cons,length_cons];lia};{rw[if_neg hk,length_cons,length_cons];lia}
theorem Ey.some_of{v:V}{o:Option Value}(r:Ey (some v) o):∃u,o=some u/\RelV v u:=by
 cases o with| none=>exact(show False from r).elim| some u=>exact⟨u,rfl,r⟩
theorem Ey.none_of{o:Option Value}(r:Ey none o):o=none:=by
 cases o with| none=>rfl| some u=>exact(show False from r).elim
theorem anZ{v:V}{u:Value}(r:RelV v u):PySem.W.handedIn u=true:=by
 cases v with
 | non=>cases (show u=Value.none from r);rfl
 | bl b=>cases (show u=Value.bool b from r);rfl
 | int i=>obtain⟨t,e⟩:=(show ∃t,u=Value.int i t from r);cases e;rfl
 | str x=>obtain⟨t,e⟩:=(show ∃t,u=Value.str x t from r);cases e;rfl
 | byt b=>obtain⟨t,e⟩:=(show ∃t,u=Value.bytes b t from r);cases e;rfl
 | flt b=>obtain⟨t,e⟩:=(show ∃t,u=Value.float b t from r);cases e;rfl
 | ref a=>cases (show u=Value.ref a from r);rfl
 | ty n=>cases (show u=Value.type n from r);rfl
section
variable{P:Program}{w:World}{H H':Hp}{h h':Heap}{a C dx:Addr}{fs fs':List (Str×V)}
theorem OD(hok:J0 P w H h)(e:H a=some (.ins C dx fs)):∃mA,ala h a dx C mA/\(∀f,Ey (fs.lookup f) (mA f))/\PySem.Within mA (fs.map (·.1))/\fs.length<=1000/\H dx=some (.own a):=by
 obtain⟨d,z,ne,ob,mA,n,r,q⟩:=(show gh P w H h a (.ins C dx fs)from hok a _ e);exact⟨mA,⟨ob,n,ne⟩,r,q,z,d⟩
end
structure Cls(K:Frag)(C:Addr):Prop where
 pg:PySem.W.plainGet K C Str.empty=true
 hd:PySem.W.hasDictIn K C=true
 po:PySem.W.plainOver K C=true
 sa:findIn K (.ref C) "__setattr__"=some (some (.builtin "object.__setattr__"))
theorem Cls.get{K:Frag}{C:Addr}(c:Cls K C)(f:Str):PySem.W.plainGet K C f=true:=c.pg
def iC(K:Frag)(C:Addr)(f:Str):Prop:=findIn K (.ref C) f=some none
theorem iC.taker{K:Frag}{C:Addr}{f:Str}(n:iC K C f):PySem.W.takerIn K C f=some none:=by
 unfold PySem.W.takerIn;rw[show findIn K (.ref C) f=some none from n];rfl
structure Meth(K:Frag)(C:Addr)(m:Str)(f:Addr):Prop where
 at_:findIn K (.ref C) m=some (some (.ref f))
 fn:isFn K (.ref f)=true
 kp:keepIn K (.ref f)=true
section
variable{X:Cx}{pins:List (Addr×Obj)}{σ:St}{H:Hp}{s:Shared}{a C dx:Addr}{fs:List (Str×V)}{f:Str}{v:V}{A:Around}{E:Value->Shared->Prop}
theorem Zt{b:Bool}{Q:Value->Shared->Prop}(I:Inv X pins σ H s)(e:H a=some (.ins C dx fs))(c:Cls X.K C)(n:iC X.K C f)(l:fs.lookup f=some v)
 (h:∀u s',Inv X pins σ H s'->RelV v u->Q u s'):wpAny (model X.prog X.w) A (getAttr (.ref a) f b) Q E s:=by
 obtain⟨mA,O,r,_,_,_⟩:=OD I.hok e;obtain⟨u,F,z⟩:=Ey.some_of (v:=v) (o:=mA f) (by rw[<-l];exact r f);exact get_map I.zr O (c.get f) c.hd n F (anZ z) (h u _ (I.tok _) z)
theorem Ml{m:Str}{g:Addr}{pl:Sem Bool}{Q:Value×List Value->Shared->Prop}(I:Inv X pins σ H s)(e:H a=some (.ins C dx fs))(c:Cls X.K C)(k:Meth X.K C m g)(l:fs.lookup m=none)
 (h:Q (.ref g,[.ref a]) s):wpAny (model X.prog X.w) A (getMethod (.ref a) m pl) Q E s:=by
 obtain⟨mA,O,r,_,_,_⟩:=OD I.hok e;have z:mA m=none:=Ey.none_of (by rw[<-l];exact r m);exact apy I.zr O (c.get m) k.at_ k.fn z h
theorem Zu{y:V}{u:Value}{Q:Unit->Shared->Prop}(I:Inv X pins σ H s)(e:H a=some (.ins C dx fs))(c:Cls X.K C)(n:iC X.K C f)(hl:fs.length<1000)(L:RelV y u)
 (h:∀s',Inv X pins σ (upd H a (.ins C dx (gJ f y fs))) s'->Q () s'):wpAny (model X.prog X.w) A (setAttr (.ref a) f u) Q E s:=by
 obtain⟨mA,O,r,wi,_,J⟩:=OD I.hok e;have hz:(fs.map (·.1)).length<=sizeLine:=by{rw[length_map,sizeLine_eq];lia};refine asw I.zr O c.sa c.po n.taker c.hd wi hz λh' F sb=>h _ ?_;have hd:∃o,h'.get? dx=some o:=let ⟨o,_,_,W,_⟩:=F.ns;⟨o,W⟩;refine I.write (x:=a) (e:=dx) (by rw[e];exact True.intro) (.inr J) (λb q Y z=>(sb.2 b Y).trans z) hd ?_;refine⟨by rw[az O.ne];exact J,?_,O.ne,F.obj,_,F.ns,λg=>?_,λg Z=>?_⟩;{have:=Vm f y fs;lia};{show Ey ((gJ f y fs).lookup g) (if g=f then some u else mA g);rw[kJ];by_cases q:g=f;{rw[if_pos q,if_pos q];exact L};{rw[if_neg q,if_neg q];exact r g}};{by_cases q:g=f;{rw[q];exact(S7 f y fs).1};{refine(S7 f y fs).2 g (wi g λz=>Z ?_);show(if g=f then some u else mA g)=none;rw[if_neg q];exact z}}
theorem Inv.made(I:Inv X pins σ H s):Inv X pins σ (upd (upd H s.heap.objs.size (.own (s.heap.objs.size+1))) (s.heap.objs.size+1) (.ins C s.heap.objs.size []))
 {s with heap:=(s.heap.push emptyDict).push (instObj C s.heap.objs.size)}:=by
 have z:(s.heap.push emptyDict).get? s.heap.objs.size=some emptyDict:=Heap.get?_push_size s.heap rfl;have F:((s.heap.push emptyDict).push (instObj C s.heap.objs.size)).get? (s.heap.objs.size+1)=some (instObj C s.heap.objs.size):=by{have:=Heap.get?_push_size (s.heap.push emptyDict) (o:=instObj C s.heap.objs.size) rfl;rwa[Heap.size_push]at this};have J:(s.heap.push emptyDict).Ns s.heap.objs.size (λ_=>none):=⟨emptyDict,#[],_,z,rfl,(λe L=>absurd L (by simp)),λ_=>rfl⟩;have O:=I.laid (a:=s.heap.objs.size) (o:=.own (s.heap.objs.size+1)) (h':=s.heap.push emptyDict) (t':=s.toks) (λb u q=>Heap.get?_push_of_some _ q) (Nat.le_refl _) ⟨_,z⟩;refine O.laid (a:=s.heap.objs.size+1) (o:=.ins C s.heap.objs.size []) (t':=s.toks) (λb u q=>Heap.get?_push_of_some _ q) (Nat.le_of_eq (Heap.size_push _ _)) ?_;have ne:s.heap.objs.size≠s.heap.objs.size+1:=ne_of_lt (Nat.lt_succ_self _);refine⟨by rw[az ne,aj],zero_le _,ne,F,λ_=>none,(Heap.Ns1.of_empty J).at λo q=>Heap.get?_push_of_some _ q,λ_=>True.intro,λy W=>absurd rfl W⟩
theorem asx{prog:Program}{w:World}{env:Env}{e:Expr}{f:Str}{pos:Pos}{s:Shared}{Q:Value->Shared->Prop}(z:attributeBase e f env (eval e env)=eval e env)
 (h:wpAny (model prog w) A (eval e env) (λo F=>wpAny (model prog w) A (getAttr o f true) Q E F) E s):wpAny (model prog w) A (eval (.Attribute e f pos) env) Q E s:=
 Attribute_any_ h (by rw[arm_eval_Attribute,z])
end
def afl(K:Frag)(ta:TE)(f:Str):TE:=λσ H Q=>ta σ H λx H1=>∃a C dx fs v,x=.ref a/\H1 a=some (.ins C dx fs)/\Cls K C/\iC K C f/\fs.lookup f=some v/\Q v H1
def aDf(K:Frag)(ta tv:TE)(f:Str):TS:=λD σ H=>tv σ H λy H1=>ta σ H1 λx H2=>∃a C dx fs,x=.ref a/\H2 a=some (.ins C dx fs)/\Cls K C/\iC K C f/\fs.length<1000/\
 D.nx σ (upd H2 a (.ins C dx (gJ f y fs)))
def azY(X:Cx)(op:Operator)(rd:V->V->Hp->VK->Prop):Prop:=
 ∀(pins:List (Addr×Obj)) (s:Shared) (σ:St) (H:Hp) (x y:V) (u v:Value) (Q:VK),Inv X pins σ H s->RelV x u->RelV y v->rd x y H Q->wpAny (model X.prog X.w) X.A (inplaceOp op u v) (EP X pins σ Q) X.xe s
def asy(K:Frag)(ta tv:TE)(rd:V->V->Hp->VK->Prop)(f:Str):TS:=λD σ H=>ta σ H λx H1=>∃a C dx fs v,x=.ref a/\H1 a=some (.ins C dx fs)/\Cls K C/\iC K C f/\fs.lookup f=some v/\
 tv σ H1 λy H2=>rd v y H2 λz H3=>∃dx' fs',H3 a=some (.ins C dx' fs')/\fs'.length<1000/\D.nx σ (upd H3 a (.ins C dx' (gJ f z fs')))
section
variable{X:Cx}{o e value:Expr}{f:Str}{pos pos' tpos:Pos}{ta tv:TE}
theorem cM(z:PE X e ta)(F:attributeBase e f X.env (eval e X.env)=eval e X.env):PE X (.Attribute e f pos) (afl X.K ta f):=by
 intro pins s σ H Q I h;refine asx F (gM (z pins s σ H _ I h) λu s1 J=>lW J λx H1 L O ⟨a,C,dx,fs,v,ex,W,c,n,l,q⟩=>?_);subst ex;obtain rfl:u=Value.ref a:=O;exact Zt L W c n l λu' s2 Y Z=>⟨v,H1,Y,Z,q⟩
theorem gO(F:PE X o ta)(J:PE X value tv)(hs:swapsWith value (some (.Attribute o f pos')) pos.line X.env=pure false):PS X (.Assign [.Attribute o f pos'] value pos) (aDf X.K ta tv f):=by
 intro pins s σ H D I h;refine plainObj_wpAny_Assign_Attribute (gM (J pins s σ H _ I h) λu s1 z=>lW z λy H1 L O q=>gM (F pins s1 σ H1 _ L q) λW s2 z=>lW z λx H2 Y Z ⟨a,C,dx,fs,ex,ea,c,n,l,q2⟩=>?_) hs;subst ex;obtain rfl:W=Value.ref a:=Z;exact Zu Y ea c n l O λs3 I3=>⟨σ,_,I3,q2⟩
theorem an0{O:Operator}{rd:V->V->Hp->VK->Prop}(W:PE X o ta)(Y:PE X value tv)(J:azY X O rd):PS X (.AugAssign (.Attribute o f tpos) O value pos) (asy X.K ta tv rd f):=by
 intro pins s σ H D I h;refine wpAny_AugAssign_AttributeAny (gM (W pins s σ H _ I h) λZ s1 F=>lW F λx H1 I1 rx ⟨a,C,dx,fs,v,ex,ea,c,n,l,q⟩=>?_);subst ex;obtain rfl:Z=Value.ref a:=rx;refine Zt I1 ea c n l λu s2 I2 ru=>gM (Y pins s2 σ H1 _ I2 q) λw3 s3 F=>lW F λy H2 I3 ry q3=>gM (J pins s3 σ H2 v y u w3 _ I3 ru ry q3) λw4 s4 F=>lW F λz H3 I4 rz ⟨ao,fs',L,l',q4⟩=>?_;exact Zu I4 L c n l' rz λs5 I5=>⟨σ,_,I5,q4⟩
def aDg:V->V->Hp->VK->Prop:=λx y H Q=>∃i j,x=.int i/\y=.int j/\Q (.int (i - j)) H
theorem awt:azY X .Sub aDg:=by
 rintro pins s σ H x y u v Q I F J ⟨i,j,rfl,rfl,q⟩;obtain⟨t,rfl⟩:=(show ∃t,u=Value.int i t from F);obtain⟨z,rfl⟩:=(show ∃z,v=Value.int j z from J);exact PyProof.Rows.isub_int ⟨.int (i - j),H,I.tok _,⟨_,rfl⟩,q⟩
end
section
variable{X:Cx}{pins:List (Addr×Obj)}{σ:St}{H:Hp}{s:Shared}{A:Around}{E:Value->Shared->Prop}{Q:Value->Shared->Prop}{c:Value}{b:Bool}
inductive OJ (K:Frag) (H:Hp):V->Value->Prop where
 | non:OJ K H .non (.type "NoneType")
 | bl (x:Bool):OJ K H (.bl x) (.type "bool")
 | int (i:Int):OJ K H (.int i) (.type "int")
 | str (x:Str):OJ K H (.str x) (.type "str")
 | flt (x:UInt64):OJ K H (.flt x) (.type "float")
 | lst {a:Addr} {xs:List V} (e:H a=some (.lst xs)):OJ K H (.ref a) (.type "list")
 | frz {a:Addr} {o:Obj} {xs:List V} (e:H a=some (.frz o (.lst xs))):OJ K H (.ref a) (.type "list")
 | tup {a:Addr} {xs:List V} (e:H a=some (.tup xs)):OJ K H (.ref a) (.type "tuple")
 | dK {a:Addr} {kvs:List (Key×V)} (e:H a=some (.dK kvs)):OJ K H (.ref a) (.type "dict")
 | dT {a:Addr} {kvs:List (List Key×V)} (e:H a=some (.dT kvs)):OJ K H (.ref a) (.type "dict")
 | ins {a C dx:Addr} {fs:List (Str×V)} (e:H a=some (.ins C dx fs)) (cl:Cls K C) (ha:findIn K (.ref C) "__class__"=some (some (.builtin "object.__class__")))
    (hn:PySem.W.specialIn K (.builtin "object.__class__") "__get__"=some (some (.builtin "getset_descriptor.__get__"))) (htk:PySem.W.takesIn K (.builtin "object.__class__")=some true)
    (hm:PySem.W.mroIn K C (.type "object")=some true):OJ K H (.ref a) (.ref C)
theorem an1{x:V}{u t:Value}(I:Inv X pins σ H s)(F:RelV x u)(ty:OJ X.K H x t)(e:kitOne X.K t c=some b)(h:∀tk,Q (.bool b) {s with toks:=tk}) :
 wpAny (model X.prog X.w) A (call (.builtin "isinstance") [u,c]) Q E s:=by
 cases ty with
 | non=>cases (show u=Value.none from F);exact kia_one PySem.W.kitx_none I.zr True.intro e (λz=>nomatch z) h
 | bl y=>cases (show u=Value.bool y from F);exact kia_one PySem.W.kitx_bool I.zr True.intro e (λz=>nomatch z) h
 | int i=>obtain⟨t,q⟩:=(show ∃t,u=Value.int i t from F);cases q;exact kia_one PySem.W.kitx_int I.zr True.intro e (λz=>nomatch z) h
 | str y=>obtain⟨t,q⟩:=(show ∃t,u=Value.str y t from F);cases q;exact kia_one PySem.W.kitx_str I.zr True.intro e (λz=>nomatch z) h
 | flt y=>obtain⟨t,q⟩:=(show ∃t,u=Value.float y t from F);cases q;exact kia_one PySem.W.kitx_float I.zr True.intro e (λz=>nomatch z) h
 | @lst a xs L=>cases (show u=Value.ref a from F);obtain⟨_,_,n,_,h1⟩:=(show gh X.prog X.w H s.heap a (.lst xs)from I.hok a _ L);exact kia_one PySem.W.kitx_list I.zr ⟨_,h1,rfl⟩ e (λz=>nomatch z) h
 | @frz a ob xs L=>cases (show u=Value.ref a from F);obtain⟨_,_,_,n,_,h1⟩:=(show gh X.prog X.w H s.heap a (.frz ob (.lst xs))from I.hok a _ L);exact kia_one PySem.W.kitx_list I.zr ⟨_,h1,rfl⟩ e (λz=>nomatch z) h
 | @tup a xs L=>cases (show u=Value.ref a from F);obtain⟨_,_,_,p⟩:=(show gh X.prog X.w H s.heap a (.tup xs)from I.hok a _ L);obtain⟨o,h1,h2,_⟩:=p;exact kia_one PySem.W.kitx_tuple I.zr ⟨o,h1,h2⟩ e (λz=>nomatch z) h
 | @dK a kvs L=>cases (show u=Value.ref a from F);obtain⟨_,_,vs,_,p⟩:=(show gh X.prog X.w H s.heap a (.dK kvs)from I.hok a _ L);obtain⟨o,es,Z,h1,h2,_⟩:=p;exact kia_one PySem.W.kitx_dict I.zr ⟨o,h1,h2.1⟩ e (λz=>nomatch z) h
 | @dT a kvs L=>cases (show u=Value.ref a from F);obtain⟨_,_,xs,_,o,es,Z,h1,h2,_⟩:=(show gh X.prog X.w H s.heap a (.dT kvs)from I.hok a _ L);exact kia_one PySem.W.kitx_dict I.zr ⟨o,h1,h2.1⟩ e (λz=>nomatch z) h
 | @ins a C dx fs L cl ha hn Y hm=>cases (show u=Value.ref a from F);obtain⟨mA,O,_⟩:=OD I.hok L;obtain⟨od,J,_⟩:=O.look;exact kia_one (PySem.W.kitx_own (cl.get _) cl.hd ha hn Y hm) I.zr J e (λz=>nomatch z) h
end
structure bV(k:Nat)(A:Around):Prop where
 hd:A.handled=none
 dp:A.depth+3*k+5<recursionLimit
 un:A.units+16*k+200<cLine
theorem bV.mono{j k:Nat}{A:Around}(r:bV k A)(h:j<=k):bV j A:=⟨r.hd,by have:=r.dp;lia,by have:=r.un;lia⟩
theorem bV.deeper{k:Nat}{A:Around}(r:bV (k+1) A)(env:Env):bV k (A.deeper env):=
 ⟨r.hd,by have:=r.dp;show A.depth+1+3*k+5<_;lia,by have:=r.un;show A.units+3+16*k+200<_;lia⟩
theorem alb{A:Around}{C:Addr}{us:List Value}{z:List (Str×Value)}:(A.under (.builtin "type.__call__" ⟨.ref C::us,z⟩)).depth=A.depth+1:=by
 first | rfl | simp[Around.under,Code.weight,Code.isCreation,Code.isGuard,Code.isCaller,Code.frames,Code.isFrame,guardIds]
theorem alc{A:Around}{C:Addr}{us:List Value}{z:List (Str×Value)}:(A.under (.builtin "type.__call__" ⟨.ref C::us,z⟩)).units=A.units+1:=by
 first | rfl | simp[Around.under,Code.cUnits,Code.frames,Code.isFrame]
theorem bV.make{k:Nat}{A:Around}(r:bV (k+1) A)(C:Addr)(us:List Value)(z:List (Str×Value)):bV k (A.under (.builtin "type.__call__" ⟨.ref C::us,z⟩)):=
 ⟨r.hd,by have:=r.dp;rw[alb];lia,by have:=r.un;rw[alc];lia⟩
theorem bV.depth{k:Nat}{A:Around}(r:bV k A):A.depth<recursionLimit:=by have:=r.dp;lia
theorem bV.units{k:Nat}{A:Around}(r:bV k A):A.units+64<cLine:=by have:=r.un;lia
theorem bV.Zv{k:Nat}{A:Around}(r:bV k A):A.units<cLine:=by have:=r.un;lia
def J4:TA:=λ_ H Q=>Q [] H
def nO(ta:TE)(tr:TA):TA:=λσ H Q=>ta σ H λx H1=>tr σ H1 λxs H2=>Q (x::xs) H2
section
variable{X:Cx}{e:Expr}{es:List Expr}{te:TE}{t:TA}{pos:Pos}
theorem ak:PA X [] J4:=λ_ _ _ _ H Q I h=>Calls.spliced_nil ⟨[],H,I,.nil,h⟩
theorem aa(F:PE X e te)(J:PA X es t)(hs:starEach (e::es) X.env=(false,eval e X.env)::starEach es X.env:=by rfl):PA X (e::es) (nO te t):=by
 intro pos pins s σ H Q I h;rw[hs];show wpAny _ _ (spliced ((false,eval e X.env)::backTo pos (starEach es X.env))) _ _ s;refine Calls.spliced_cons (gM (F pins s σ H _ I h) λu s1 z=>lW z λx H1 L O W=>?_);exact gM (J pos pins s1 σ H1 _ L W) λus s2 z=>lW z λxs H2 Y Z q2=>⟨x::xs,H2,Y,.cons O Z,q2⟩
def apA(t:TA):TE:=λσ H Q=>t σ H λxs H1=>xs.length<=sizeLine/\∀p,H1 p=none->Q (.ref p) (upd H1 p (.tup xs))
def aDh(t:TA):TE:=λσ H Q=>t σ H λxs H1=>xs.length<=sizeLine/\∀p,H1 p=none->Q (.ref p) (upd H1 p (.lst xs))
theorem b7{J}(h:PA X es t):PE X (.Tuple es J pos) (apA t):=by
 intro pins s σ H Q I L;refine wpAny_Tuple_spliced (gM (h pos pins s σ H _ I L) λus s1 O=>lW O λxs H1 F r ⟨z,q⟩=>⟨by rw[<-r.length];exact z,?_⟩);have W:H1 s1.heap.objs.size=none:=F.hok.fresh (Nat.le_refl _);refine⟨.ref s1.heap.objs.size,upd H1 s1.heap.objs.size (.tup xs),F.laid (t':=s1.toks) (λb u e=>Heap.get?_push_of_some _ e) (Nat.le_refl _) ?_,rfl,q _ W⟩;exact⟨z,us,r,⟨_,Heap.get?_push_size _ rfl,rfl,_,rfl⟩⟩
theorem bJ(h:PA X es t):PE X (.List es pos) (aDh t):=by
 intro pins s σ H Q I J;refine wpAny_List_spliced (gM (h pos pins s σ H _ I J) λus s1 L=>lW L λxs H1 F r ⟨z,q⟩=>⟨by rw[<-r.length];exact z,?_⟩);have O:H1 s1.heap.objs.size=none:=F.hok.fresh (Nat.le_refl _);refine⟨.ref s1.heap.objs.size,upd H1 s1.heap.objs.size (.lst xs),F.laid (t':=s1.toks) (λb u e=>Heap.get?_push_of_some _ e) (Nat.le_refl _) ?_,rfl,q _ O⟩;exact⟨z,us,0,r,Heap.get?_push_size _ rfl⟩
end
abbrev Sp:=List V->Hp->VK->XK->Prop
abbrev CXT:=List Env->Hp->Shared->XK->Value->Shared->Prop
structure ald(P:Program)(w:World)(K:Frag)(mg:Str->Option Value)(base:Heap)(A:Around)(outer:List Env)(s:Shared)(H:Hp):Prop where
 frames:A.frames=some outer
 mod:Mod K mg base
 bs:∀b o,base.get? b=some o->s.heap.get? b=some o/\H b=none
 bsz:base.objs.size<=s.heap.objs.size
 Mi:s.heap.FunFrames base outer
 frf:∀b∈frs outer,H b=none
 hok:J0 P w H s.heap
 bare:AllBare s.gens
def CE(outer:List Env)(P:Program)(w:World)(H:Hp)(s:Shared)(Q:VK)(u:Value)(s':Shared):Prop:=
 ∃v H',s'.os=s.os/\AllBare s'.gens/\Un (frs outer) [] H H' s.heap s'.heap/\J0 P w H' s'.heap/\RelV v u/\Q v H'
def CR(CX:CXT)(outer:List Env)(P:Program)(w:World)(H:Hp)(s:Shared)(Q:VK)(E:XK)(r:Result)(s':Shared):Prop:=
 match r with
 | .ok (.ret u)=>CE outer P w H s Q u s'
 | .ok _=>False
 | .error e=>CX outer H s E e s'
structure cX(P:Program)(w:World)(K:Frag)(mg:Str->Option Value)(base:Heap)(CX:CXT)(k:Nat)(f:Addr)(fd:FuncData)(ps:List Str)(sp:Sp):Prop where
 len:∀vs H Q E,sp vs H Q E->vs.length=ps.length
 run:∀(A:Around) (outer:List Env) (s:Shared) (H:Hp) (args:Args) (us:List Value) (vs:List V) (Q:VK) (E:XK),bV k A->ald P w K mg base A outer s H->BindsTo s fd args (ps.zip us)->Vals vs us->sp vs H Q E->
  codeAny (model P w) A (.call (.ref f) args) (CR CX outer P w H s Q E) s
theorem ald.make{P:Program}{w:World}{K:Frag}{mg:Str->Option Value}{base:Heap}{A:Around}{outer:List Env}{s:Shared}{H:Hp}(e:ald P w K mg base A outer s H)(C:Addr)(us:List Value)(z:List (Str×Value)) :
 ald P w K mg base (A.under (.builtin "type.__call__" ⟨.ref C::us,z⟩)) outer s H:=⟨by first | exact e.frames | (simpa[Around.under,Code.envs,Code.isFrame,pushEnvs] using e.frames),e.mod,e.bs,e.bsz,e.Mi,e.frf,e.hok,e.bare⟩
section
variable{X:Cx}{pins:List (Addr×Obj)}{σ:St}{H:Hp}{s s':Shared}
theorem Inv.env0(I:Inv X pins σ H s):ald X.prog X.w X.K X.mg X.base X.A X.stack s H:=
 ⟨I.ok.frames,I.ok.mod,I.bs,Nat.le_trans I.ok.bsz I.sz,I.stack,I.afj,I.hok,I.bare⟩
theorem Inv.after{Q:VK}{u:Value}(I:Inv X pins σ H s)(h:CE X.stack X.prog X.w H s Q u s'):EP X pins σ Q u s':=by
 obtain⟨v,H',os,bare,un,hok,r,q⟩:=h;obtain⟨J,g,d,t,F⟩:=s';obtain rfl:F=s.os:=os;exact⟨v,H',I.call (h':=J) (g':=g) (d':=d) (t':=t) (ch:=[]) un hok bare (λb z=>absurd z (by simp)),r,q⟩
end
def apB(sp:Sp)(Zw:List V)(E:XK)(t:TA):TE:=λσ H Q=>t σ H λvs H1=>sp (vs++Zw) H1 Q E
def avt(C:Addr)(m:Str)(sp:Sp)(Zw:List V)(E:XK)(ta:TE)(t:TA):TE:=λσ H Q=>ta σ H λx H1=>∃a dx fs,x=.ref a/\H1 a=some (.ins C dx fs)/\fs.lookup m=none/\
 t σ H1 λvs H2=>sp (x::(vs++Zw)) H2 Q E
def avu(C:Addr)(sp:Sp)(Zw:List V)(E:XK)(t:TA):TE:=λσ H Q=>t σ H λvs H1=>∀x dx,H1 x=none->H1 dx=none->dx≠x->
 sp (.ref x::(vs++Zw)) (upd (upd H1 dx (.own x)) x (.ins C dx [])) (λv H2=>v=.non/\Q (.ref x) H2) E
def Binds(K:Frag)(fd:FuncData)(ps:List Str)(ds:List Value):Prop:=
 ∀(s:Shared) (us:List Value),K.In s.heap->(us++ds).length=ps.length->BindsTo s fd ⟨us,[]⟩ (ps.zip (us++ds))
theorem Binds.all{K:Frag}{fd:FuncData}{ps:List Str}(h:∀us:List Value,us.length=ps.length->bindArgs fd ⟨us,[]⟩=pure (ps.zip us)):Binds K fd ps []:=λs us _ hl=>by
 rw[append_nil]at hl ⊢
 exact .of_eq (h us hl)
def Passes(CX:CXT)(X:Cx)(E:XK):Prop:=∀(pins:List (Addr×Obj)) (σ:St) (H:Hp) (s:Shared) (e:Value) (s':Shared),Inv X pins σ H s->CX X.stack H s E e s'->X.xe e s'
section
variable{X:Cx}{CX:CXT}{k:Nat}{f C:Addr}{fd:FuncData}{ps:List Str}{sp:Sp}{Zw:List V}{ds:List Value}{E:XK}{x m:Str}{p pos apos:Pos}{e o:Expr}{es:List Expr}{ta:TE}{t:TA}
theorem ale{pins:List (Addr×Obj)}{σ:St}{H:Hp}{s:Shared}{Q:VK}{us:List Value}{vs:List V}(F:cX X.prog X.w X.K X.mg X.base CX k f fd ps sp)(L:bV k X.A)(O:Binds X.K fd ps ds)(hd:Vals Zw ds)(W:Passes CX X E)
 (I:Inv X pins σ H s) (r:Vals vs us) (h:sp (vs++Zw) H Q E):wpAny (model X.prog X.w) X.A (call (.ref f) us) (EP X pins σ Q) X.xe s:=by
 have J:Vals (vs++Zw) (us++ds):=r.append hd;have hl:(us++ds).length=ps.length:=by{rw[<-J.length];exact F.len _ _ _ _ h};refine wpAny_call (codeAny_mono (F.run X.A X.stack s H ⟨us,[]⟩ (us++ds) (vs++Zw) Q E L I.env0 (O s us I.zr hl) J h) λr s' z=>?_);cases r with| error e=>exact W pins σ H s e s' I z| ok Y=>cases Y with| ret u=>exact I.after z| next=>exact False.elim z| brk=>exact False.elim z| cont=>exact False.elim z
theorem bZ(F:cX X.prog X.w X.K X.mg X.base CX k f fd ps sp)(O:bV k X.A)(Y:Gl X x)(Z:X.mg x=some (.ref f))(hk:keepIn X.K (.ref f)=true)(hb:Binds X.K fd ps ds)(hd:Vals Zw ds)(hx:Passes CX X E)
 (ha:PA X (e::es) t) (z:(x == ("__debug__":Str))=false:=by decide) (he:starEach (e::es) X.env=(false,eval e X.env)::starEach es X.env:=by rfl) (J:(backTo pos (starEach es X.env)).any (·.1)=false:=by rfl) :
 PE X (.Call (.Name x p) (e::es) [] pos) (apB sp Zw E t):=by
 intro pins s σ H Q I h;refine wpAny_Call_Name_kw (Az I Y Z ?_ z);refine PySem.W.callWith_K (h₀:=X.base) I.ok.mod.kin hk (gM (ha pos pins s σ H _ I h) λus s1 hz=>lW hz λvs H1 L r q=>⟨L.zr,?_⟩) he J;exact ale F O hb hd hx L r q
theorem cI{pl:Sem Bool}(he:PE X o ta)(c:Cls X.K C)(L:Meth X.K C m f)(F:cX X.prog X.w X.K X.mg X.base CX k f fd ps sp)(hr:bV k X.A)(hb:Binds X.K fd ps ds)(hd:Vals Zw ds)(hx:Passes CX X E)(ha:PA X (e::es) t)
 (z:starEach (e::es) X.env=(false,eval e X.env)::starEach es X.env:=by rfl) (J:(backTo pos (starEach es X.env)).any (·.1)=false:=by rfl)
 (ht:eval (.Call (.Attribute o m apos) (e::es) [] pos) X.env=(do
   let O <-eval o X.env
   standAt apos.atName
   let (f,first) <-holding [O] (getMethod O m pl)
   callWith pos f first (backTo pos (starEach (e::es) X.env)) (backToKw pos (keywordEach [] X.env))):=by rfl) :
 PE X (.Call (.Attribute o m apos) (e::es) [] pos) (avt C m sp Zw E ta t):=by
 intro pins s σ H Q I h;refine PySem.W.methodCall_KW (pl:=pl) (gM (he pins s σ H _ I h) λu s1 hz=>lW hz λx H1 Y rx ⟨a,dx,fs,ex,ea,l,q⟩=>?_) ht;subst ex;obtain rfl:u=Value.ref a:=rx;refine Ml Y ea c L l ?_;refine PySem.W.callWith_K (first:=[.ref a]) (h₀:=X.base) I.ok.mod.kin L.kp (gM (ha pos pins s1 σ H1 _ Y q) λus s2 hz=>lW hz λvs H2 Z r q2=>⟨Z.zr,?_⟩) z J;exact ale (us:=.ref a::us) (vs:=.ref a::vs) F hr hb hd hx Z (.cons rfl r) q2
theorem rG{pl:Sem Bool}(O:PE X o ta)(c:Cls X.K C)(J:Meth X.K C m f)(F:cX X.prog X.w X.K X.mg X.base CX k f fd ps sp)(Y:bV k X.A)(Z:Binds X.K fd ps ds)(hd:Vals Zw ds)(hx:Passes CX X E)
 (ht:eval (.Call (.Attribute o m apos) [] [] pos) X.env=(do
   let L <-eval o X.env
   standAt apos.atName
   let (f,first) <-holding [L] (getMethod L m pl)
   callWith pos f first (backTo pos (starEach [] X.env)) (backToKw pos (keywordEach [] X.env))):=by rfl) :
 PE X (.Call (.Attribute o m apos) [] [] pos) (avt C m sp Zw E ta J4):=by
 intro pins s σ H Q I h;refine PySem.W.methodCall_KW (pl:=pl) (gM (O pins s σ H _ I h) λu s1 hz=>lW hz λx H1 z rx ⟨a,dx,fs,ex,ea,l,q⟩=>?_) ht;subst ex;obtain rfl:u=Value.ref a:=rx;refine Ml z ea c J l ?_;exact PySem.W.callWith_K0 (first:=[.ref a]) z.zr J.kp (ale (us:=[.ref a]) (vs:=[.ref a]) F Y Z hd hx z (.cons rfl .nil) q)
structure Mk(K:Frag)(C f:Addr):Prop where
 makes:PySem.W.makesIn K C=true
 init:findIn K (.ref C) "__init__"=some (some (.ref f))
 fn:isFn K (.ref f)=true
 kp:keepIn K (.ref C)=true
theorem aiz{pins:List (Addr×Obj)}{σ:St}{H:Hp}{s:Shared}{Q:VK}{us:List Value}{vs:List V}(M:Mk X.K C f)(F:cX X.prog X.w X.K X.mg X.base CX k f fd ps sp)(W:bV (k+1) X.A)(Y:Binds X.K fd ps ds)(hd:Vals Zw ds)
 (Z:Passes CX X E) (I:Inv X pins σ H s) (r:Vals vs us)
 (h:∀x dx,H x=none->H dx=none->dx≠x->sp (.ref x::(vs++Zw)) (upd (upd H dx (.own x)) x (.ins C dx [])) (λv H2=>v=.non/\Q (.ref x) H2) E) :
 wpAny (model X.prog X.w) X.A (call (.ref C) us) (EP X pins σ Q) X.xe s:=by
 have L:=h (s.heap.objs.size+1) s.heap.objs.size (I.hok.fresh (le_succ _)) (I.hok.fresh (Nat.le_refl _)) (ne_of_lt (Nat.lt_succ_self _));have J:=Inv.made (C:=C) I;have O:Vals (V.ref (s.heap.objs.size+1)::(vs++Zw)) (Value.ref (s.heap.objs.size+1)::(us++ds)):=.cons rfl (r.append hd);have hl:(Value.ref (s.heap.objs.size+1)::us++ds).length=ps.length:=by{have e:=O.length;rw[F.len _ _ _ _ L]at e;exact e.symm};refine wpAny_call (apz (f:=f) I.zr M.makes M.init (beq_iff_eq.mp M.fn) (codeAny_mono (F.run _ X.stack _ _ ⟨Value.ref (s.heap.objs.size+1)::us,[]⟩ (Value.ref (s.heap.objs.size+1)::(us++ds)) _ _ E (W.make C us [])
  (J.env0.make C us []) (Y _ (Value.ref (s.heap.objs.size+1)::us) J.zr hl) O L) λr s' z=>?_))
 cases r with
 | error e=>exact Z pins σ _ _ e s' J z
 | ok fl=>
   cases fl with
   | ret u=>obtain⟨v,H',I3,rv,ev,q3⟩:=J.after z;subst ev;exact⟨rv,⟨V.ref (s.heap.objs.size+1),H',I3,rfl,q3⟩⟩
   | next=>exact False.elim z
   | brk=>exact False.elim z
   | cont=>exact False.elim z
theorem afm(M:Mk X.K C f)(F:cX X.prog X.w X.K X.mg X.base CX k f fd ps sp)(O:bV (k+1) X.A)(Y:Gl X x)(Z:X.mg x=some (.ref C))(hb:Binds X.K fd ps ds)(hd:Vals Zw ds)(hx:Passes CX X E)
 (ha:PA X (e::es) t) (z:(x == ("__debug__":Str))=false:=by decide) (he:starEach (e::es) X.env=(false,eval e X.env)::starEach es X.env:=by rfl) (J:(backTo pos (starEach es X.env)).any (·.1)=false:=by rfl) :
 PE X (.Call (.Name x p) (e::es) [] pos) (avu C sp Zw E t):=by
 intro pins s σ H Q I h;refine wpAny_Call_Name_kw (Az I Y Z ?_ z);refine PySem.W.callWith_K (h₀:=X.base) I.ok.mod.kin M.kp (gM (ha pos pins s σ H _ I h) λus s1 hz=>lW hz λvs H1 L r q=>⟨L.zr,?_⟩) he J;exact aiz M F O hb hd hx L r q
theorem apC(M:Mk X.K C f)(F:cX X.prog X.w X.K X.mg X.base CX k f fd ps sp)(J:bV (k+1) X.A)(L:Gl X x)(O:X.mg x=some (.ref C))(Y:Binds X.K fd ps ds)(hd:Vals Zw ds)(Z:Passes CX X E)
 (z:(x == ("__debug__":Str))=false:=by decide):PE X (.Call (.Name x p) [] [] pos) (avu C sp Zw E J4):=by
 intro pins s σ H Q I h;refine wpAny_Call_Name_kw (Az I L O ?_ z);exact PySem.W.callWith_K0 I.zr M.kp (aiz (us:=[]) M F J Y hd Z I .nil h)
end
section
variable{X:Cx}{CX:CXT}{k:Nat}{f C:Addr}{fd:FuncData}{ps ks:List Str}{sp:Sp}{E:XK}{x m:Str}{p pos apos aGP:Pos}{e o:Expr}{es:List Expr}{kws:List Keyword}{te ta:TE}{t tk:TA}{nm:Option Str}
variable{g:List Value->List Value->List Value}{gV:List V->List V->List V}
end
structure bA(N P:List Str)(sc:Scope):Prop where
 kind:sc.kind=.function
 co:sc.isCoroutine=false
 gen:sc.isGenerator=false
 nd:N.Nodup
 pre:N.take P.length=P
 par:∀x∈P,sc.names.lookup x=some .local\/sc.names.lookup x=some .cell
 awu:∀y∈sc.names,y.2≠.free
theorem aeq{kindOf:Str->Option NameKind}{x:Str}:∀{binds:List (Str×Value)} {m:Str->Option Value},(∀v,(x,v)∉binds)->bindL kindOf binds m x=m x
 | [],_,_=>rfl
 | (n,v)::r,m,h=>by unfold bindL;rw[aeq λw z=>h w (mem_cons_of_mem _ z)];split;{have:x≠n:=by{rintro rfl;exact h v mem_cons_self};simp[this]};{rfl}
theorem aer{kindOf:Str->Option NameKind}{x:Str}:∀{binds:List (Str×Value)} {m:Str->Option Value},(∀v,(x,v)∉binds)->bindC kindOf binds m x=m x
 | [],_,_=>rfl
 | (n,v)::r,m,h=>by unfold bindC;rw[aer λw z=>h w (mem_cons_of_mem _ z)];split;{rfl};{have:x≠n:=by{rintro rfl;exact h v mem_cons_self};simp[this]}
theorem aes{kindOf:Str->Option NameKind}{x:Str}{v:Value}:∀{P:List Str} {vs:List Value} {i:Nat} {m:Str->Option Value},P.Nodup->P[i]? = some x->vs[i]? = some v->kindOf x=some .local->
 bindL kindOf (P.zip vs) m x=some v
 | [],_,_,_,_,h,_,_=>by simp at h
 | _::_,[],_,_,_,_,h,_=>by simp at h
 | p::P,w::vs,0,m,nd,h1,h2,hk=>by
   simp at h1 h2;subst h1;subst h2
   show bindL kindOf ((p,w)::P.zip vs) m p=_
   unfold bindL
   rw[aeq λv z=>(nodup_cons.mp nd).1 (of_mem_zip z).1,if_pos hk]
   simp
 | p::P,w::vs,i+1,m,nd,h1,h2,hk=>by
   show bindL kindOf ((p,w)::P.zip vs) m x=_
   unfold bindL
   exact aes (i:=i) (nodup_cons.mp nd).2 (by simpa using h1) (by simpa using h2) hk
theorem aet{kindOf:Str->Option NameKind}{x:Str}{v:Value}:∀{P:List Str} {vs:List Value} {i:Nat} {m:Str->Option Value},P.Nodup->P[i]? = some x->vs[i]? = some v->kindOf x≠some .local->
 bindC kindOf (P.zip vs) m x=some v
 | [],_,_,_,_,h,_,_=>by simp at h
 | _::_,[],_,_,_,_,h,_=>by simp at h
 | p::P,w::vs,0,m,nd,h1,h2,hk=>by
   simp at h1 h2;subst h1;subst h2
   show bindC kindOf ((p,w)::P.zip vs) m p=_
   unfold bindC
   rw[aer λv z=>(nodup_cons.mp nd).1 (of_mem_zip z).1,if_neg hk]
   simp
 | p::P,w::vs,i+1,m,nd,h1,h2,hk=>by
   show bindC kindOf ((p,w)::P.zip vs) m x=_
   unfold bindC
   exact aet (i:=i) (nodup_cons.mp nd).2 (by simpa using h1) (by simpa using h2) hk
def start(N:List Str)(vs:List V):St:=vs.map some++replicate (N.length - vs.length) none
def dj(CX:CXT)(P:Program)(w:World)(K:Frag)(mg:Str->Option Value)(base:Heap)(N:List Str)(qual:Str)(scope:Scope)(f:Addr)(cd:Value)(A:Around)(outer:List Env)(s:Shared)(H:Hp)(E:XK):Cx where
 prog:=P
 w:=w
 K:=K
 mg:=mg
 base:=base
 A:=A.deeper (envOfC qual scope s.heap.objs.size f cd)
 N:=N
 s₀:=s
 H₀:=H
 env:=envOfC qual scope s.heap.objs.size f cd
 outer:=outer
 stack:=envOfC qual scope s.heap.objs.size f cd::outer
 ex:=[]
 calm:=true
 fn:=λ_=>true
 pn:=[]
 xe:=λe s'=>wpAny (model P w) (A.deeper (envOfC qual scope s.heap.objs.size f cd)) (leaving (envOfC qual scope s.heap.objs.size f cd) e) (λ_ s''=>CX outer H s E e s'') (λe' s''=>CX outer H s E e' s'') s'
theorem aiA{z:Scope}{n:Nat}{x:Str}(h:z.names.lookup x=some .cell):∃c,(cellsFrom n z.names []).lookup x=some c:=by
 have q:=PySem.W.cellsFrom_some z.names n [] (.inl h);exact Option.isSome_iff_exists.mp q
theorem an3{CX:CXT}{P:Program}{w:World}{K:Frag}{mg:Str->Option Value}{base:Heap}{N ps:List Str}{qual:Str}{scope:Scope}{f:Addr}{cd:Value}{A:Around}{outer:List Env}{s s1:Shared}{H:Hp}{E:XK}{us:List Value}{vs:List V}
 (S:bA N ps scope) (hd:A.handled=none) (F:ald P w K mg base A outer s H) (hl:vs.length=ps.length) (r:Vals vs us)
 (x:InCallC s s.heap.objs.size (bindL (envOfC qual scope s.heap.objs.size f cd).kindOf (ps.zip us) λ_=>none) (cellsFrom (s.heap.objs.size+1) scope.names []) (bindC (envOfC qual scope s.heap.objs.size f cd).kindOf (ps.zip us) λ_=>none) s1) :
 Inv (dj CX P w K mg base N qual scope f cd A outer s H E) [] (start N vs) H s1:=by
 have W:ps.length<=N.length:=by{have:=congrArg List.length S.pre;rw[length_take]at this;lia};obtain⟨h1,tk,rfl,hk⟩:=x.done;have I:∀b:Addr,b∉(dj CX P w K mg base N qual scope f cd A outer s H E).ex:=λb z=>absurd (show b∈([]:List Addr)from z) (by simp);refine⟨⟨F.mod,S.kind,rfl,rfl,Nat.le_refl _,λy z c h1 h2=>?_,λy J=>?_,λy c _ h=>?_,λ_=>hd,Around.frames_deeper F.frames,.inr ⟨rfl,rfl⟩,λb z=>absurd z (I b),F.bs,F.bsz,λb _ _=>I b,λb z=>absurd z (I b),F.Mi,F.frf⟩,
  rfl,F.bare,Un.kept hk,⟨_,x.toInCall.ns,λi y v h1 h2 h3=>?_⟩,λy c h=>⟨_,x.cell y c h⟩,F.hok.fresh (Nat.le_refl _),λy c h=>?_,λp hp=>absurd (show p∈([]:List (Addr×Obj))from hp) (by simp),F.hok.kept hk,?_⟩
 ·exact name_of_addr x.apart (PySem.mem_of_lookup h1) (PySem.mem_of_lookup h2)
 ·have J:scope.names.lookup y=some .cell\/scope.names.lookup y=some .free:=J;rcases J with J | J;{exact aiA J};{exact absurd rfl (S.awu _ (PySem.mem_of_lookup J))}
 ·exact Nat.le_of_lt (x.above y c (PySem.mem_of_lookup h))
 ·have hi:i<vs.length:=by{unfold start at h2;by_cases hi:i<vs.length;{exact hi};{rw[getElem?_append_right (by simpa using hi)]at h2;rw[getElem?_replicate]at h2;split at h2<;>cases h2}};have Y:vs[i]? = some v:=by{unfold start at h2;rw[getElem?_append_left (by simpa using hi),getElem?_map]at h2;cases e:vs[i]? with| none=>rw[e]at h2;cases h2| some a=>rw[e]at h2;cases h2;rfl};obtain⟨u,O,Z⟩:=r.get Y;have hp:ps[i]? = some y:=by{rw[<-S.pre,getElem?_take_of_lt (by lia)];exact h1};have L:ps.Nodup:=by{rw[<-S.pre];exact S.nd.sublist (take_sublist _ _)};refine⟨u,Z,?_⟩;rcases S.par y (mem_of_getElem? hp)with k | k;{exact .inl ⟨k,aes L hp O k⟩};{obtain⟨c,e⟩:=aiA (n:=s.heap.objs.size+1) k;refine .inr ⟨.inl k,c,e,?_⟩;have q:=x.cell y c e;rw[aet L hp O (by show scope.names.lookup y≠_;rw[k];decide)]at q;exact q}
 ·exact F.hok.fresh (Nat.le_of_lt (x.above y c (PySem.mem_of_lookup h)))
 ·unfold start;show _=N.length;rw[length_append,length_map,length_replicate];lia
theorem avw{CX:CXT}{P:Program}{w:World}{K:Frag}{mg:Str->Option Value}{base:Heap}{k:Nat}{f:Addr}{name qual:Str}{F:Arguments}{body:List Stmt}{scope:Scope}{dV kV doc pm z ct oc:Value}{an od:Option Addr}
 {ad:Array (Option Value)} {N ps:List Str} {sp:Sp} (lk:K.lookup f=some ⟨oc,od,.func (fnOf name qual F body scope dV kV doc pm an z ct),ad⟩) (ae:PySem.W.codeIn K z qual=true) (S:bA N ps scope)
 (len:∀vs H Q E,sp vs H Q E->vs.length=ps.length)
 (L:∀(A:Around) (outer:List Env) (s:Shared) (H:Hp) (vs:List V) (Q:VK) (E:XK),bV k (A.deeper (envOfC qual scope s.heap.objs.size f z))->sp vs H Q E->
   ∃t,PSs (dj CX P w K mg base N qual scope f z A outer s H E) body t/\t {nx:=λ_ H'=>Q .non H',rt:=Q} (start N vs) H) :
 cX P w K mg base CX (k+1) f (fnOf name qual F body scope dV kV doc pm an z ct) ps sp:=by
 refine⟨len,λA outer s H args us vs Q E hr Y hb r Z=>?_⟩;have hl:=len _ _ _ _ Z;have KX:K.In s.heap:=Y.mod.kin.keeps λb o e=>(Y.bs b o e).1;have ag:s.heap.NoLimit:=Y.mod.nolimit.keeps λb o e=>(Y.bs b o e).1;have O:∀y∈ps.zip us,scope.names.lookup y.1=some .local\/(scope.names.lookup y.1=some .cell/\((cellsFrom (s.heap.objs.size+1) scope.names []).lookup y.1).isSome=true):=λ⟨n,v⟩ hy=>by{rcases S.par n (of_mem_zip hy).1 with q | q;{exact .inl q};{exact .inr ⟨q,PySem.W.cellsFrom_some _ _ _ (.inl q)⟩}};refine codeAny_call_function hr.depth (KX _ _ lk) rfl S.co S.gen rfl (PySem.W.codeRec_of KX ae) (hb _ _ _ _ ?_);refine wpAny_newFunctionEnv_cells S.kind O λenv he s1 x=>?_;subst he;refine⟨ag.keeps x.toInCall.keep,codeAny_func ?_⟩;obtain⟨t,ht,hq⟩:=L A outer s H vs Q E (hr.deeper _) Z;have I:Inv (dj CX P w K mg base N qual scope f z A outer s H E) [] (start N vs) H s1:=an3 S hr.hd Y hl r x;refine wpAny_mono (ht [] s1 (start N vs) H _ I hq) (λfl s' hs=>?_) λe s' hs=>hs;have aa:∀{ac:St} {H':Hp} {v:V} {u:Value},Inv (dj CX P w K mg base N qual scope f z A outer s H E) [] ac H' s'->RelV v u->Q v H'->CE outer P w H s Q u s':=
  λ{ac H' v u} J rv q=>⟨v,H',J.os,J.bare,J.base,J.hok,rv,q⟩
 cases fl with
 | ret u=>obtain⟨v,ac,H',J,rv,q⟩:=hs;exact aa J rv q
 | next=>obtain⟨ac,H',J,q⟩:=hs;exact aa (v:=V.non) (u:=Value.none) J rfl q
 | brk=>obtain⟨_,_,_,q⟩:=hs;exact False.elim q
 | cont=>obtain⟨_,_,_,q⟩:=hs;exact False.elim q
section
variable{X:Cx}{x:Str}{p pos:Pos}{e:Expr}{es:List Expr}{t:TA}{id T:String}{r:List V->Hp->VK->Prop}
def tCB(r:List V->Hp->VK->Prop)(t:TA):TE:=λσ H Q=>t σ H λvs H1=>r vs H1 Q
theorem cG(J:Vj X (.builtin id) r)(L:Gl X x)(O:X.mg x=none)(W:bootBuiltins x=some (.builtin id))(Y:PA X (e::es) t)(Z:x≠"__name__":=by decide) (z:(x == ("__debug__":Str))=false:=by decide)
 (he:starEach (e::es) X.env=(false,eval e X.env)::starEach es X.env:=by rfl) (F:(backTo pos (starEach es X.env)).any (·.1)=false:=by rfl):PE X (.Call (.Name x p) (e::es) [] pos) (tCB r t):=by
 intro pins s σ H Q I h;refine wpAny_Call_Name_kw (Zj I L O W ?_ Z z);exact PyProof.Rows.callWith_builtin1 (gM (Y pos pins s σ H _ I h) λus s1 hz=>lW hz λvs H1 I1 r1 q1=>J pins s1 σ H1 vs us Q I1 r1 q1) he F
theorem gC(J:Vj X (.type T) r)(L:Gl X x)(O:X.mg x=none)(W:bootBuiltins x=some (.type T))(Y:PA X (e::es) t)(Z:x≠"__name__":=by decide) (z:(x == ("__debug__":Str))=false:=by decide)
 (he:starEach (e::es) X.env=(false,eval e X.env)::starEach es X.env:=by rfl) (F:(backTo pos (starEach es X.env)).any (·.1)=false:=by rfl):PE X (.Call (.Name x p) (e::es) [] pos) (tCB r t):=by
 intro pins s σ H Q I h;refine wpAny_Call_Name_kw (Zj I L O W ?_ Z z);exact PyProof.Rows.callWith_type1 (gM (Y pos pins s σ H _ I h) λus s1 hz=>lW hz λvs H1 I1 r1 q1=>J pins s1 σ H1 vs us Q I1 r1 q1) he F
end
end L2
namespace HT
open PySem PyProof.Rows
section
open PySem.SeqAt
open PySem.AutoSeq1 (wpAny_loadPart')
open PySem.MeetsSeq PySem.MeetsSeq2 PySem.MeetsSeq3
end
section
variable{prog:Program}{w:World}{A:Around}{E:Value->Shared->Prop}{s:Shared}
theorem asz{t b:Addr}{vs ws:List Value}{Q:Value->Shared->Prop}(ht:IsTup s.heap t vs.toArray)(hb:IsTup s.heap b ws.toArray)(Z:vs≠[])
 (h1:ws=[]->Q (.ref t) s) (h2:ws≠[]->Q (.ref s.heap.objs.size) {s with heap:=s.heap.push {cls:=.type "tuple",data:=.seq (vs++ws).toArray}})
 (hsz:vs.length+ws.length<=sizeLine):wpAny (model prog w) A (binaryOp .Add (.ref t) (.ref b)) Q E s:=by
 obtain⟨⟨cls,dd,data,sl⟩,W,hc,n,hd⟩:=id ht;obtain⟨⟨ad,I,data2,J⟩,z,L,n2,O⟩:=id hb;simp only at hc hd L O;subst hc hd L O;have e:vs.toArray++ws.toArray=(vs++ws).toArray:=by{simp};by_cases Y:ws=[]
 ·exact concat_meets ⟨_,W,rfl⟩ ⟨_,z,rfl⟩ noFill_tuple_add seq_tuple_add PySem.F.slot_tuple_add PySem.F.entry_tuple_add (PySem.F.args_tuple_add_2 _ _)
   (tuple_addW1 t b vs.toArray ws.toArray n n2 dd I sl J (by simpa using Z) (by simp[Y])) ⟨W,z,h1 Y⟩
 ·refine concat_meets ⟨_,W,rfl⟩ ⟨_,z,rfl⟩ noFill_tuple_add seq_tuple_add PySem.F.slot_tuple_add PySem.F.entry_tuple_add (PySem.F.args_tuple_add_2 _ _)
   (tuple_addW2 t b vs.toArray ws.toArray n n2 dd I sl J (by simpa using Z) (by simpa using Y) (by rw[List.size_toArray,List.size_toArray];exact hsz)) ⟨W,z,?_⟩
  rw[e];exact h2 Y
def n8(n d:Nat):Option Int->Nat
 | none=>d
 | some v=>if v<0 then(v+(n:Int)).toNat else min v.toNat n
theorem awv(n d:Nat)(hd:d<=n)(o:Option Int):n8 n d o<=n:=by
 cases o with| none=>exact hd| some v=>show(if v<0 then(v+(n:Int)).toNat else min v.toNat n)<=n;by_cases z:v<0;{rw[if_pos z];lia};{rw[if_neg z];exact Nat.min_le_right _ _}
theorem amC(v:Int)(n d:Nat):(if v<0 then max (v+(n:Int)) 0 else min v (n:Int))=((n8 n d (some v):Nat):Int):=by
 show(if v<0 then max (v+(n:Int)) 0 else min v (n:Int))=(((if v<0 then(v+(n:Int)).toNat else min v.toNat n):Nat):Int);by_cases z:v<0;{simp only[if_pos z];lia};{simp only[if_neg z];lia}
theorem alf(lo hi:Option Int)(n:Nat):Builtin.Slice.sliceAdjust lo hi 1 (n:Int)=(((n8 n 0 lo:Nat):Int),((n8 n n hi:Nat):Int)):=by
 have h1:¬((1:Int)<0):=by{lia};unfold Builtin.Slice.sliceAdjust;simp only[h1,if_false];refine Prod.ext ?_ ?_;{cases lo with| none=>rfl| some v=>exact amC v n 0};{cases hi with| none=>rfl| some v=>exact amC v n n}
theorem alg(i j:Nat):Builtin.Slice.slicePlaces (i:Int) (j:Int) 1=j - i:=by
 unfold Builtin.Slice.slicePlaces;have h1:(1:Int) > 0:=by{lia};simp only[h1,if_true,Int.ediv_one];split<;>lia
theorem Zx{v:Value}{o:Option Int}{Q:Option Int->Shared->Prop}(p:IsPart v o)(h:Q o s):wpAny (model prog w) A (Builtin.Slice.slicePartIndex v) Q E s:=by
 cases p with| none=>exact slicePart_none h| int i t=>exact slicePart_int h
theorem S8{J:Addr}{vl I:Value}{lo hi:Option Int}{n:Nat}{Q:Int×Int×Nat->Shared->Prop}(hs:s.heap.IsSliceOf J vl I .none)(pl:IsPart vl lo)(pu:IsPart I hi)
 (h:Q (((n8 n 0 lo:Nat):Int),1,n8 n n hi - n8 n 0 lo) s):wpAny (model prog w) A (Builtin.Slice.sliceApplied (.ref J) (pure (n:Int))) Q E s:=by
 obtain⟨os,z,L,F⟩:=id hs;unfold Builtin.Slice.sliceApplied Builtin.Slice.sliceFields;refine wpAny_bind (wpAny_bind (wpAny_field z F (x:=vl) rfl (wpAny_bind (wpAny_field z F (x:=I) rfl (wpAny_bind (wpAny_field z F (x:=.none) rfl (wpAny_pure ?_)))))));refine wpAny_bind (slicePart_none ?_);show wpAny _ _ (if((1:Int) == 0)=true then _ else _) _ _ s;rw[if_neg (by decide)];refine wpAny_bind (Zx pl (wpAny_bind (Zx pu (wpAny_bind (wpAny_pure ?_)))));show wpAny _ _ (match Builtin.Slice.sliceAdjust lo hi 1 (n:Int)with | (lo,hi)=>pure (lo,(1:Int),Builtin.Slice.slicePlaces lo hi 1)) _ _ s;rw[alf lo hi n];show wpAny _ _ (pure (((n8 n 0 lo:Nat):Int),(1:Int),Builtin.Slice.slicePlaces ((n8 n 0 lo:Nat):Int) ((n8 n n hi:Nat):Int) 1)) _ _ s;rw[alg];exact wpAny_pure h
theorem apD(xs:Array Value)(i k:Nat):((List.range k).filterMap λ(m:Nat)=>xs[((i:Int)+(m:Int)*1).toNat]?).toArray=((xs.toList.drop i).take k).toArray:=by
 have e:(λ(m:Nat)=>xs[((i:Int)+(m:Int)*1).toNat]?)=λm=>xs[i+m]? := by{funext m;have:((i:Int)+(m:Int)*1).toNat=i+m:=by{lia};rw[this]};rw[e];have:=pick_run xs i k;rw[List.filterMap_map]at this;have z:((λx=>xs[x]?) ∘ λx=>i+x)=λm=>xs[i+m]? := rfl;rw[z]at this;rw[this]
theorem O1{t J:Addr}{z:Array Value}{vl Z:Value}{lo hi:Option Int}{Q:Value->Shared->Prop}(I:IsTup s.heap t z)(hs:s.heap.IsSliceOf J vl Z .none)(pl:IsPart vl lo)(pu:IsPart Z hi)
 (hw:¬(n8 z.size 0 lo=0/\n8 z.size z.size hi=z.size))
 (h:Q (.ref s.heap.objs.size) {s with heap:=s.heap.push {cls:=.type "tuple",data:=.seq ((z.toList.drop (n8 z.size 0 lo)).take (n8 z.size z.size hi - n8 z.size 0 lo)).toArray}})
 (hsz:z.size<=sizeLine):wpAny (model prog w) A (getItem (.ref t) (.ref J)) Q E s:=by
 have F:sizeOk (.seq ((z.toList.drop (n8 z.size 0 lo)).take (n8 z.size z.size hi - n8 z.size 0 lo)).toArray):=by{show((z.toList.drop (n8 z.size 0 lo)).take (n8 z.size z.size hi - n8 z.size 0 lo)).toArray.size<=sizeLine;rw[List.size_toArray,List.length_take,List.length_drop,Array.length_toList];lia};have hj:n8 z.size z.size hi<=z.size:=awv _ _ (Nat.le_refl _) hi;obtain⟨os,L,O,ac⟩:=id hs;have W:s.TypeIs (.ref J) "slice":=⟨os,L,O⟩;unfold getItem;try with_reducible refine wpAny_holding ?_
 first | refine wpAny_bind (wpAny_pure ?_) | skip
 refine wpAny_bind (wpAny_sequenceKey I.typeIs (by decide) ?_);refine wpAny_bind (wpAny_callSpecial?_slot (name:=Str.ofString "__getitem__") I.typeIs PyProof.Rows.slot_tuple_getitem
  (wpAny_call_entry PyProof.Rows.slot_tuple_getitem I.typeIs entry_tuple_getitem ?_ (args_tuple_getitem _ _)))
 show wpAny _ _ (Builtin.Tuple.tupleItemsOf (.ref t) >>= _) _ _ s;refine wpAny_bind (tupleItemsOf_ I ?_);refine wpAny_bind (wpAny_typeOf W ?_);rw[if_pos (by decide)];refine wpAny_bind (S8 hs pl pu ?_);have Y:¬((((n8 z.size 0 lo:Nat):Int) == 0 && (1:Int) == 1 && (n8 z.size z.size hi - n8 z.size 0 lo) == z.size)=true):=by{intro q;rw[Bool.and_eq_true,Bool.and_eq_true]at q;have q1:((n8 z.size 0 lo:Nat):Int)=0:=eq_of_beq q.1.1;have q2:n8 z.size z.size hi - n8 z.size 0 lo=z.size:=eq_of_beq q.2;exact hw ⟨by lia,by lia⟩};show wpAny _ _ (if(((n8 z.size 0 lo:Nat):Int) == 0 && (1:Int) == 1 && (n8 z.size z.size hi - n8 z.size 0 lo) == z.size)=true then _ else _) _ _ s;rw[if_neg Y,apD];first
  | exact wpAny_bind (m:=Builtin.Tuple.tupleExact _) (wpAny_newObj_type (wpAny_pure ⟨_,rfl,wpAny_pure h⟩) F)
  | exact wpAny_bind (m:=Builtin.Tuple.tupleExact _) (wpAny_newObj_type (wpAny_bind (wpAny_pure (wpAny_pure ⟨_,rfl,wpAny_pure h⟩))) F)
  | exact wpAny_bind (wpAny_bind (m:=Builtin.Tuple.tupleExact _) (wpAny_newObj_type (wpAny_pure (wpAny_pure ⟨_,rfl,wpAny_pure h⟩)) F))
  | exact wpAny_bind (wpAny_bind (m:=Builtin.Tuple.tupleExact _) (wpAny_newObj_type (wpAny_pure ⟨_,rfl,wpAny_pure h⟩) F))
end
end HT
namespace L2
open List
open PySem.W (Frag emptyDict findIn fnOf hideAll instObj isFn keepIn kia_one kia_tup kitAny kitOne lookIn nsIn)
open PySem.F (plainAttrs_list slot_list_pop type_list_pop)
open Nat (le_succ lt_of_lt_of_le ne_of_lt zero_le)
open PySem PySem.Spec PyProof.Rows
abbrev TO:=St->Hp->(Option Int->Hp->Prop)->Prop
def PO(X:Cx)(e:Option Expr)(t:TO):Prop:=
 ∀(pins:List (Addr×Obj)) (s:Shared) (σ:St) (H:Hp) (Q:Option Int->Hp->Prop),Inv X pins σ H s->t σ H Q->
  wpAny (model X.prog X.w) X.A (evalPart e X.env) (λu s'=>∃o H',Inv X pins σ H' s'/\IsPart u o/\Q o H') X.xe s
def asA:TO:=λ_ H Q=>Q none H
def azZ(t:TE):TO:=λσ H Q=>t σ H λx H1=>∃i,x=.int i/\Q (some i) H1
section
variable{X:Cx}{e:Expr}{te:TE}{lo hi:Option Expr}{tl th:TO}{pos p2:Pos}
theorem Y7:PO X none asA:=by
 intro pins s σ H Q I h;rw[evalPart_none];exact wpAny_pure ⟨none,H,I,.none,h⟩
theorem Y8(h:PE X e te):PO X (some e) (azZ te):=by
 intro pins s σ H Q I z;rw[evalPart_some];refine gM (h pins s σ H _ I z) λu s1 F=>lW F λx H1 J L O=>?_;obtain⟨i,rfl,q⟩:=O;obtain⟨t,rfl⟩:=L;exact⟨some i,H1,J,.int i t,q⟩
def SlR(X:Cx)(r:V->Option Int->Option Int->Hp->VK->Prop):Prop:=
 ∀(pins:List (Addr×Obj)) (s:Shared) (σ:St) (H:Hp) (x:V) (v vl vu:Value) (lo hi:Option Int) (sl:Addr) (Q:VK),Inv X pins σ H s->RelV x v->s.heap.IsSliceOf sl vl vu .none->IsPart vl lo->IsPart vu hi->r x lo hi H Q->
  ∃T id,typeLookup (.type T) "__getitem__"=pure (some (.builtin id))/\s.TypeIs v T/\wpAny (model X.prog X.w) X.A (getItem v (.ref sl)) (EP X pins σ Q) X.xe s
def tSl(r:V->Option Int->Option Int->Hp->VK->Prop)(te:TE)(tl th:TO):TE:=λσ H Q=>te σ H λx H1=>tl σ H1 λl H2=>th σ H2 λu H3=>r x l u H3 Q
theorem O2{r:V->Option Int->Option Int->Hp->VK->Prop}(O:SlR X r)(W:PE X e te)(hl:PO X lo tl)(Y:PO X hi th):PE X (.Subscript e (.Slice lo hi none p2) pos) (tSl r te tl th):=by
 intro pins s σ H Q I h;refine Subscript_ (gM (W pins s σ H _ I h) λv s1 F=>lW F λx H1 Z r1 q1=>?_);refine wpAny_Slice (gM (hl pins s1 σ H1 _ Z q1) λvl s2 F=>lW F λl H2 I2 pl q2=>gM (Y pins s2 σ H2 _ I2 q2) λJ z F=>lW F λu L I3 pu q3=>?_);rw[evalPart_none];refine wpAny_pure ?_;have I4:Inv X pins σ L {z with heap:=z.heap.push {cls:=.type "slice",data:=.fields #[vl,J,.none]}}:=I3.kept (t':=z.toks) λb ob q=>Heap.get?_push_of_some _ q;obtain⟨T,id,hT,ht,hg⟩:=O pins {z with heap:=z.heap.push {cls:=.type "slice",data:=.fields #[vl,J,.none]}} σ L x v vl J l u z.heap.objs.size Q I4 r1 (Heap.IsSliceOf.new ..) pl pu q3;show wpAny (model X.prog X.w) X.A (subscriptTail e (.Slice lo hi none p2) v (.ref z.heap.objs.size)) (EP X pins σ Q) X.xe {z with heap:=z.heap.push {cls:=.type "slice",data:=.fields #[vl,J,.none]}};exact tail_any (ops:=[.ref z.heap.objs.size,v]) ht hT hg (by with_unfolding_all rfl)
def S9(xs:List V)(lo hi:Option Int):List V:=(xs.drop (HT.n8 xs.length 0 lo)).take (HT.n8 xs.length xs.length hi - HT.n8 xs.length 0 lo)
theorem Vn(xs:List V)(lo hi:Option Int):(S9 xs lo hi).length<=xs.length:=by
 unfold S9;rw[length_take,length_drop];lia
def aDj(K:Frag):V->Option Int->Option Int->Hp->VK->Prop:=λx lo hi H Q=>∃a xs,x=.ref a/\cW K H a xs/\
 ¬(HT.n8 xs.length 0 lo=0/\HT.n8 xs.length xs.length hi=xs.length)/\∀p,H p=none->Q (.ref p) (upd H p (.tup (S9 xs lo hi)))
theorem alh:SlR X (aDj X.K):=by
 intro pins s σ H x v vl Z lo hi sl Q I O hs pl pu h;obtain⟨a,xs,rfl,W,Y,q⟩:=h;cases O;obtain⟨F,r,J,L⟩:=I.tuple W;have z:F.toArray.size=xs.length:=by{rw[size_toArray];exact r.length.symm};refine⟨"tuple",_,PyProof.Rows.slot_tuple_getitem.lookup,J.typeIs,?_⟩;refine HT.O1 J hs pl pu (by rw[z];exact Y) ?_ (by rw[z];exact L);rw[z];refine⟨.ref s.heap.objs.size,_,I.laid (t':=s.toks) (o:=.tup (S9 xs lo hi)) (λb ob q=>Heap.get?_push_of_some _ q) (Nat.le_refl _) ?_,rfl,q _ (I.hok.fresh (Nat.le_refl _))⟩;exact⟨Nat.le_trans (Vn xs lo hi) L,_,(r.drop (HT.n8 xs.length 0 lo)).take (HT.n8 xs.length xs.length hi - HT.n8 xs.length 0 lo),IsTup.new _ _⟩
def az0(K:Frag):R2:=λx y H Q=>∃a b xs ys,x=.ref a/\y=.ref b/\cW K H a xs/\cW K H b ys/\xs≠[]/\xs.length+ys.length<=sizeLine/\
 (ys=[]->Q (.ref a) H)/\(ys≠[]->∀p,H p=none->Q (.ref p) (upd H p (.tup (xs++ys))))
theorem Vals.afn{xs:List V}{us:List Value}(r:Vals xs us):us=[]↔xs=[]:=by
 cases r with| nil=>simp| cons _ _=>simp
theorem amE:Wx X (binaryOp .Add) (az0 X.K):=by
 intro pins s σ H x y v u Q I W Y h;obtain⟨a,b,xs,ys,rfl,rfl,Z,hb,hx,L,q1,q2⟩:=h;cases W;cases Y;obtain⟨af,J,p1,_⟩:=I.tuple Z;obtain⟨O,F,p2,_⟩:=I.tuple hb;refine HT.asz p1 p2 (λz=>hx (J.afn.mp z)) (λz=>⟨.ref a,H,I,rfl,q1 (F.afn.mp z)⟩) (λz=>?_) (by rw[<-J.length,<-F.length];exact L);refine⟨.ref s.heap.objs.size,_,I.laid (t':=s.toks) (o:=.tup (xs++ys)) (λb ob q=>Heap.get?_push_of_some _ q) (Nat.le_refl _) ?_,rfl,q2 (λw=>z (F.afn.mpr w)) _ (I.hok.fresh (Nat.le_refl _))⟩;exact⟨by rw[length_append];exact L,_,J.append F,IsTup.new _ _⟩
end
def ixN(n:Nat)(i:Int):Option Nat:=if 0<=i then(if i<n then some i.toNat else none)else if -(n:Int)<=i then some (i+n).toNat else none
def S6{α:Type}(xs:List α)(i:Int):Option α:=(ixN xs.length i).bind λj=>xs[j]?
theorem amF{n:Nat}{i:Int}{j:Nat}(h:ixN n i=some j):seqIndex? i n=some j/\j<n/\-(n:Int)<=i/\i<n:=by
 unfold ixN at h;by_cases z:0<=i;{rw[if_pos z]at h;by_cases h1:i<n;{rw[if_pos h1]at h;have e:i.toNat=j:=Option.some.inj h;exact⟨by rw[seqIndex_of z h1,e],by lia,by lia,h1⟩};{rw[if_neg h1]at h;cases h}};{rw[if_neg z]at h;by_cases h1 : -(n:Int)<=i;{rw[if_pos h1]at h;have e:(i+n).toNat=j:=Option.some.inj h;exact⟨by rw[seqIndex_neg (by lia) h1,e],by lia,h1,by lia⟩};{rw[if_neg h1]at h;cases h}}
theorem amG{α:Type}{xs:List α}{i:Int}{v:α}(h:S6 xs i=some v):∃j,seqIndex? i xs.length=some j/\xs[j]? = some v/\j<xs.length/\-(xs.length:Int)<=i/\i<xs.length:=by
 unfold S6 at h;cases e:ixN xs.length i with| none=>rw[e]at h;cases h| some j=>rw[e]at h;obtain⟨h1,h2,z,F⟩:=amF e;exact⟨j,h1,h,h2,z,F⟩
theorem iH{α:Type}{xs:List α}{j:Nat}{v:α}(h:xs[j]? = some v):S6 xs (j:Int)=some v:=by
 have z:j<xs.length:=(List.getElem?_eq_some_iff.mp h).1;have e:ixN xs.length (j:Int)=some j:=by{unfold ixN;rw[if_pos (by lia),if_pos (by lia)];simp};unfold S6;rw[e];exact h
def asC(b:Expr):Prop:=∀o i,subscripted b false o i=operate [o,i] (getItem o i)
def IxR(X:Cx)(r:R2):Prop:=
 ∀(value slice:Expr) (pins:List (Addr×Obj)) (s:Shared) (σ:St) (H:Hp) (x y:V) (v u:Value) (Q:VK),Inv X pins σ H s->RelV x v->RelV y u->r x y H Q->
  subscripted slice false v u=operate [v,u] (getItem v u)->wpAny (model X.prog X.w) X.A (subscriptTail value slice v u) (EP X pins σ Q) X.xe s
def MtR(X:Cx)(id:String)(r:V->List V->Hp->VK->Prop):Prop:=
 ∀(pins:List (Addr×Obj)) (s:Shared) (σ:St) (H:Hp) (x:V) (xs:List V) (v:Value) (us:List Value) (Q:VK),Inv X pins σ H s->RelV x v->Vals xs us->r x xs H Q->
  wpAny (model X.prog X.w) X.A (call (.builtin id) (v::us)) (EP X pins σ Q) X.xe s
section
variable{X:Cx}{a b:Expr}{ta tb:TE}{pos:Pos}
theorem aN{r:R2}(z:IxR X r)(F:PE X a ta)(J:PE X b tb)(hs:asC b):PE X (.Subscript a b pos) (Zn r ta tb):=by
 intro pins s σ H Q I h;exact Subscript_ (awp F J I h λv u L x y H2 O W Y q=>z a b pins L σ H2 x y v u Q O W Y q (hs _ _))
def an4(K:Frag):R2:=λx y H Q=>∃p xs i v,x=.ref p/\y=.int i/\bU K H p xs/\S6 xs i=some v/\Q v H
def ali(K:Frag):R2:=λx y H Q=>∃p xs i v,x=.ref p/\y=.int i/\cW K H p xs/\S6 xs i=some v/\Q v H
theorem bz:IxR X (an4 X.K):=by
 intro value slice pins s σ H x y v u Q I Y Z h hs;obtain⟨p,xs,i,z,rfl,rfl,hq,he,q⟩:=h;cases Y;obtain⟨t,rfl⟩:=Z;obtain⟨J,r,pl,hz⟩:=I.list hq;obtain⟨j,h1,h2,h3,h4,h5⟩:=amG he;obtain⟨w,O,Y9⟩:=r.get h2;have hl:=r.length;have hn:=Zq;have F:EP X pins σ Q w s:=⟨z,H,I,Y9,q⟩;by_cases W:0<=i;{have L:i.toNat=j:=by{rw[seqIndex_of W h5]at h1;exact Option.some.inj h1};exact item_listR pl.isList W (by lia) (by rw[L];simpa using O) F hs}
 ·have L:(i+(J.toArray.size:Int)).toNat=j:=by{rw[seqIndex_neg (by lia) h4]at h1;rw[size_toArray,<-hl];exact Option.some.inj h1};exact subscriptTail_builtinR (x:=w) pl.isList.typeIs slot_list_getitem.lookup
   (wpAny_getItem_list_neg (Q:=λr s'=>r=w/\EP X pins σ Q r s') pl.isList (by lia) (by rw[size_toArray]<;>lia) (by lia) (by rw[L];simpa using O) ⟨rfl,F⟩) hs
theorem bC:IxR X (ali X.K):=by
 intro value slice pins s σ H x y v u Q I J L h hs;obtain⟨p,xs,i,z,rfl,rfl,O,W,q⟩:=h;cases J;obtain⟨t,rfl⟩:=L;obtain⟨Y,r,pl,hz⟩:=I.tuple O;obtain⟨j,h1,h2,h3,h4,h5⟩:=amG W;obtain⟨w,Z,Y9⟩:=r.get h2;have hl:=r.length;have hn:=Zq;have F:EP X pins σ Q w s:=⟨z,H,I,Y9,q⟩;exact subscriptTail_builtinR (x:=w) pl.typeIs slot_tuple_getitem.lookup
  (getItem_tuple (j:=j) (Q:=λr s'=>r=w/\EP X pins σ Q r s') pl (by lia) (by lia) (by rw[size_toArray,<-hl];exact h1) (by simpa using Z) ⟨rfl,F⟩) hs
theorem alj(its:List Value)(n j:Nat)(u:Value):Obj.mapSeq (·.setIfInBounds j u) {cls:=.type "list",data:=.seq its.toArray n}={cls:=.type "list",data:=.seq (its.set j u).toArray n}:=by
 simp[Obj.mapSeq]
theorem Inv.lst{pins:List (Addr×Obj)}{σ:St}{H:Hp}{s:Shared}{p:Addr}{xs:List V}(I:Inv X pins σ H s)(h:H p=some (.lst xs)) :
 ∃(its:List Value) (n:Nat),Vals xs its/\s.heap.get? p=some {cls:=.type "list",data:=.seq its.toArray n}/\xs.length<=sizeLine:=by
 obtain⟨z,its,n,r,e⟩:=I.hok p _ h;exact⟨its,n,r,e,z⟩
theorem Inv.aww{pins:List (Addr×Obj)}{σ:St}{H:Hp}{s:Shared}{p:Addr}{xs ys:List V}{its its':List Value}{n z:Nat}{f:Obj->Obj}(I:Inv X pins σ H s)(h:H p=some (.lst xs))
 (J:s.heap.get? p=some {cls:=.type "list",data:=.seq its.toArray n}) (F:f {cls:=.type "list",data:=.seq its.toArray n}={cls:=.type "list",data:=.seq its'.toArray z}) (r:Vals ys its') (hz:ys.length<=sizeLine) (t:Nat) :
 Inv X pins σ (upd H p (.lst ys)) {s with heap:=s.heap.update p f,toks:=t}:=by
 have e:(s.heap.update p f).get? p=some {cls:=.type "list",data:=.seq its'.toArray z}:=by{rw[Heap.get?_update_self f J (by rw[F]<;>rfl),F]};refine I.write (x:=p) (e:=p) (by rw[h];trivial) (.inl rfl) (λb u L q=>(Heap.get?_update_other _ _ (Ne.symm L)).trans q) ⟨_,e⟩ ?_;exact⟨hz,its',z,r,e⟩
def avx:V->V->V->Hp->(Hp->Prop)->Prop:=λo i v H Q=>∃p xs k j,o=.ref p/\i=.int k/\H p=some (.lst xs)/\ixN xs.length k=some j/\Q (upd H p (.lst (xs.set j v)))
theorem set_list:azO X avx:=by
 intro pins s σ H o i v ov iv u Q I Z ri rv h;obtain⟨p,xs,k,j,rfl,rfl,hp,hj,q⟩:=h;cases Z;obtain⟨t,rfl⟩:=ri;obtain⟨z,n,r,F,hz⟩:=I.lst hp;obtain⟨h1,h2,J,L⟩:=amF hj;have hl:=r.length;have hn:=Zq;have O:Inv X pins σ (upd H p (.lst (xs.set j v))) {s with heap:=s.heap.update p (Obj.mapSeq (·.setIfInBounds j u))}:=
  I.aww hp F (alj z n j u) (r.set rv j) (by rw[length_set];exact hz) s.toks
 by_cases Y:0<=k;{have hk:k.toNat=j:=by{rw[seqIndex_of Y L]at h1;exact Option.some.inj h1};exact PySem.W.ki_setAt F Y (by lia) (by rw[size_toArray,<-hl];exact L) (by rw[hk];exact⟨_,O,q⟩)};{have hk:(k+(z.toArray.size:Int)).toNat=j:=by{rw[seqIndex_neg (by lia) J]at h1;rw[size_toArray,<-hl];exact Option.some.inj h1};exact PySem.W.ki_setBack F (by lia) (by rw[size_toArray,<-hl];exact J) (by lia) (by rw[hk];exact⟨_,O,q⟩)}
theorem afo(lo hi:Option Int)(n:Nat):(sliceBounds lo hi none n).1=((HT.n8 n 0 lo:Nat):Int)/\(sliceBounds lo hi none n).2.1=((HT.n8 n n hi:Nat):Int)/\(sliceBounds lo hi none n).2.2=1:=by
 refine⟨?_,?_,rfl⟩;{cases lo with| none=>simp[sliceBounds,HT.n8]| some i=>simp only[sliceBounds,HT.n8,Option.getD_none,show(1:Int) > 0 by decide,if_true];by_cases h:i<0;{simp only[h,if_true]<;>lia};{simp only[h,if_false]<;>lia}};{cases hi with| none=>simp[sliceBounds,HT.n8]| some i=>simp only[sliceBounds,HT.n8,Option.getD_none,show(1:Int) > 0 by decide,if_true];by_cases h:i<0;{simp only[h,if_true]<;>lia};{simp only[h,if_false]<;>lia}}
theorem acE(its:List Value)(lo hi:Option Int):slicePick its.toArray lo hi none=((its.drop (HT.n8 its.length 0 lo)).take (HT.n8 its.length its.length hi - HT.n8 its.length 0 lo)).toArray:=by
 obtain⟨h1,h2,z⟩:=afo lo hi its.toArray.size;unfold slicePick;rw[h1,h2,z];simp only[sliceRange_one,pick_run,size_toArray]<;>rfl
def aDk(K:Frag):V->Option Int->Option Int->Hp->VK->Prop:=λx lo hi H Q=>∃a xs,x=.ref a/\bU K H a xs/\∀p,H p=none->Q (.ref p) (upd H p (.lst (S9 xs lo hi)))
theorem asD:SlR X (aDk X.K):=by
 intro pins s σ H x v vl Y lo hi Z Q I J hs pl pu h;obtain⟨a,xs,rfl,L,q⟩:=h;cases J;obtain⟨O,r,F,W⟩:=I.list L;have z:=r.length;refine⟨"list",_,slot_list_getitem.lookup,F.isList.typeIs,?_⟩;refine wpAny_getItem_list_slice F.isList hs pl pu .none (by simp) ?_ (by rw[size_toArray]<;>lia);rw[acE,<-z];refine⟨.ref s.heap.objs.size,_,I.laid (t':=s.toks) (o:=.lst (S9 xs lo hi)) (λb ob q=>Heap.get?_push_of_some _ q) (Nat.le_refl _) ?_,rfl,q _ (I.hok.fresh (Nat.le_refl _))⟩;exact⟨Nat.le_trans (Vn xs lo hi) W,_,0,(r.drop (HT.n8 xs.length 0 lo)).take (HT.n8 xs.length xs.length hi - HT.n8 xs.length 0 lo),Heap.get?_push_size _ rfl⟩
def Ka:V->Bool
 | .non=>true
 | .bl _=>true
 | .int _=>true
 | .str _=>true
 | _=>false
def eqV:V->V->Bool
 | .non,.non=>true
 | .bl a,.bl b=>a == b
 | .bl a,.int b=>(if a then 1 else 0) == b
 | .int a,.bl b=>a == (if b then 1 else 0)
 | .int a,.int b=>a == b
 | .str a,.str b=>a == b
 | _,_=>false
theorem awx{A:Around}{s:Shared}{y x:V}{u v:Value}(I:RelV y u)(z:RelV x v)(L:Ka y=true)(J:Ka x=true):SeqAt.EqAt A s u v (eqV y x):=by
 cases y with
 | non=>
   cases I;cases x with
   | non=>cases z;exact SeqAt.EqAt.same _
   | bl b=>cases z;exact SeqAt.EqAt.none_bool b
   | int b=>obtain⟨t,rfl⟩:=z;exact SeqAt.EqAt.none_int b t
   | str b=>obtain⟨t,rfl⟩:=z;exact SeqAt.EqAt.none_str b t
   | _=>exact absurd (show false=true from J) Bool.false_ne_true
 | bl a=>
   cases I;cases x with
   | non=>cases z;exact SeqAt.EqAt.bool_none a
   | bl b=>cases z;exact SeqAt.EqAt.bool_bool a b
   | int b=>obtain⟨t,rfl⟩:=z;exact SeqAt.EqAt.bool_int a b t
   | str b=>obtain⟨t,rfl⟩:=z;exact SeqAt.EqAt.bool_str a b t
   | _=>exact absurd (show false=true from J) Bool.false_ne_true
 | int a=>
   obtain⟨F,rfl⟩:=I;cases x with
   | non=>cases z;exact SeqAt.EqAt.int_none a F
   | bl b=>cases z;exact SeqAt.EqAt.int_bool a F b
   | int b=>obtain⟨t,rfl⟩:=z;exact SeqAt.EqAt.int_int a F b t
   | str b=>obtain⟨t,rfl⟩:=z;exact SeqAt.EqAt.int_str a F b t
   | _=>exact absurd (show false=true from J) Bool.false_ne_true
 | str a=>
   obtain⟨F,rfl⟩:=I;cases x with
   | non=>cases z;exact SeqAt.EqAt.str_none a F
   | bl b=>cases z;exact SeqAt.EqAt.str_bool a F b
   | int b=>obtain⟨t,rfl⟩:=z;exact SeqAt.EqAt.str_int a F b t
   | str b=>obtain⟨t,rfl⟩:=z;exact SeqAt.EqAt.str_str a F b t
   | _=>exact absurd (show false=true from J) Bool.false_ne_true
 | _=>exact absurd (show false=true from L) Bool.false_ne_true
def eqU(x:V)(u:Value):Bool:=match u with
 | .none=>eqV .non x
 | .bool b=>eqV (.bl b) x
 | .int i _=>eqV (.int i) x
 | .str z _=>eqV (.str z) x
 | _=>false
theorem apE{x y:V}{u:Value}(r:RelV y u)(f:Ka y=true):eqU x u=eqV y x:=by
 cases y with
 | non=>cases r;rfl
 | bl b=>cases r;rfl
 | int i=>obtain⟨t,rfl⟩:=r;rfl
 | str z=>obtain⟨t,rfl⟩:=r;rfl
 | _=>exact absurd (show false=true from f) Bool.false_ne_true
theorem O3{x:V}:∀{xs:List V} {us:List Value},Vals xs us->xs.all Ka=true->us.any (eqU x)=xs.any λy=>eqV y x
 | _,_,.nil,_=>rfl
 | y::xs,u::us,.cons r t,f=>by rw[all_cons,Bool.and_eq_true]at f;rw[any_cons,any_cons,apE r f.1,O3 t f.2]
theorem GJ{A:Around}{s:Shared}{x:V}{v:Value}(F:RelV x v)(I:Ka x=true):∀{xs:List V} {us:List Value},Vals xs us->xs.all Ka=true->∀u∈us,SeqAt.EqAt A s u v (eqU x u)
 | _,_,.nil,_=>λu z=>by cases z
 | y::xs,u::us,.cons r t,f=>λJ z=>by rw[all_cons,Bool.and_eq_true]at f;rcases mem_cons.mp z with rfl | z;{rw[apE r f.1];exact awx r F f.1 I};{exact GJ F I t f.2 J z}
def inV(x:V)(xs:List V):Bool:=xs.any λy=>eqV y x
def rIn(K:Frag)(neg:Bool):R2:=λx y H Q=>∃p xs,y=.ref p/\(bU K H p xs\/cW K H p xs)/\Ka x=true/\xs.all Ka=true/\Q (.bl (if neg then !inV x xs else inV x xs)) H
theorem aeu:Wx X (compareOp .In) (rIn X.K false):=by
 intro pins s σ H x y v u Q I L W h;obtain⟨p,xs,rfl,F,O,fs,q⟩:=h;cases W;rcases F with F | F;{obtain⟨z,r,pl,Y⟩:=I.list F;refine SeqAt.in_listAt (eqU x) pl.isList (λw J=>GJ L O r fs w (by simpa using J)) ⟨.bl _,H,I,rfl,?_⟩;rw[show z.toArray.any (eqU x)=z.any (eqU x)by simp,O3 r fs];exact q};{obtain⟨z,r,pl,Y⟩:=I.tuple F;refine SeqAt.in_tupleAt (eqU x) pl (λw J=>GJ L O r fs w (by simpa using J)) ⟨.bl _,H,I,rfl,?_⟩;rw[show z.toArray.any (eqU x)=z.any (eqU x)by simp,O3 r fs];exact q}
theorem O4:Wx X (compareOp .NotIn) (rIn X.K true):=by
 intro pins s σ H x y v u Q I L W h;obtain⟨p,xs,rfl,F,O,fs,q⟩:=h;cases W;rcases F with F | F;{obtain⟨z,r,pl,Y⟩:=I.list F;refine SeqAt.notIn_listAt (eqU x) pl.isList (λw J=>GJ L O r fs w (by simpa using J)) ⟨.bl _,H,I,rfl,?_⟩;rw[show z.toArray.any (eqU x)=z.any (eqU x)by simp,O3 r fs];exact q};{obtain⟨z,r,pl,Y⟩:=I.tuple F;refine SeqAt.notIn_tupleAt (eqU x) pl (λw J=>GJ L O r fs w (by simpa using J)) ⟨.bl _,H,I,rfl,?_⟩;rw[show z.toArray.any (eqU x)=z.any (eqU x)by simp,O3 r fs];exact q}
theorem cJ:Vj X (.builtin "len") (λxs H Q=>∃p ys,xs=[.ref p]/\(bU X.K H p ys\/cW X.K H p ys)/\Q (.int ys.length) H):=by
 intro pins s σ H xs us Q I r h;obtain⟨p,ys,rfl,F,q⟩:=h;obtain⟨u,rfl,O⟩:=vals1 r;cases O;have Y:=Zq;rcases F with F | F;{obtain⟨J,L,pl,W⟩:=I.list F;have z:=L.length;exact Calls.call_len_list pl.isList (by simp only[size_toArray]<;>lia) ⟨.int ys.length,H,I.tok _,⟨s.toks+1,by rw[size_toArray,z]⟩,q⟩};{obtain⟨J,L,pl,W⟩:=I.tuple F;have z:=L.length;exact len_tuple pl (by simp only[size_toArray]<;>lia) ⟨.int ys.length,H,I.tok _,⟨s.toks+1,by rw[size_toArray,z]⟩,q⟩}
theorem lO:Vj X (.type "list") (λxs H Q=>∃p ys,xs=[.ref p]/\(bU X.K H p ys\/cW X.K H p ys)/\∀l,H l=none->Q (.ref l) (upd H l (.lst ys))):=by
 intro pins s σ H xs us Q I r h;obtain⟨p,ys,rfl,L,q⟩:=h;obtain⟨u,rfl,rx⟩:=vals1 r;cases rx;have O:∀(z:List Value),Vals ys z->ys.length<=sizeLine->∀(h':Heap) (F:Nat),(∀b o',s.heap.get? b=some o'->h'.get? b=some o')->
  h'.get? s.heap.objs.size=some {cls:=.type "list",dict:=none,data:=.seq z.toArray F,slots := #[]}->EP X pins σ Q (.ref s.heap.objs.size) {s with heap:=h'}:=λz J W h' F kp e=>
  ⟨.ref s.heap.objs.size,_,I.laid (t':=s.toks) kp (Nat.le_refl _) (show gh X.prog X.w _ h' _ (.lst ys)from⟨W,z,F,J,e⟩),rfl,q _ (I.hok.fresh (Nat.le_refl _))⟩
 rcases L with L | L;{obtain⟨z,J,pl,W⟩:=I.list L;have Y:=J.length;obtain⟨o,Z,hc,n,hd⟩:=pl.isList;exact call_list_seq p (.inl rfl) Z hc hd (λh' F kp e=>O z J W h' F kp e) (by simp only[size_toArray]<;>lia)};{obtain⟨z,J,pl,W⟩:=I.tuple L;have Y:=J.length;obtain⟨o,Z,hc,n,hd⟩:=pl;exact call_list_seq p (.inr rfl) Z hc hd (λh' F kp e=>O z J W h' F kp e) (by simp only[size_toArray]<;>lia)}
def tyV(K:Frag)(T:String)(x:V)(H:Hp):Prop:=match x with
 | .str _=>T="str"
 | .int _=>T="int"
 | .ref p=>(T="list"/\∃xs,bU K H p xs)\/(T="tuple"/\∃o,K.lookup p=some o/\o.cls=.type "tuple"/\o.dict=none)\/
    (T="dict"/\((∃kvs,H p=some (.dK kvs))\/∃kvs,H p=some (.dT kvs)))\/(T="set"/\∃S n,H p=some (.set S n))
 | _=>False
theorem apF{pins:List (Addr×Obj)}{σ:St}{H:Hp}{s:Shared}{T:String}{x:V}{v:Value}(I:Inv X pins σ H s)(r:RelV x v)(ty:tyV X.K T x H) :
 s.TypeIs v T/\∀a,v=.ref a->∃ob,s.heap.get? a=some ob/\ob.dict=none:=by
 cases x with
 | str z=>obtain⟨t,rfl⟩:=r;cases (show T="str" from ty);exact⟨typeIs_str s z t,λ_ e=>nomatch e⟩
 | int i=>obtain⟨t,rfl⟩:=r;cases (show T="int" from ty);exact⟨typeIs_int s i t,λ_ e=>nomatch e⟩
 | ref p=>cases r;rcases ty with ⟨rfl,xs,J⟩ | ⟨rfl,o,hk,L,hd⟩ | ⟨rfl,hk⟩ | ⟨rfl,S,n,hk⟩;{obtain⟨its,_,pl,_⟩:=I.list J;refine⟨pl.isList.typeIs,λa e=>?_⟩;cases e;obtain⟨o,n,e,c,hd,_⟩:=pl;exact⟨o,e,hd⟩};{refine⟨⟨o,I.zr p o hk,L⟩,λa e=>?_⟩;cases e;exact⟨o,I.zr _ o hk,hd⟩};{have z:∃o,s.heap.get? p=some o/\o.ExactDict:=by{rcases hk with ⟨kvs,hk⟩ | ⟨kvs,hk⟩;{obtain⟨_,_,_,_,o,_,_,e,ex,_⟩:=I.hok p _ hk;exact⟨o,e,ex⟩};{obtain⟨_,_,_,_,o,_,_,e,ex,_⟩:=I.hok p _ hk;exact⟨o,e,ex⟩}};obtain⟨o,e,ex⟩:=z;refine⟨⟨o,e,ex.1⟩,λa F=>?_⟩;cases F;exact⟨o,e,ex.2.1⟩};{obtain⟨o,_,_,_,e,ex,_⟩:=I.hok p _ hk;refine⟨⟨o,e,ex.1⟩,λa F=>?_⟩;cases F;exact⟨o,e,ex.2.1⟩}
 | _=>exact False.elim ty
def aDm(K:Frag)(T:String)(r:V->List V->Hp->VK->Prop)(to:TE):TE:=λσ H Q=>to σ H λx H1=>tyV K T x H1/\r x [] H1 Q
def tBM(K:Frag)(T:String)(r:V->List V->Hp->VK->Prop)(to:TE)(t:TA):TE:=λσ H Q=>to σ H λx H1=>tyV K T x H1/\t σ H1 λxs H2=>r x xs H2 Q
variable{o e:Expr}{es:List Expr}{to:TE}{t:TA}{name:Str}{apos cpos:Pos}{T id:String}{r:V->List V->Hp->VK->Prop}
theorem apG(W:PlainAttrs T)(slot:Slot T name id)(J:typeOf (.builtin id)=pure (.type "method_descriptor")) (Y:MtR X id r) (Z:PE X o to)
 (z:attributeBase o name X.env (eval o X.env)=eval o X.env:=by rfl) (F:(apos.endLine == cpos.line)=true:=by rfl):PE X (.Call (.Attribute o name apos) [] [] cpos) (aDm X.K T r to):=by
 intro pins s σ H Q I h;refine wpAny_Call_method0_late z F (gM (Z pins s σ H _ I h) λv s1 hz=>lW hz λx H1 L O ⟨ty,q1⟩=>?_);obtain⟨h1,h2⟩:=apF L O ty;exact⟨T,id,W,slot,J,h1,h2,Calls.callWith_builtin rfl (PySem.evalArgs_none (Y pins s1 σ H1 x [] v [] Q L O .nil q1))⟩
theorem dZ(pa:PlainAttrs T)(slot:Slot T name id)(O:typeOf (.builtin id)=pure (.type "method_descriptor")) (hm:MtR X id r) (ho:PE X o to) (ha:PA X (e::es) t)
 (F:attributeBase o name X.env (eval o X.env)=eval o X.env:=by rfl)
 (L:((backTo cpos (starEach (e::es) X.env)).all (λx => !x.1) && (backToKw cpos (keywordEach [] X.env)).all (λx=>x.1.isSome)
   && decide ((e::es).length+([]:List Keyword).length+(if([]:List Keyword).isEmpty then 0 else 1)<30))=true:=by rfl)
 (J:(apos.endLine == cpos.line)=true:=by rfl) (hs:starEach (e::es) X.env=(false,eval e X.env)::starEach es X.env:=by rfl) (z:(backTo cpos (starEach es X.env)).any (·.1)=false:=by rfl) :
 PE X (.Call (.Attribute o name apos) (e::es) [] cpos) (tBM X.K T r to t):=by
 intro pins s σ H Q I h;refine wpAny_Call_method_late F L J rfl (gM (ho pins s σ H _ I h) λv s1 hz=>lW hz λx H1 W Y ⟨ty,q1⟩=>?_);obtain⟨h1,h2⟩:=apF W Y ty;refine⟨T,id,pa,slot,O,h1,h2,?_⟩;have Z:=ha cpos pins s1 σ H1 _ W q1;rw[hs]at Z ⊢;refine Calls.callWith_builtin (by show(false || (backTo cpos (starEach es X.env)).any (·.1))=false;rw[z]<;>rfl) (Calls.evalArgs_plain ?_);exact gM Z λus s2 hz=>lW hz λvs H2 I2 r2 q2=>hm pins s2 σ H2 x vs v us Q I2 Y r2 q2
end
def MtM(X:Cx)(id:String)(r:V->List V->Hp->VK->Prop):Prop:=
 ∀(pins:List (Addr×Obj)) (s:Shared) (σ:St) (H:Hp) (x:V) (xs:List V) (v:Value) (us:List Value) (Q:VK),Inv X pins σ H s->RelV x v->Vals xs us->r x xs H Q->
  wpAny (model X.prog X.w) X.A (call (.builtin id) (v::us)) (EP X pins σ Q) X.xe s
theorem Vals.one:∀{x:V} {us:List Value},Vals [x] us->∃u,us=[u]/\RelV x u:=by
 intro x us h;cases h with| cons r t=>cases t;exact⟨_,rfl,r⟩
theorem Vals.two:∀{x y:V} {us:List Value},Vals [x,y] us->∃u v,us=[u,v]/\RelV x u/\RelV y v:=by
 intro x y us h;cases h with| cons r t=>cases t with| cons q t=>cases t;exact⟨_,_,rfl,r,q⟩
theorem Vals.zero:∀{us:List Value},Vals [] us->us=[]
 | _,.nil=>rfl
theorem Vals.dropLast{xs:List V}{us:List Value}(h:Vals xs us):Vals xs.dropLast us.dropLast:=by
 induction h with| nil=>exact .nil| cons r t z=>cases t with| nil=>exact .nil| cons q F=>exact .cons r z
theorem Vals.eraseIdx:∀{xs:List V} {us:List Value} (i:Nat),Vals xs us->Vals (xs.eraseIdx i) (us.eraseIdx i)
 | _,_,_,.nil=>.nil
 | _,_,0,.cons _ t=>t
 | _,_,i+1,.cons r t=>.cons r (Vals.eraseIdx i t)
theorem Vals.rep{xs:List V}{us:List Value}(h:Vals xs us):∀k:Nat,Vals (replicate k xs).flatten (replicate k us).flatten
 | 0=>.nil
 | k+1=>by rw[replicate_succ,replicate_succ,flatten_cons,flatten_cons];exact Vals.append h (Vals.rep h k)
theorem alm{α:Type}(l:List α):l.eraseIdx (l.length - 1)=l.dropLast:=by
 induction l with| nil=>rfl| cons a r z=>cases r with| nil=>rfl| cons b r=>have e:(a::b::r).length - 1=((b::r).length - 1)+1:=by{have h1:(a::b::r).length=r.length+2:=rfl;have h2:(b::r).length=r.length+1:=rfl;lia};rw[e,eraseIdx_cons_succ,z];all_goals rfl
theorem aev{α:Type}:∀(l:List α) (i:Nat),(l.eraseIdx i).length<=l.length
 | [],_=>Nat.le_refl _
 | _::_,0=>le_succ _
 | _::r,i+1=>Nat.succ_le_succ (aev r i)
theorem foldl_rep(its:List Value):∀(k:Nat) (acc:List Value),
 foldl (λz F=>z++F) acc.toArray (replicate k its.toArray)=(acc++(replicate k its).flatten).toArray
 | 0,acc=>by simp
 | k+1,acc=>by
   have e:acc.toArray++its.toArray=(acc++its).toArray:=by simp
   have I:(acc++its)++(replicate k its).flatten=acc++(replicate (k+1) its).flatten:=by
    rw[replicate_succ,flatten_cons,append_assoc]
   rw[<-I,<-foldl_rep its k (acc++its),<-e,replicate_succ,foldl_cons]
section
variable{X:Cx}{pins:List (Addr×Obj)}{σ:St}{H:Hp}{s:Shared}{l b:Addr}{xs ys zs:List V}
theorem Inv.apH{its its':List Value}{n:Nat}{f:Array Value->Array Value}{t':Nat}(I:Inv X pins σ H s)(z:H l=some (.lst xs))
 (e:s.heap.get? l=some {cls:=.type "list",data:=.seq its.toArray n}) (F:f its.toArray=its'.toArray) (J:Vals ys its') (hz:ys.length<=sizeLine) :
 Inv X pins σ (upd H l (.lst ys)) {s with heap:=s.heap.update l (Obj.mapSeq f),toks:=t'}:=by
 have q:=PySem.IsL.update e f;rw[F]at q;refine I.write (x:=l) (e:=l) (by rw[z];exact trivial) (.inl rfl) (λW u L O=>(Heap.get?_update_other s.heap (Obj.mapSeq f) (Ne.symm L)).trans O) ⟨_,q⟩ ?_;exact⟨hz,its',_,J,q⟩
theorem Inv.awy{its:List Value}{t':Nat}(I:Inv X pins σ H s)(z:Vals ys its)(hz:ys.length<=sizeLine) :
 Inv X pins σ (upd H s.heap.objs.size (.lst ys)) {s with heap:=s.heap.push {cls:=.type "list",data:=.seq its.toArray},toks:=t'}:=
 I.laid (λ_ _ q=>Heap.get?_push_of_some _ q) (Nat.le_refl _) ⟨hz,its,0,z,Heap.get?_push_size _ rfl⟩
theorem Inv.fresh(I:Inv X pins σ H s):H s.heap.objs.size=none:=I.hok.fresh (Nat.le_refl _)
theorem Inv.aln(I:Inv X pins σ H s)(F:H l=some (.lst xs)):xs.length<=sizeLine/\∃(its:List Value) (n:Nat),Vals xs its/\xs.length=its.length/\s.heap.get? l=some {cls:=.type "list",data:=.seq its.toArray n}:=by
 obtain⟨z,its,n,r,e⟩:=I.hok l _ F;exact⟨z,its,n,r,r.length,e⟩
theorem aiB{n:Nat}(h:n<=sizeLine):Builtin.List.listTooLong n=false:=by
 unfold Builtin.List.listTooLong;exact decide_eq_false (by lia)
end
section
variable{X:Cx}
def Be:V->List V->Hp->VK->Prop:=λx vs H Q=>∃l xs y,x=.ref l/\vs=[y]/\H l=some (.lst xs)/\xs.length<sizeLine/\Q .non (upd H l (.lst (xs++[y])))
theorem cu:MtM X "list.append" Be:=by
 intro pins s σ H x vs v us Q I O W h;obtain⟨l,xs,y,rfl,rfl,L,Z,q⟩:=h;cases O;obtain⟨u,rfl,Y⟩:=W.one;obtain⟨z,J,n,r,hl,e⟩:=I.aln L;refine call_meets F.slot_list_append ⟨_,e,rfl⟩ F.entry_list_append (F.args_list_append_2 _ _) (PySem.list_append l J.toArray n u (by rw[size_toArray];lia)) ⟨e,?_⟩;refine⟨.non,_,I.apH (its':=J++[u]) L e (by simp) (r.append (.cons Y .nil)) ?_,rfl,q⟩;rw[length_append,length_singleton];lia
def aDn:V->List V->Hp->VK->Prop:=λx vs H Q=>∃l xs y,x=.ref l/\vs=[]/\H l=some (.lst xs)/\xs[xs.length - 1]? = some y/\Q y (upd H l (.lst xs.dropLast))
theorem apI:MtM X "list.pop" aDn:=by
 intro pins s σ H x vs v us Q I Y Z h;obtain⟨l,xs,y,rfl,rfl,W,hy,q⟩:=h;cases Y;have L:=Z.zero;subst L;obtain⟨z,J,n,r,hl,e⟩:=I.aln W;obtain⟨u,hu,ru⟩:=r.get hy;have O:J.toArray[J.toArray.size - 1]? = some u:=by{show J.toArray[J.length - 1]? = some u;rw[<-Array.getElem?_toList,<-hl];exact hu};refine call_meets F.slot_list_pop ⟨_,e,rfl⟩ F.entry_list_pop (F.args_list_pop_1 _) (MeetsSeq.list_pop_last l J.toArray n u O (by rw[size_toArray];lia)) ⟨e,?_⟩;refine⟨y,_,I.apH (its':=J.dropLast) W e ?_ r.dropLast ?_,ru,q⟩;{show J.toArray.eraseIdxIfInBounds (J.toArray.size - 1)=J.dropLast.toArray;rw[size_toArray,eraseIdxIfInBounds_toArray,alm]};{rw[length_dropLast];lia}
def awz:V->List V->Hp->VK->Prop:=λx vs H Q=>∃l xs i k y,x=.ref l/\vs=[.int i]/\H l=some (.lst xs)/\-(2 ^ 63)<=i/\i<2 ^ 63/\seqIndex? i xs.length=some k/\xs[k]? = some y/\Q y (upd H l (.lst (xs.eraseIdx k)))
theorem GK:MtM X "list.pop" awz:=by
 intro pins s σ H x vs v us Q I O W h;obtain⟨l,xs,i,k,y,rfl,rfl,L,h1,h2,hk,Y,q⟩:=h;cases O;obtain⟨u,rfl,Z⟩:=W.one;obtain⟨t,rfl⟩:=Z;obtain⟨z,J,n,r,hl,e⟩:=I.aln L;obtain⟨w,hw,Y9⟩:=r.get Y;refine call_meets F.slot_list_pop ⟨_,e,rfl⟩ F.entry_list_pop (F.args_list_pop_2 _ _)
  (MeetsSeq.list_pop_at l J.toArray n i t k w (fitsIndex_both h1 h2) (by rw[size_toArray,<-hl];exact hk) (by rw[<-Array.getElem?_toList];exact hw) (by rw[size_toArray];lia)) ⟨e,?_⟩
 refine⟨y,_,I.apH (its':=J.eraseIdx k) L e ?_ (r.eraseIdx k) ?_,Y9,q⟩;{show J.toArray.eraseIdxIfInBounds k=(J.eraseIdx k).toArray;rw[eraseIdxIfInBounds_toArray]};{have:=aev xs k;lia}
def awA:R2:=λx y H Q=>∃l b xs zs,x=.ref l/\y=.ref b/\H l=some (.lst xs)/\H b=some (.lst zs)/\xs.length+zs.length<=sizeLine/\∀p,H p=none->Q (.ref p) (upd H p (.lst (xs++zs)))
theorem mV:Wx X (binaryOp .Add) awA:=by
 intro pins s σ H x y v u Q I L O h;obtain⟨l,b,xs,zs,rfl,rfl,W,Y,hz,q⟩:=h;cases L;cases O;obtain⟨z,J,n,r,hl,e⟩:=I.aln W;obtain⟨z2,F,n2,Z,aa,e2⟩:=I.aln Y;refine PySem.P.add_list e e2 ?_ (by rw[size_toArray,size_toArray];lia);have ea:J.toArray++F.toArray=(J++F).toArray:=by{simp};rw[ea];exact⟨.ref _,_,I.awy (t':=s.toks) (r.append Z) (by rw[length_append];lia),rfl,q _ I.fresh⟩
def aDo:R2:=λx y H Q=>∃l k xs,x=.ref l/\y=.int k/\H l=some (.lst xs)/\-(2 ^ 63)<=k/\k<2 ^ 63/\xs.length*k.toNat<=sizeLine/\
 ∀p,H p=none->Q (.ref p) (upd H p (.lst (replicate k.toNat xs).flatten))
theorem len_rep{α:Type}(xs:List α)(k:Nat):(replicate k xs).flatten.length=k*xs.length:=by
 induction k with| zero=>simp| succ k z=>rw[replicate_succ,flatten_cons,length_append,z,Nat.succ_mul,Nat.add_comm]
theorem apJ:Wx X (binaryOp .Mult) aDo:=by
 intro pins s σ H x y v u Q I rx ry h;obtain⟨l,k,xs,rfl,rfl,hH,h1,h2,hz,q⟩:=h;cases rx;obtain⟨t,rfl⟩:=ry;obtain⟨z,J,n,r,hl,e⟩:=I.aln hH;have L:J.toArray.size*k.toNat<=sizeLine:=by{rw[size_toArray,<-hl];exact hz};have Y:¬J.toArray.size*k.toNat > (2 ^ 63 - 1) / 8:=by{have:(sizeLine:Nat)<=(2 ^ 63 - 1) / 8:=by{decide};lia};have O:¬(!Builtin.List.listFitsIndex k)=true:=by{rw[fitsIndex_both h1 h2];exact Bool.false_ne_true};have Z:¬Builtin.List.listTooLong (J.toArray.size*k.toNat)=true:=by{rw[aiB L];exact Bool.false_ne_true};have W:foldl (λx1 x2=>x1++x2) #[] (replicate (if J.toArray.isEmpty=true then 0 else k.toNat) J.toArray)=(replicate k.toNat J).flatten.toArray:=by{have f0:∀m:Nat,foldl (λx1 x2=>x1++x2) #[] (replicate m J.toArray)=(replicate m J).flatten.toArray:=λm=>by{have:=foldl_rep J m [];rw[nil_append]at this;exact this};rw[f0];cases J with| nil=>simp| cons a r'=>rw[if_neg (by simp)]};refine wpAny_binaryOp_repeat_ref (T:="list") (U:="int") (by decide) ⟨_,e,rfl⟩ (λs'=>typeIs_int s' k t) noFill_list_mul F.fills_int_mul F.slot_int_rmul repeat_list F.slot_int_index.lookup
  (call_meets F.slot_int_rmul (typeIs_int s k t) F.entry_int_rmul (F.args_int_rmul_2 _ _) (int___rmul___int_list k t l J.toArray n)
    ⟨e,rfl,⟨_,e,rfl⟩,call_meets F.slot_list_mul ⟨_,e,rfl⟩ F.entry_list_mul (F.args_list_mul_2 _ _) (AutoListH.list___mul___list_int_3 l J.toArray n k t O Y Z) ⟨e,?_⟩⟩)
 rw[W];exact⟨.ref _,_,I.awy (t':=s.toks) (r.rep k.toNat) (by rw[len_rep,Nat.mul_comm];exact hz),rfl,q _ I.fresh⟩
end
section
variable{prog:Program}{w:World}{A:Around}{E:Value->Shared->Prop}{s:Shared}
end
section
variable{X:Cx}
end
section
variable{κ:Type}[DecidableEq κ]
def gj(kvs:List (κ×V))(k:κ):Option V:=(kvs.find? λkv=>decide (kv.1=k)).map (·.2)
def putK(kvs:List (κ×V))(k:κ)(v:V):List (κ×V):=
 if(kvs.any λkv=>decide (kv.1=k))=true then kvs.map (λkv=>if kv.1=k then(kv.1,v)else kv)else kvs++[(k,v)]
def zu(kvs:List (κ×V))(k:κ):List (κ×V):=kvs.filter λkv=>decide (kv.1≠k)
theorem kO{p:κ×V}{r:List (κ×V)}{k:κ}(e:p.1=k):gj (p::r) k=some p.2:=by simp[gj,find?_cons,e]
theorem kW{p:κ×V}{r:List (κ×V)}{k:κ}(e:¬p.1=k):gj (p::r) k=gj r k:=by simp[gj,find?_cons,e]
theorem O5(k:κ):∀kvs:List (κ×V),(kvs.any λz=>decide (z.1=k))=(gj kvs k).isSome
 | []=>rfl
 | p::r=>by rw[any_cons];by_cases e:p.1=k;{simp only[kO e,decide_eq_true e,Bool.true_or,Option.isSome_some]};{rw[kW e,decide_eq_false e,Bool.false_or];exact O5 k r}
theorem aiC(k j:κ)(y:V):∀kvs:List (κ×V),gj (kvs.map λF=>if F.1=k then(F.1,y)else F) j=(gj kvs j).map λx=>if j=k then y else x
 | []=>rfl
 | p::r=>by have I:=aiC k j y r;rw[map_cons];by_cases h:p.1=k;{rw[if_pos h];by_cases e:p.1=j;{rw[kO (p:=(p.1,y)) e,kO e,Option.map_some,if_pos (e.symm.trans h)]};{rw[kW (p:=(p.1,y)) e,kW e,I]}};{rw[if_neg h];by_cases e:p.1=j;{rw[kO (p:=p) e,kO e,Option.map_some,if_neg (λz=>h (e.trans z))]};{rw[kW (p:=p) e,kW e,I]}}
theorem aew(k j:κ)(y:V):∀kvs:List (κ×V),gj kvs k=none->gj (kvs++[(k,y)]) j=if j=k then some y else gj kvs j
 | [],_=>by by_cases e:k=j;{rw[if_pos e.symm];exact kO (p:=(k,y)) e};{rw[if_neg (λz=>e z.symm)];exact kW (p:=(k,y)) e}
 | p::r,F=>by rw[cons_append];have hk:¬p.1=k:=λz=>by{rw[kO z]at F;cases F};rw[kW hk]at F;have I:=aew k j y r F;by_cases e:p.1=j;{rw[kO e,kO e,if_neg (λz=>hk (e.trans z))]};{rw[kW e,kW e,I]}
theorem apK(kvs:List (κ×V))(k j:κ)(y:V):gj (putK kvs k y) j=if j=k then some y else gj kvs j:=by
 unfold putK;by_cases a:(kvs.any λz=>decide (z.1=k))=true;{rw[if_pos a,aiC];rw[O5]at a;by_cases e:j=k;{obtain⟨x,F⟩:=Option.isSome_iff_exists.mp a;rw[if_pos e,e,F,Option.map_some,if_pos rfl]};{rw[if_neg e];cases gj kvs j with| none=>rfl| some x=>rw[Option.map_some,if_neg e]}};{rw[if_neg a];refine aew k j y kvs ?_;rw[O5]at a;cases q:gj kvs k with| none=>rfl| some x=>rw[q]at a;exact(a rfl).elim}
theorem wI(kvs:List (κ×V))(k:κ)(v:V):(putK kvs k v).length<=kvs.length+1:=by
 unfold putK;split;{rw[length_map];lia};{rw[length_append,length_cons,length_nil];lia}
theorem Ey.Tc{o:Option V}{u:Option Value}(r:Ey o u):o.isSome=u.isSome:=by
 cases o with
 | none=>cases u with
   | none=>rfl
   | some _=>exact(show False from r).elim
 | some _=>cases u with
   | none=>exact(show False from r).elim
   | some _=>rfl
theorem KV.val{kvs:List (κ×V)}{vs:List (κ×Value)}(r:KV kvs vs)(k:κ):Ey (gj kvs k) (valueAt vs k):=by
 unfold KV at r;induction r with| nil=>exact True.intro| @cons p q ps F h t J=>obtain⟨h1,h2⟩:=h;by_cases e:p.1=k;{have I:q.1=k:=h1.symm.trans e;have b:valueAt (q::F) k=some q.2:=by{simp[valueAt,find?_cons,I]};rw[kO e,b];exact h2};{have I:¬q.1=k:=λz=>e (h1.trans z);have b:valueAt (q::F) k=valueAt F k:=by{simp[valueAt,find?_cons,I]};rw[kW e,b];exact J}
theorem KV.any{kvs:List (κ×V)}{vs:List (κ×Value)}(r:KV kvs vs)(k:κ):(kvs.any λz=>decide (z.1=k))=vs.any λz=>decide (z.1=k):=by
 unfold KV at r;induction r with| nil=>rfl| cons h t F=>rw[any_cons,any_cons,F,h.1]
theorem KV.repl{kvs:List (κ×V)}{vs:List (κ×Value)}(r:KV kvs vs)(k:κ){y:V}{u:Value}(I:RelV y u) :
 KV (kvs.map λF=>if F.1=k then(F.1,y)else F) (vs.map λF=>if F.1=k then(F.1,u)else F):=by
 unfold KV at r ⊢;induction r with| nil=>exact .nil| @cons p q ps L h t J=>rw[map_cons,map_cons];refine .cons ?_ J;obtain⟨h1,h2⟩:=h;by_cases e:p.1=k;{rw[if_pos e,if_pos (h1.symm.trans e)];exact⟨h1,I⟩};{rw[if_neg e,if_neg (λz=>e (h1.trans z))];exact⟨h1,h2⟩}
theorem KV.put{kvs:List (κ×V)}{vs:List (κ×Value)}(r:KV kvs vs)(k:κ){y:V}{u:Value}(z:RelV y u):KV (putK kvs k y) (stored vs k u):=by
 unfold putK stored;rw[r.any k];by_cases e:(vs.any λF=>decide (F.1=k))=true;{rw[if_pos e,if_pos e];exact r.repl k z};{rw[if_neg e,if_neg e];exact Paired.snoc r ⟨rfl,z⟩}
theorem KV.drop{kvs:List (κ×V)}{vs:List (κ×Value)}(r:KV kvs vs)(k:κ):KV (zu kvs k) (without vs k):=by
 unfold KV at r ⊢;unfold zu without;induction r with| nil=>exact .nil| @cons p q ps J h t F=>obtain⟨h1,h2⟩:=h;rw[filter_cons,filter_cons];by_cases e:p.1=k;{have a:¬decide (p.1≠k)=true:=by{simp[e]};have b:¬decide (q.1≠k)=true:=by{simp[h1.symm.trans e]};rw[if_neg a,if_neg b];exact F};{have I:¬q.1=k:=λz=>e (h1.trans z);have a:decide (p.1≠k)=true:=by{simp[e]};have b:decide (q.1≠k)=true:=by{simp[I]};rw[if_pos a,if_pos b];exact .cons ⟨h1,h2⟩ F}
theorem KV.length{kvs:List (κ×V)}{vs:List (κ×Value)}(r:KV kvs vs):kvs.length=vs.length:=Paired.length r
theorem aiD(kvs:List (κ×V))(k:κ):(zu kvs k).length<=kvs.length:=length_filter_le _ _
end
theorem Zy{P:Program}{w:World}{k:Key}{u:Value}(r:RelV (kV k) u):(iz P w).is k u=true:=by
 cases k with
 | inl i=>obtain⟨t,e⟩:=(show ∃t,u=Value.int i t from r);subst e;exact aiq P w i t
 | inr x=>obtain⟨t,e⟩:=(show ∃t,u=Value.str x t from r);subst e;exact air P w x t
theorem aex{P:Program}{w:World}:∀{ks:List Key} {us:List Value},Vals (ks.map kV) us->ItemsAre (iz P w) ks us
 | [],_,r=>by rw[map_nil]at r;cases r;exact .nil
 | k::ks,_,r=>by rw[map_cons]at r;cases r with| cons h t=>exact .cons (Zy h) (aex t)
abbrev KT(H:Hp):List (List Key×V)->List (List Key×Addr×Value)->Prop:=Paired λp q=>p.1=q.1/\H q.2.1=some (.tup (p.1.map kV))/\RelV p.2 q.2.2
theorem KT.val{H:Hp}{kvs:List (List Key×V)}{xs:List (List Key×Addr×Value)}(r:KT H kvs xs)(k:List Key):Ey (gj kvs k) ((atKey xs k).map (·.2)):=by
 induction r with| nil=>exact True.intro| @cons p q ps F h t J=>obtain⟨h1,_,h2⟩:=h;by_cases e:p.1=k;{have I:q.1=k:=h1.symm.trans e;have b:atKey (q::F) k=some q.2:=by{simp[atKey,find?_cons,I]};rw[kO e,b];exact h2};{have I:¬q.1=k:=λz=>e (h1.trans z);have b:atKey (q::F) k=atKey F k:=by{simp[atKey,find?_cons,I]};rw[kW e,b];exact J}
theorem KT.repl{H:Hp}{kvs:List (List Key×V)}{xs:List (List Key×Addr×Value)}(r:KT H kvs xs)(k:List Key){y:V}{u:Value}(I:RelV y u) :
 KT H (kvs.map λF=>if F.1=k then(F.1,y)else F) (xs.map (putAt k u)):=by
 induction r with| nil=>exact .nil| @cons p q ps O h t J=>rw[map_cons,map_cons];refine .cons ?_ J;obtain⟨h1,h2,L⟩:=h;unfold putAt;by_cases e:p.1=k;{rw[if_pos e,if_pos (h1.symm.trans e)];exact⟨h1,h2,I⟩};{rw[if_neg e,if_neg (λz=>e (h1.trans z))];exact⟨h1,h2,L⟩}
theorem KT.put{H:Hp}{kvs:List (List Key×V)}{xs:List (List Key×Addr×Value)}(r:KT H kvs xs)(k:List Key){b:Addr}{y:V}{u:Value}(F:H b=some (.tup (k.map kV)))(z:RelV y u) :
 KT H (putK kvs k y) (storedH xs k b u):=by
 have e:(kvs.any λI=>decide (I.1=k))=(atKey xs k).isSome:=by{rw[O5,(r.val k).Tc,Option.isSome_map]};unfold putK storedH;rw[e];by_cases q:(atKey xs k).isSome=true;{rw[if_pos q,if_pos q];exact r.repl k z};{rw[if_neg q,if_neg q];exact Paired.snoc r ⟨rfl,F,z⟩}
theorem KT.keeps{H H':Hp}{kvs:List (List Key×V)}{xs:List (List Key×Addr×Value)}(r:KT H kvs xs)(F:∀b ys,H b=some (.tup ys)->H' b=some (.tup ys)):KT H' kvs xs:=
 Paired.awf r λ_ _ z=>⟨z.1,F _ _ z.2.1,z.2.2⟩
section
variable{P:Program}{w:World}{H:Hp}{h:Heap}{a:Addr}
theorem avz{u:HO}(ok:J0 P w H h)(e:Rd H a u):gh P w H h a u:=e.ok ok
theorem aiE{kvs:List (Key×V)}(ok:J0 P w H h)(e:Rd H a (.dK kvs)):kvs.length<=sizeLine/\(a == sysModules)=false/\∃vs,KV kvs vs/\h.DictOf (iz P w) a vs:=
 show gh P w H h a (.dK kvs)from avz ok e
theorem amH{kvs:List (Key×V)}(ok:J0 P w H h)(e:H a=some (.dK kvs)):kvs.length<=sizeLine/\(a == sysModules)=false/\∃vs,KV kvs vs/\h.DictOf (iz P w) a vs:=aiE ok (.inl e)
theorem afp{ks:List Key}(ok:J0 P w H h)(e:H a=some (.tup (ks.map kV))):(tupleKind (iz P w)).is h ks a:=by
 obtain⟨_,z,r,o,h1,h2,n,F⟩:=(show gh P w H h a (.tup (ks.map kV))from ok a _ e);exact⟨o,z.toArray,n,h1,h2,F,by simpa using aex r⟩
theorem aiF{kvs:List (List Key×V)}(ok:J0 P w H h)(e:Rd H a (.dT kvs)):kvs.length<=sizeLine/\(a == sysModules)=false/\
 ∃xs,KT H kvs xs/\h.DictOfH (tupleKind (iz P w)) a xs:=by
 obtain⟨z,y,xs,r,o,es,J,h1,h2,L,O,W⟩:=(show gh P w H h a (.dT kvs)from avz ok e);refine⟨z,y,xs,r,o,es,J,h1,h2,L,O,λx F=>?_,W⟩;have all:∀{l:List (List Key×V)} {m:List (List Key×Addr×Value)},KT H l m->∀x∈m,(tupleKind (iz P w)).is h x.1 x.2.1:=by{intro l m q;induction q with| nil=>intro x F;exact nomatch F| @cons p q ps Z I t Y=>intro x F;rcases mem_cons.mp F with e | F;{subst e;exact afp ok (by rw[<-I.1];exact I.2.1)};{exact Y x F}};exact all r x F
theorem az4{kvs:List (List Key×V)}(ok:J0 P w H h)(e:H a=some (.dT kvs)):kvs.length<=sizeLine/\(a == sysModules)=false/\
 ∃xs,KT H kvs xs/\h.DictOfH (tupleKind (iz P w)) a xs:=aiF ok (.inl e)
end
def J5(H:Hp)(a:Addr)(y:V)(r:Option V):Prop:=
 (∃kvs k,Rd H a (.dK kvs)/\y=kV k/\r=gj kvs k)\/∃kvs k b,Rd H a (.dT kvs)/\y=.ref b/\H b=some (.tup (k.map kV))/\r=gj kvs k
def alo(H:Hp)(a:Addr)(y v:V)(H':Hp):Prop:=
 (∃kvs k,H a=some (.dK kvs)/\y=kV k/\kvs.length<sizeLine/\H'=upd H a (.dK (putK kvs k v)))\/
 ∃kvs k b,H a=some (.dT kvs)/\y=.ref b/\H b=some (.tup (k.map kV))/\kvs.length<sizeLine/\H'=upd H a (.dT (putK kvs k v))
theorem J5.k{H:Hp}{a:Addr}{kvs:List (Key×V)}{k:Key}(e:H a=some (.dK kvs)):J5 H a (kV k) (gj kvs k):=.inl ⟨kvs,k,.inl e,rfl,rfl⟩
theorem alo.k{H:Hp}{a:Addr}{kvs:List (Key×V)}{k:Key}{v:V}(e:H a=some (.dK kvs))(hl:kvs.length<sizeLine):alo H a (kV k) v (upd H a (.dK (putK kvs k v))):=.inl ⟨kvs,k,e,rfl,hl,rfl⟩
section
variable{X:Cx}{pins:List (Addr×Obj)}{σ:St}{H:Hp}{s:Shared}{a:Addr}{y v:V}{u r:Value}{o:Option V}{A:Around}{E:Value->Shared->Prop}
theorem Inv.big(I:Inv X pins σ H s):sysModules<s.heap.objs.size:=by
 have h:mainGlobals<s.heap.objs.size:=(I.mod.glob.keeps I.bk).lt;exact Nat.lt_trans (by decide) h
theorem an5{Q:Value->Shared->Prop}(Z:A.units+1<cLine)(I:Inv X pins σ H s)(g:J5 H a y (some v))(Y:RelV y u)(h:∀F s',Inv X pins σ H s'->RelV v F->Q F s') :
 wpAny (model X.prog X.w) A (getItem (.ref a) u) Q E s:=by
 rcases g with ⟨kvs,k,e,J,l⟩ | ⟨kvs,k,b,e,J,eb,l⟩;{subst J;obtain⟨z,hd,vs,rel,dd⟩:=aiE I.hok e;obtain⟨F,L,O⟩:=Ey.some_of (v:=v) (o:=valueAt vs k) (by rw[l];exact rel.val k);exact wpAny_getItem_of (Zy Y) dd.mapOf L (h F _ (I.tok _) O)};{subst J;cases (show u=Value.ref b from Y);obtain⟨z,hd,xs,rel,dd⟩:=aiF I.hok e;obtain⟨F,L,O⟩:=Ey.some_of (v:=v) (o:=(atKey xs k).map (·.2)) (by rw[l];exact rel.val k);obtain⟨p,hp,W⟩:=Option.map_eq_some_iff.mp L;refine wpAny_getItem_heap (tupleKind_room_in1 Z) (afp I.hok eb) dd hp ?_;rw[W];exact h F _ (I.tok _) O}
theorem aDq{Q:Value->Shared->Prop}(L:A.units+1<cLine)(I:Inv X pins σ H s)(g:J5 H a y o)(J:RelV y u)(h:∀s',Inv X pins σ H s'->Q (.bool o.isSome) s') :
 wpAny (model X.prog X.w) A (compareOp .In u (.ref a)) Q E s:=by
 rcases g with ⟨kvs,k,e,F,l⟩ | ⟨kvs,k,b,e,F,O,l⟩;{subst F;obtain⟨z,hd,vs,rel,dd⟩:=aiE I.hok e;refine wpAny_in_of (Zy J) hd dd.mapOf ?_;rw[<-(rel.val k).Tc,<-l];exact h _ (I.tok _)};{subst F;cases (show u=Value.ref b from J);obtain⟨z,hd,xs,rel,dd⟩:=aiF I.hok e;refine wpAny_in_heap (tupleKind_room_in1 L) (afp I.hok O) hd dd ?_;have q:=(rel.val k).Tc;rw[Option.isSome_map]at q;rw[<-q,<-l];exact h _ (I.tok _)}
theorem Za{h':Heap}{t':Nat}{ob:HO}(I:Inv X pins σ H s)(mu:Mut (H a))(hs:Heap.SameBut a s.heap h')(F:∃q,h'.get? a=some q)(new:gh X.prog X.w (upd H a ob) h' a ob) :
 Inv X pins σ (upd H a ob) {s with heap:=h',toks:=t'}:=
 I.write (x:=a) (e:=a) mu (.inl rfl) (λb q J z=>(hs.2 b J).trans z) F new
theorem alp{P:Program}{w:World}{H':Hp}{h':Heap}{kvs:List (Key×V)}{vs:List (Key×Value)}(z:kvs.length<=sizeLine)(hd:(a == sysModules)=false)(rel:KV kvs vs)(dd:h'.DictOf (iz P w) a vs) :
 gh P w H' h' a (.dK kvs):=⟨z,hd,vs,rel,dd⟩
theorem an6{H':Hp}{Q:Unit->Shared->Prop}(hu:A.units+1<cLine)(I:Inv X pins σ H s)(g:alo H a y v H')(W:RelV y u)(Y:RelV v r)(h:∀s',Inv X pins σ H' s'->Q () s') :
 wpAny (model X.prog X.w) A (setItem (.ref a) u r) Q E s:=by
 rcases g with ⟨kvs,k,e,L,l,O⟩ | ⟨kvs,k,b,e,L,Z,l,O⟩;{subst L O;obtain⟨z,hd,vs,rel,dd⟩:=amH I.hok e;have hz:vs.length<=sizeLine:=by{rw[<-rel.length];exact z};have hl:(putK kvs k v).length<=sizeLine:=by{have:=wI kvs k v;lia};refine wpAny_setItem_pairs (hsz:=hz) (Zy W) dd λh' F hs=>h _ ?_;have he:∃q,h'.get? a=some q:=let ⟨q,_,_,J,_⟩:=F;⟨q,J⟩;exact Za I (by rw[e];exact True.intro) hs he (alp hl hd (rel.put k Y) F)};{subst L O;cases (show u=Value.ref b from W);obtain⟨z,hd,xs,rel,dd⟩:=az4 I.hok e;have hz:xs.length<=sizeLine:=by{rw[<-Paired.length rel];exact z};have hl:(putK kvs k v).length<=sizeLine:=by{have:=wI kvs k v;lia};refine wpAny_setItem_heap (hsz:=hz) (tupleKind_room_in1 hu) (afp I.hok Z) dd λh' F hs=>h _ ?_;obtain⟨q,es,ep,J,h2,h3,h4,_,h5⟩:=F;refine Za I (by rw[e];exact True.intro) hs ⟨q,J⟩ ⟨hl,hd,_,(rel.put k Z Y).keeps λc ys ec=>?_,q,es,ep,J,h2,h3,h4,h5⟩;rw[az (jP ec e (λz=>nomatch z))];exact ec}
end
section
variable{X:Cx}{pins:List (Addr×Obj)}{σ:St}{H:Hp}{s:Shared}{a:Addr}{kvs:List (Key×V)}{k:Key}{u:Value}{A:Around}{E:Value->Shared->Prop}
theorem az5{v:V}{more:List Value}{Q:Value->Shared->Prop}(I:Inv X pins σ H s)(e:H a=some (.dK kvs))(O:RelV (kV k) u)(l:gj kvs k=some v)(W:more=[]\/∃x,more=[x])
 (h:∀J s',Inv X pins σ (upd H a (.dK (zu kvs k))) s'->RelV v J->Q J s'):wpAny (model X.prog X.w) A (call (.builtin "dict.pop") (.ref a::u::more)) Q E s:=by
 obtain⟨z,hd,vs,rel,dd⟩:=amH I.hok e;obtain⟨J,Y,Z⟩:=Ey.some_of (v:=v) (o:=valueAt vs k) (by rw[<-l];exact rel.val k);have hp:(keyPart u).isSome=true:=by
  cases k with
  | inl i=>obtain⟨t,q⟩:=(show ∃t,u=Value.int i t from O);subst q;rfl
  | inr x=>obtain⟨t,q⟩:=(show ∃t,u=Value.str x t from O);subst q;rfl
 have ha:argsOk "dict.pop" ⟨.ref a::u::more,[]⟩:=by{rcases W with q | ⟨x,q⟩;{subst q;exact PySem.F.args_dict_pop_2 _ _};{subst q;exact PySem.F.args_dict_pop_3 _ _ _}};refine call_meetsIn PySem.F.slot_dict_pop dd.typeIs PySem.F.entry_dict_pop ha (meets_dict_pop_there (iz X.prog X.w) a (Zy O) more W hp)
  ⟨vs,J,dd,by rw[<-rel.length];exact z,Y,λh' L hs=>h J _ ?_ Z⟩
 have he:∃q,h'.get? a=some q:=let ⟨q,_,_,hq,_⟩:=L;⟨q,hq⟩;exact Za I (by rw[e];exact True.intro) hs he (alp (Nat.le_trans (aiD kvs k) z) hd (rel.drop k) L)
theorem awB{r:Value}{Q:Value->Shared->Prop}(I:Inv X pins σ H s)(e:H a=some (.dK kvs))(J:RelV (kV k) u)(l:gj kvs k=none)(h:∀s',Inv X pins σ H s'->Q r s') :
 wpAny (model X.prog X.w) A (call (.builtin "dict.pop") [.ref a,u,r]) Q E s:=by
 obtain⟨z,hd,vs,rel,dd⟩:=amH I.hok e;have L:valueAt vs k=none:=Ey.none_of (by rw[<-l];exact rel.val k);have hp:(keyPart u).isSome=true:=by
  cases k with
  | inl i=>obtain⟨t,q⟩:=(show ∃t,u=Value.int i t from J);subst q;rfl
  | inr x=>obtain⟨t,q⟩:=(show ∃t,u=Value.str x t from J);subst q;rfl
 exact call_meetsIn PySem.F.slot_dict_pop dd.typeIs PySem.F.entry_dict_pop (PySem.F.args_dict_pop_3 _ _ _) (meets_dict_pop_default (iz X.prog X.w) a (Zy J) hd hp r) ⟨vs,dd,L,h _ (I.tok _)⟩
end
def awC(i:Expr):Prop:=∀ov iv,subscripted i false ov iv=operate [ov,iv] (getItem ov iv)
theorem amI{prog:Program}{w:World}{A:Around}{E:Value->Shared->Prop}{s:Shared}{env:Env}{value slice:Expr}{pos:Pos}{T id:String}{Q:Value->Shared->Prop}
 (hl:typeLookup (.type T) "__getitem__"=pure (some (.builtin id))) (hs:awC slice)
 (h:wpAny (model prog w) A (eval value env) (λo J=>wpAny (model prog w) A (eval slice env) (λi F=>F.TypeIs o T/\wpAny (model prog w) A (getItem o i) Q E F) E J) E s) :
 wpAny (model prog w) A (eval (.Subscript value slice pos) env) Q E s:=by
 refine Subscript_ (wpAny_mono h (λo J W=>wpAny_mono W (λi F I=>?_) λ_ _ x=>x) λ_ _ x=>x);obtain⟨L,I⟩:=I;unfold subscriptTail;refine wpAny_bind ?_;rw[getitemInPython_of_ne L.not_modules];refine wpAny_bind (wpAny_specialOf L hl ?_);have z:wpAny (model prog w) A (subscripted slice false o i) (λr O=>wpAny (model prog w) A (letTemporaryGo value o r >>= λ_=>pure r) Q E O) E F:=by{rw[hs o i];exact wpAny_operating (wpAny_mono I (λr O Y=>wpAny_bind (wpAny_letTemporaryGo (wpAny_pure Y))) λ_ _ x=>x)};first
  | exact wpAny_pure (wpAny_bind z)
  | exact wpAny_bind (wpAny_pure (wpAny_bind z))
  | exact wpAny_bind z
theorem aiG{X:Cx}{pins:List (Addr×Obj)}{σ:St}{H:Hp}{s:Shared}{a:Addr}{y:V}{o:Option V}(I:Inv X pins σ H s)(g:J5 H a y o):s.TypeIs (.ref a) "dict":=by
 rcases g with ⟨kvs,k,e,_,_⟩ | ⟨kvs,k,b,e,_,_,_⟩;{obtain⟨_,_,vs,_,dd⟩:=aiE I.hok e;exact dd.typeIs};{obtain⟨_,_,xs,_,dd⟩:=aiF I.hok e;exact dd.typeIs}
def Zz(td ty:TE):TE:=λσ H Q=>td σ H λx H1=>ty σ H1 λy H2=>∃a v,x=.ref a/\J5 H2 a y (some v)/\Q v H2
def aDr(ty td:TE):TE:=λσ H Q=>ty σ H λy H1=>td σ H1 λx H2=>∃a o,x=.ref a/\J5 H2 a y o/\Q (.bl o.isSome) H2
def az6(td ty tv:TE):TS:=λD σ H=>tv σ H λv H1=>td σ H1 λx H2=>ty σ H2 λy H3=>∃a H4,x=.ref a/\alo H3 a y v H4/\D.nx σ H4
section
variable{X:Cx}{o i e value:Expr}{pos pos' tpos:Pos}{td ty tv:TE}
theorem bL(L:X.A.units+1<cLine)(O:PE X o td)(hi:PE X i ty)(hs:awC i):PE X (.Subscript o i pos) (Zz td ty):=by
 intro pins s σ H Q I h;refine amI PySem.F.slot_dict_getitem.lookup hs (gM (O pins s σ H _ I h) λu s1 z=>lW z λx H1 W Y Z=>gM (hi pins s1 σ H1 _ W Z) λiv s2 z=>lW z λy H2 J ry ⟨a,v,ex,g,q2⟩=>?_);subst ex;obtain rfl:u=Value.ref a:=Y;exact⟨aiG J g,an5 L J g ry λw' s3 I3 Y9=>⟨v,H2,I3,Y9,q2⟩⟩
theorem awD(F:X.A.units+1<cLine)(hi:PE X i ty)(J:PE X o td):PC X .In i o (aDr ty td):=by
 intro pins s σ H Q I h;refine gM (hi pins s σ H _ I h) λiv s1 z=>lW z λy H1 L O W=>gM (J pins s1 σ H1 _ L W) λu s2 z=>lW z λx H2 Y Z ⟨a,ov,ex,g,q2⟩=>?_;subst ex;obtain rfl:u=Value.ref a:=Z;exact aDq F Y g O λs3 I3=>⟨.bl ov.isSome,H2,I3,rfl,q2⟩
theorem mK(z:X.A.units+1<cLine)(F:PE X o td)(hi:PE X i ty)(J:PE X value tv)(hs:swapsWith value (some (.Subscript o i pos')) pos.line X.env=pure false) :
 PS X (.Assign [.Subscript o i pos'] value pos) (az6 td ty tv):=by
 intro pins s σ H D I h;refine wpAny_Assign_Subscript (gM (J pins s σ H _ I h) λr s1 hz=>lW hz λv H1 L O W=>gM (F pins s1 σ H1 _ L W) λu Y hz=>lW hz λx H2 Z rx q2=>gM (hi pins Y σ H2 _ Z q2) λiv s3 hz=>lW hz λy H3 I3 ry ⟨a,H4,ex,g,q3⟩=>?_) hs;subst ex;obtain rfl:u=Value.ref a:=rx;exact an6 z I3 g ry O λs4 I4=>⟨σ,H4,I4,q3⟩
end
theorem aiH{P:Program}{w:World}{H:Hp}(h:Heap)(z:sysModules<h.objs.size):gh P w H (h.push {cls:=.type "dict",data:=.dict #[]}) h.objs.size (.dK []):=
 ⟨zero_le _,beq_eq_false_iff_ne.mpr (Ne.symm (ne_of_lt z)),[],.nil,Heap.DictOf.new h⟩
def awE:TE:=λ_ H Q=>∀p,H p=none->Q (.ref p) (upd H p (.dK []))
section
variable{X:Cx}{pos:Pos}
theorem apM:PE X (.Dict [] [] pos) awE:=λpins s σ H Q I h=>
 wpAny_Dict_empty ⟨.ref s.heap.objs.size,_,I.laid (a:=s.heap.objs.size) (o:=.dK []) (t':=s.toks) (λ_ _ q=>Heap.get?_push_of_some _ q) (Nat.le_refl _) (aiH s.heap I.big),rfl,h _ (I.hok.fresh (Nat.le_refl _))⟩
end
def alq:List (TE×TE)->St->Hp->(List (V×V)->Hp->Prop)->Prop
 | [],_,H,Q=>Q [] H
 | (tk,tv)::r,σ,H,Q=>tk σ H λx H1=>tv σ H1 λy H2=>alq r σ H2 λps H3=>Q ((x,y)::ps) H3
abbrev VV:List (V×V)->List (Value×Value)->Prop:=Paired λp q=>RelV p.1 q.1/\RelV p.2 q.2
def PPs(X:Cx)(pos:Pos)(keys:List (Option Expr))(values:List Expr)(trs:List (TE×TE)):Prop:=
 ∀(pins:List (Addr×Obj)) (s:Shared) (σ:St) (H:Hp) (Q:List (V×V)->Hp->Prop),Inv X pins σ H s->alq trs σ H Q->
  wpAny (model X.prog X.w) X.A (evalPairs (pairTrees keys values X.env pos)) (λvs s'=>∃ps H',Inv X pins σ H' s'/\VV ps vs/\Q ps H') X.xe s
theorem amJ{X:Cx}{pos:Pos}:PPs X pos [] [] []:=λpins s σ H Q I h=>pairTrees_nil_walk ⟨[],H,I,.nil,h⟩
theorem oE{X:Cx}{pos:Pos}{k v:Expr}{ks:List (Option Expr)}{vs:List Expr}{tk tv:TE}{trs:List (TE×TE)}(hk:PE X k tk)(z:PE X v tv)(F:PPs X pos ks vs trs) :
 PPs X pos (some k::ks) (v::vs) ((tk,tv)::trs):=λpins s σ H Q I h=>
 pairTrees_cons_walk (gM (hk pins s σ H _ I h) λu s1 hz=>lW hz λx H1 J L O=>gM (z pins s1 σ H1 _ J O) λw2 W hz=>lW hz λy H2 Y Z q2=>
  gM (F pins W σ H2 _ Y q2) λws s3 hz=>lW hz λps H3 I3 rel q3=>⟨(x,y)::ps,H3,I3,.cons ⟨L,Z⟩ rel,q3⟩)
def Mm(kvs more:List (Key×V)):List (Key×V):=more.foldl (λacc kv=>putK acc kv.1 kv.2) kvs
theorem KV.merge:∀{more:List (Key×V)} {rs:List (Key×Value)} {kvs:List (Key×V)} {vs:List (Key×Value)},KV more rs->KV kvs vs->KV (Mm kvs more) (merged vs rs):=by
 intro more rs kvs vs r;unfold KV at r;induction r generalizing kvs vs with| nil=>intro q;exact q| @cons p q ps I h t z=>intro F;have e:KV (putK kvs p.1 p.2) (stored vs q.1 q.2):=by{have:=F.put p.1 h.2;rw[<-h.1];exact this};exact z e
theorem Kc:∀(more kvs:List (Key×V)),(Mm kvs more).length<=kvs.length+more.length
 | [],kvs=>by show kvs.length<=kvs.length+0;lia
 | p::r,kvs=>by have h1:=Kc r (putK kvs p.1 p.2);have h2:=wI kvs p.1 p.2;show(Mm (putK kvs p.1 p.2) r).length<=_;rw[length_cons];lia
theorem ZC{P:Program}{w:World}:∀{kvs:List (Key×V)} {ws:List (Value×Value)},VV (kvs.map λz=>(kV z.1,z.2)) ws->∃rs,Carries (iz P w) ws rs/\KV kvs rs
 | [],_,r=>by rw[map_nil]at r;cases r;exact⟨[],True.intro,.nil⟩
 | p::kvs,_,r=>by rw[map_cons]at r;cases r with| @cons a b as bs h t=>obtain⟨rs,c,q⟩:=ZC (P:=P) (w:=w) t;obtain⟨I,F⟩:=b;exact⟨(p.1,F)::rs,⟨Zy h.1,rfl,c⟩,.cons ⟨rfl,h.2⟩ q⟩
def az7(trs:List (TE×TE)):TE:=λσ H Q=>∀p,H p=none->alq trs σ (upd H p (.dK [])) λps H2=>H2 p=some (.dK [])/\∃kvs:List (Key×V),ps=kvs.map (λkv=>(kV kv.1,kv.2))/\kvs.length<=15/\Q (.ref p) (upd H2 p (.dK (Mm [] kvs)))
theorem amK{X:Cx}{pos:Pos}{keys:List (Option Expr)}{F:List Expr}{trs:List (TE×TE)}(h:PPs X pos keys F trs)(hall:keys.all (·.isSome)=true)(hl:keys.length=F.length)(W:keys≠[])
 (L:keys.length<=15):PE X (.Dict keys F pos) (az7 trs):=by
 intro pins s σ H Q I q;have Y:=I.hok.fresh (Nat.le_refl s.heap.objs.size);have Z:=I.laid (a:=s.heap.objs.size) (o:=.dK []) (h':=s.heap.push {cls:=.type "dict",data:=.dict #[]}) (t':=s.toks) (λ_ _ q=>Heap.get?_push_of_some _ q) (Nat.le_refl _) (aiH s.heap I.big);refine wpAny_Dict_walk (knd:=iz X.prog X.w) hall hl W L (gM (h pins _ σ _ _ Z (q _ Y)) λws s2 hz=>lW hz λps H2 O rel ⟨e,kvs,ep,lk,q2⟩=>?_);subst ep;obtain⟨rs,c,rk⟩:=ZC (P:=X.prog) (w:=X.w) rel;obtain⟨z,hd,ae,r0,dd⟩:=amH O.hok e;cases r0;refine⟨rs,c,dd,λh' J hs=>⟨.ref s.heap.objs.size,_,?_,rfl,q2⟩⟩;have hz:(Mm [] kvs).length<=sizeLine:=by{have h1:=Kc kvs [];rw[length_nil]at h1;rw[sizeLine_eq];lia};have he:∃q,h'.get? s.heap.objs.size=some q:=let ⟨q,_,_,hq,_⟩:=J;⟨q,hq⟩;exact Za O (by rw[e];exact True.intro) hs he (alp hz hd (rk.merge .nil) J)
structure M2(X:Cx)(o:Expr)(m:Str)(apos:Pos)(e f:Expr)(cpos:Pos):Prop where
 base:attributeBase o m X.env (eval o X.env)=eval o X.env
 few:((backTo cpos (starEach [e,f] X.env)).all (λx => !x.1) && (backToKw cpos (keywordEach [] X.env)).all (λx=>x.1.isSome)
  && decide (([e,f]:List Expr).length+([]:List Keyword).length+(if([]:List Keyword).isEmpty then 0 else 1)<30))=true
 line:(apos.endLine == cpos.line)=true
 trees:backTo cpos (starEach [e,f] X.env)=[(false,eval e X.env),(false,eval f X.env)]
def IsD(H:Hp)(a:Addr):Prop:=(∃kvs,Rd H a (.dK kvs))\/∃kvs,Rd H a (.dT kvs)
theorem awF{X:Cx}{pins:List (Addr×Obj)}{σ:St}{H:Hp}{s:Shared}{a:Addr}(I:Inv X pins σ H s)(d:IsD H a) :
 s.TypeIs (.ref a) "dict"/\(∀b,Value.ref a=.ref b->∃ob,s.heap.get? b=some ob/\ob.dict=none)/\(a == sysModules)=false:=by
 rcases d with ⟨kvs,e⟩ | ⟨kvs,e⟩;{obtain⟨_,hd,vs,_,dd⟩:=aiE I.hok e;refine⟨dd.typeIs,λb q=>?_,hd⟩;cases q;obtain⟨ob,_,_,h1,h2,_⟩:=dd;exact⟨ob,h1,h2.2.1⟩};{obtain⟨_,hd,xs,_,dd⟩:=aiF I.hok e;refine⟨dd.typeIs,λb q=>?_,hd⟩;cases q;obtain⟨ob,_,_,h1,h2,_⟩:=dd;exact⟨ob,h1,h2.2.1⟩}
section
variable{X:Cx}{pins:List (Addr×Obj)}{σ:St}{H:Hp}{s:Shared}{a:Addr}{y d:V}{u r:Value}{o:Option V}{A:Around}{E:Value->Shared->Prop}
end
def awG(td ty tx:TE):TE:=λσ H Q=>td σ H λx H1=>∃a,x=.ref a/\IsD H1 a/\ty σ H1 λy H2=>tx σ H2 λz H3=>∃kvs k,H3 a=some (.dK kvs)/\y=kV k/\
 (∀v,gj kvs k=some v->Q v (upd H3 a (.dK (zu kvs k))))/\(gj kvs k=none->Q z H3)
section
variable{X:Cx}{o e f:Expr}{apos cpos:Pos}{td ty tx:TE}
theorem apO(ho:PE X o td)(he:PE X e ty)(hf:PE X f tx)(m:M2 X o "pop" apos e f cpos):PE X (.Call (.Attribute o "pop" apos) [e,f] [] cpos) (awG td ty tx):=by
 intro pins s σ H Q I h;refine wpAny_Call_method m.base m.few m.line PySem.F.plainAttrs_dict PySem.F.slot_dict_pop PySem.F.type_dict_pop (gM (ho pins s σ H _ I h) λu s1 J=>lW J λx H1 O rx ⟨a,ex,d,q1⟩=>?_);subst ex;obtain rfl:u=Value.ref a:=rx;obtain⟨t1,t2,_⟩:=awF O d;refine⟨t1,t2,?_⟩;rw[m.trees];refine Calls.callWith_builtin rfl (Calls.evalArgs_plain (Calls.spliced_cons (gM (he pins s1 σ H1 _ O q1) λiv s2 J=>lW J λy H2 I2 W q2=>
  Calls.spliced_cons (gM (hf pins s2 σ H2 _ I2 q2) λfv s3 J=>lW J λz H3 Y rz ⟨kvs,k,Z,ey,q3,q4⟩=>Calls.spliced_nil ?_))))
 subst ey;cases l:gj kvs k with| some v=>exact az5 Y Z W l (.inr ⟨fv,rfl⟩) λw' s4 L Y9=>⟨v,_,L,Y9,q3 v l⟩| none=>exact awB Y Z W l λs4 L=>⟨z,H3,L,rz,q4 l⟩
end
section
variable{X:Cx}{pins:List (Addr×Obj)}{σ:St}{H:Hp}{s:Shared}{a:Addr}{kvs:List (Key×V)}{A:Around}{E:Value->Shared->Prop}
end
section
variable{X:Cx}{pins:List (Addr×Obj)}{σ:St}{H:Hp}{s:Shared}{a:Addr}{y:V}{u:Value}{A:Around}{E:Value->Shared->Prop}
end
end L2
namespace Att
open PySem PySem.W PySem.Calls PyProof.Rows
theorem Wy{P:Params}{h:Heap}:∀(ns:List Int) (vs:List Value),WellAll P h vs (ns.map WData.int)->IntsAre vs ns:=by
 intro ns;induction ns with| nil=>intro vs w;rw[List.map_nil]at w;cases w;exact .nil| cons n ns z=>intro vs w;rw[List.map_cons]at w;cases w with| cons a b=>cases a;exact .cons _ _ (z _ b)
theorem an7{l:OpenLaw}{n:Nat}(Z:l.most=some n){P:Params}{h:Heap}{args:List WData}{z:List Value}
 (F:l.row.toRowW.claim.pre args=true) (O:WellAll P h z args) :
 ∃a vs ns,z=[Value.ref a]/\args=[WData.list (ns.map WData.int)]/\h.get? a=some {cls:=.type "list",data:=.seq vs.toArray}/\IntsAre vs ns/\ns.length<=n:=by
 have W:WShape.hasAll [] args [.list .int]=true:=(pre_splitW F).1;have Y:l.pre.holds [] {args:=args}=true:=(pre_splitW F).2;obtain⟨d,r,rfl,h1,h2⟩:=hasAllW_cons W;obtain rfl:=hasAllW_nil h2;obtain⟨xs,rfl,h3⟩:=hasW_list h1;obtain⟨ns,rfl⟩:=items_int h3;have I:ns.length<=n:=by
  unfold OpenLaw.pre at Y;have J:(WTm.not (.lt (.lit (.int (n:Int))) (.len (.arg 0)))).holds [] {args:=[.list (ns.map .int)]}=true:=by{have J:=(holds_andW Y).1;rw[Z]at J;exact J};have L:=condW_of J (w_not (w_lt w_lit (w_len_list (w_arg rfl))));rw[List.length_map]at L;refine Nat.le_of_not_lt λq=>?_;have q':(n:Int)<((ns.length:Nat):Int):=by{lia};first
   | (rw[decide_eq_true q']at L;exact absurd L (by decide))
   | (simp at L;lia)
 cases O with| cons w1 w2=>cases w2;cases w1 with| list ho hall=>exact⟨_,_,ns,rfl,rfl,ho,Wy ns _ hall,I⟩
theorem an8(l:OpenLaw)(args:List WData):l.row.toRowW.claim.post args (.bool true) args=true:=
 postW_of (r:=l.row.toRowW) (X:=(true == true))
  (show WShape.has [] (.bool true) .bool=true by first | rfl | decide | simp[WShape.has,WShape.arms,WShape.armsAll])
  (show(WTm.eq .res (.lit (.bool true))).value [] {args:=args,res:=some (.bool true),after:=args}=some (.bool (true == true))from w_eq_bool (w_res rfl) w_lit) rfl
theorem aiI{l:OpenLaw}{n:Nat}{q:Program}{loose:List Str}{XP:(Str->Option Value)->Heap->Prop}{YP:World->Heap->Prop}{d:DefRec}
 (hn:l.most=some n) (hdf:d.params.defaults=[])
 (call:∀(w:World) (s₀ z:Shared) (mg W:Str->Option Value) (I:Addr) (o:Obj) (Z cd doc:Value) (a:Addr) (vs:List Value) (ns:List Int),
   Ground q loose [] XP w s₀ mg W z.heap->YP w z.heap->
   z.heap.get? I=some o->o.data=.func (docDef d.name d.params d.body d.scope Z cd doc)->z.heap.CodeRec cd d.name->mg d.name=some (.ref I)->
   z.heap.get? a=some {cls:=.type "list",data:=.seq vs.toArray}->IntsAre vs ns->ns.length<=n->z.gens = #[]->
   codeAny (model l.prog w) callerA (.call (.ref I) ⟨[.ref a],[]⟩) (λr s'=>r=.ok (.ret (.bool true))/\OldK z.heap s'.heap/\s'.os=z.os/\AllBare s'.gens) z) :
 WalkO q loose XP YP l.row.toRowW d [] (λf vs=>PySem.call f vs):=by
 intro w s₀ z mg W G Y I o Z cd doc dV kV ho hd aa hD ac hg args af as J ag al ad am;obtain rfl:dV=.none:=Dflts.none hD hdf;obtain rfl:kV=.none:=Dflts.noKw hD;obtain⟨a,vs,ns,rfl,rfl,L,F,O⟩:=an7 hn J ad;refine enter_call (codeAny_mono (call w s₀ z mg W I o Z cd doc a vs ns G Y ho (fd_plain hd) aa ac L F O hg) λr s' hq=>?_);obtain⟨rfl,h2,h3,h4⟩:=hq;exact⟨.inl ⟨.bool true,.bool true,[],rfl,λ_=>rfl,.bool true,an8 l _,λ_=>⟨List.Pairwise.nil,λ_ hm=>(nomatch hm)⟩⟩,h2,h3,h4⟩
section
variable{prog:Program}{w:World}{A:Around}{E:Value->Shared->Prop}{s:Shared}{K:Frag}
end
end Att
namespace L2
open List
open PySem.W (Frag emptyDict findIn fnOf hideAll instObj isFn keepIn kia_one kia_tup kitAny kitOne lookIn nsIn)
open PySem.F (plainAttrs_list slot_list_pop type_list_pop)
open Nat (le_succ lt_of_lt_of_le ne_of_lt zero_le)
open PySem PySem.Spec PyProof.Rows
theorem aez:∀{vs:List Value} {ns:List Int},IntsAre vs ns->Vals (ns.map V.int) vs
 | _,_,.nil=>.nil
 | _,_,.cons n t h=>.cons ⟨t,rfl⟩ (aez h)
def Only(H:Hp):Prop:=∀b,H b=none\/∃o xs,H b=some (.frz o (.lst xs))
theorem apP{P:Program}{w:World}{K:Frag}{mg mb:Str->Option Value}{CX:CXT}{k:Nat}{fa a:Addr}{fd:FuncData}{x:Str}{sp:Sp}{I:Shared}{vs:List Value}{ns:List Int}
 (KX:K.In I.heap) (Y:I.heap.Ns mainGlobals mg) (J:I.heap.Ns builtinsNs mb) (ak:∀x:Str,x≠"__name__"->mb x=bootBuiltins x) (Z:I.heap.NoLimit) (hg:I.gens = #[])
 (ha:I.heap.get? a=some {cls:=.type "list",data:=.seq vs.toArray}) (hi:IntsAre vs ns) (hl:ns.length<=sizeLine) (hr:bV k callerA)
 (F:∀base:Heap,K.In base->base.Ns mainGlobals mg->cX P w K mg base CX k fa fd [x] sp) (W:∀(s:Shared) (u:Value),BindsTo s fd ⟨[u],[]⟩ [(x,u)])
 (al:∀H:Hp,Only H->bU K H a (ns.map V.int)->sp [.ref a] H (λv _=>v=.bl true) λ_ _ _=>False)
 (am:∀H e s',CX [] H I (λ_ _ _=>False) e s'->False) :
 codeAny (model P w) callerA (.call (.ref fa) ⟨[.ref a],[]⟩) (λr s'=>r=.ok (.ret (.bool true))/\OldK I.heap s'.heap/\s'.os=I.os/\AllBare s'.gens) I:=by
 have rv:=aez hi;have aa:=hi.length;have O:∀H:Hp,Only H->bU K H a (ns.map V.int)->J0 P w H I.heap->(∀b,H b≠none->b=a)->(H a≠none->K.lookup a=none)->
  codeAny (model P w) callerA (.call (.ref fa) ⟨[.ref a],[]⟩) (λr s'=>r=.ok (.ret (.bool true))/\OldK I.heap s'.heap/\s'.os=I.os/\AllBare s'.gens) I:=by
  intro H hO hS hok hA hK
  have ac:∀{b:Addr} {o:Obj},I.heap.get? b=some o->H b=none->(afi I.heap H).get? b=some o:=λe n=>apm e n
  have an:∀{b:Addr} {o:Obj} {es:Array DictEntry} {ep:Nat},I.heap.get? b=some o->o.data=.dict es ep->H b=none:=λ{b o es ep} e d=>by
   cases q:H b with
   | none=>rfl
   | some u=>
     have e':b=a:=hA b (by rw[q];simp)
     subst e'
     rw[ha]at e;cases e
     have d':Data.seq vs.toArray _=Data.dict es ep:=d
     cases d'
  have L:∀{b:Addr} {m:Str->Option Value},I.heap.Ns b m->(afi I.heap H).Ns b m:=λ{b m} ⟨o,es,ep,e,d,r⟩=>⟨o,es,ep,ac e (an e d),d,r⟩
  have ae:K.In (afi I.heap H):=λb o e=>ac (KX b o e) (by
   cases q:H b with
   | none=>rfl
   | some u=>
     have e':b=a:=hA b (by rw[q];simp)
     subst e'
     rw[hK (by rw[q];simp)]at e;cases e)
  have hM:Mod K mg (afi I.heap H):=⟨ae,L Y,⟨mb,L J,ak⟩,let ⟨mc,h1,h2⟩:=Z;⟨mc,L h1,h2⟩⟩
  have e0:ald P w K mg (afi I.heap H) callerA [] I H:=⟨rfl,hM,λb o e=>asp e,Nat.le_of_eq (anT _ _),trivial,λb J=>absurd (show b∈([]:List Addr)from J) (by simp),hok,.of_eq hg⟩
  refine codeAny_mono ((F _ ae (L Y)).run callerA [] I H ⟨[.ref a],[]⟩ [.ref a] [.ref a] _ _ hr e0 (W I (.ref a)) (.cons rfl .nil) (al H hO hS)) λr s' h=>?_
  cases r with
  | error e=>exact(am H e s' h).elim
  | ok fl=>
    cases fl with
    | next=>exact False.elim h
    | brk=>exact False.elim h
    | cont=>exact False.elim h
    | ret u=>
      obtain⟨v,H',os,bare,un,af,r',q⟩:=h
      have q':v=.bl true:=q
      subst q'
      obtain rfl:u=Value.bool true:=r'
      refine⟨rfl,OldK.of_keep λb o e=>?_,os,bare⟩
      cases q:H b with
      | none=>exact un.keep b o e q (by intro z;exact absurd (show b∈([]:List Addr)from z) (by simp)) (by simp)
      | some u=>
        rcases hO b with z | ⟨ob,xs,z⟩
        ·rw[q]at z;cases z
        ·have z2:=un.Mh b ob _ z
         obtain⟨e1,_⟩:=hok b _ z
         obtain⟨e2,_⟩:=af b _ z2
         rw[e]at e1;cases e1
         exact e2
 cases hk:K.lookup a with| some o=>have e:=KX a o hk;rw[ha]at e;cases e;refine O (λ_=>none) (λ_=>.inl rfl) (.inr ⟨_,vs.toArray,_,hk,rfl,rfl,rfl,by rw[size_toArray,aa];exact hl,by simpa using rv⟩) (λb u z=>by have z':(none:Option HO)=some u:=z;cases z') (λb z=>absurd rfl z) λz=>absurd rfl z| none=>refine O (λb=>if b=a then some (.frz {cls:=.type "list",data:=.seq vs.toArray} (.lst (ns.map V.int)))else none) (λb=>?_) (.inl (.inr ⟨{cls:=.type "list",data:=.seq vs.toArray},if_pos rfl⟩)) (λb u z=>?_) (λb z=>?_) λ_=>hk;{by_cases J:b=a;{exact .inr ⟨_,_,if_pos J⟩};{exact .inl (if_neg J)}};{by_cases J:b=a;{have z':=(if_pos J).symm.trans z;cases z';subst J;exact⟨ha,by rw[length_map];exact hl,vs,_,rv,ha⟩};{have z':=(if_neg J).symm.trans z;cases z'}};{by_cases J:b=a;{exact J};{exact absurd (if_neg J) z}}
theorem asF{l:PySem.W.OpenLaw}{n k:Nat}{q:Program}{loose:List Str}{XP:(Str->Option Value)->Heap->Prop}{YP:World->Heap->Prop}{d:DefRec}{K:Params->Frag}{CX:World->CXT}{sp:World->Sp}{x:Str}
 (hn:l.most=some n) (O:n<=sizeLine) (hdf:d.params.defaults=[]) (hr:bV k callerA)
 (hY:∀(w:World) (h:Heap),YP w h->(K w.params).In h)
 (F:∀(w:World) (mg:Str->Option Value) (L:Addr) (h:Heap),(K w.params).In h->h.Ns mainGlobals mg->mg d.name=some (.ref L)->
   ∃fd:FuncData,(∀(s:Shared) (u:Value),BindsTo s fd ⟨[u],[]⟩ [(x,u)])/\
    ∀base:Heap,(K w.params).In base->base.Ns mainGlobals mg->cX l.prog w (K w.params) mg base (CX w) k L fd [x] (sp w))
 (Z:∀(w:World) (H:Hp) (a:Addr) (ns:List Int),ns.length<=n->Only H->bU (K w.params) H a (ns.map V.int)->sp w [.ref a] H (λv _=>v=.bl true) λ_ _ _=>False)
 (aa:∀(w:World) (H:Hp) (s:Shared) (e:Value) (s':Shared),CX w [] H s (λ_ _ _=>False) e s'->False) :
 PySem.W.WalkO q loose XP YP l.row.toRowW d [] (λf vs=>PySem.call f vs):=by
 refine Att.aiI hn hdf λw s₀ ah mg mb L o pm cd doc a vs ns G Y ho hd ai ac J I z hg=>?_;have KX:=hY w _ Y;obtain⟨fd,hb,hF⟩:=F w mg L _ KX G.T.g ac;exact apP KX G.T.g G.T.b G.T.builtins G.T.nolimit hg J I (Nat.le_trans z O) hr hF hb (λH hO hS=>Z w H a ns z hO hS) λH e s'=>aa w H ah e s'
def inClass(s:Stmt)(j:Nat):Stmt:=match s with
 | .ClassDef _ _ _ body _ _ _ _ _ _ _=>body.getD j (.Pass ⟨0,0,0,0⟩)
 | _=>.Pass ⟨0,0,0,0⟩
def O6(s:Stmt):Arguments:=match s with
 | .FunctionDef _ a _ _ _ _ _ _ _ _=>a
 | _=>{posonlyargs:=[],args:=[],vararg:=none,kwonlyargs:=[],kw_defaults:=[],kwarg:=none,defaults:=[]}
def Bf(s:Stmt):List Stmt:=match s with
 | .FunctionDef _ _ b _ _ _ _ _ _ _=>b
 | _=>[]
def aO(s:Stmt):Scope:=match s with
 | .FunctionDef _ _ _ _ _ _ sc _ _ _=>sc
 | _=>{kind:=.function,names:=[],isGenerator:=false,isCoroutine:=false}
abbrev mW:CXT:=λ_ _ _ _ _ _=>False
abbrev E0:XK:=λ_ _ _=>False
theorem bW{X:Cx}:Passes mW X E0:=λ_ _ _ _ _ _ _ h=>h.elim
structure jO(K:Frag)(x qual:Str)(st:Stmt)(f:Addr)(fd:FuncData):Prop where
 ex:∃(oc:Value) (od:Option Addr) (kV doc pm:Value) (an:Option Addr) (cdv ct:Value) (osl:Array (Option Value)),
  fd=fnOf x qual (O6 st) (Bf st) (aO st) .none kV doc pm an cdv ct/\K.lookup f=some ⟨oc,od,.func fd,osl⟩/\PySem.W.codeIn K cdv qual=true
 kp:keepIn K (.ref f)=true
section
variable{P:Program}{w:World}{K:Frag}{mg:Str->Option Value}{base:Heap}
theorem jO.ok{x qual:Str}{st:Stmt}{f:Addr}{fd:FuncData}{N ps:List Str}{k:Nat}{sp:Sp}(F:jO K x qual st f fd)(S:bA N ps (aO st))(len:∀vs H Q E,sp vs H Q E->vs.length=ps.length)
 (I:∀(z:Value) (A:Around) (outer:List Env) (s:Shared) (H:Hp) (vs:List V) (Q:VK) (E:XK),bV k (A.deeper (envOfC qual (aO st) s.heap.objs.size f z))->sp vs H Q E->
   ∃t,PSs (dj mW P w K mg base N qual (aO st) f z A outer s H E).kE (Bf st) t/\t {nx:=λ_ H'=>Q .non H',rt:=Q} (start N vs) H):cX P w K mg base mW (k+1) f fd ps sp:=by
 obtain⟨oc,Z,kV,doc,pm,an,z,ct,O,rfl,W,J⟩:=F.ex;refine avw W J S len λA outer s H vs Q E Y L=>?_;obtain⟨t,h,q⟩:=I z A outer s H vs Q E Y L;exact⟨t,h.kE,q⟩
theorem jO.binds{x qual:Str}{st:Stmt}{f:Addr}{fd:FuncData}{ps:List Str}(F:jO K x qual st f fd)
 (h:∀(kV doc I:Value) (an:Option Addr) (z ct:Value) (us:List Value),us.length=ps.length->bindArgs (fnOf x qual (O6 st) (Bf st) (aO st) .none kV doc I an z ct) ⟨us,[]⟩=pure (ps.zip us)):Binds K fd ps []:=by
 obtain⟨oc,O,kV,doc,I,an,z,ct,J,rfl,W,L⟩:=F.ex;exact .all (h kV doc I an z ct)
theorem aH{x qual:Str}{st:Stmt}{f:Addr}{oc:Value}{J an:Option Addr}{F:Array (Option Value)}{kV doc I z ct:Value}(l:K.lookup f=some ⟨oc,J,.func (fnOf x qual (O6 st) (Bf st) (aO st) .none kV doc I an z ct),F⟩)
 (c:PySem.W.codeIn K z qual=true) (k:keepIn K (.ref f)=true):jO K x qual st f (fnOf x qual (O6 st) (Bf st) (aO st) .none kV doc I an z ct):=⟨⟨oc,J,kV,doc,I,an,z,ct,F,rfl,l,c⟩,k⟩
end
theorem kY{A:Around}{k:Nat}(z:bV k A):A.units+1<cLine:=Nat.lt_of_le_of_lt (Nat.add_le_add_left (by decide:1<=64) _) z.units
section
variable{X:Cx}
theorem pv(i:Nat){x:Str}{pos:Pos}(F:X.N[i]? = some x:=by rfl)(I:Vis X.env.scope x:=by first | exact Or.inl rfl | exact Or.inr (Or.inl rfl) | exact Or.inr (Or.inr rfl))(hd:(x == ("__debug__":Str))=false:=by decide)
 (z:(x == ("__classdict__":Str))=false:=by decide):PE X (.Name x pos) (jE i):=awi F I hd z
end
theorem wD{A B:Prop}(h:B):if false=true then A else B:=by
 rw[if_neg Bool.false_ne_true];exact h
theorem p6{A B:Prop}(h:A):if true=true then A else B:=by
 rw[if_pos rfl];exact h
def bK(H H':Hp):Prop:=∀b o,H b=some o->H' b=some o
theorem bK.refl(H:Hp):bK H H:=λ_ _ h=>h
theorem bK.trans{H H1 H2:Hp}(a:bK H H1)(b:bK H1 H2):bK H H2:=λc o h=>b c o (a c o h)
theorem bK.free{H H':Hp}(e:bK H H'){l:Addr}(h:H' l=Option.none):H l=Option.none:=by
 cases q:H l with| none=>rfl| some o=>rw[e l o q]at h;cases h
section
variable{X:Cx}
end
section
variable{κ:Type}[DecidableEq κ]
theorem an9{p:κ×V}{r:List (κ×V)}{k:κ}(e:p.1=k):zu (p::r) k=zu r k:=by
 unfold zu;rw[filter_cons,if_neg (by simp[e])]
theorem aoa{p:κ×V}{r:List (κ×V)}{k:κ}(e:¬p.1=k):zu (p::r) k=p::zu r k:=by
 unfold zu;rw[filter_cons,if_pos (by simp[e])]
end
inductive D where
 | n | i (k:Int) | s (x:Str) | t (ds:List D) | l (ds:List D)
mutual
def Rep(H:Hp):V->D->Prop
 | v,.n=>v=.non
 | v,.i k=>v=.int k
 | v,.s x=>v=.str x
 | v,.t ds=>∃a xs,v=.ref a/\H a=some (.tup xs)/\aG H xs ds
 | v,.l ds=>∃a xs,v=.ref a/\H a=some (.lst xs)/\aG H xs ds
def aG(H:Hp):List V->List D->Prop
 | xs,[]=>xs=[]
 | xs,d::ds=>∃v r,xs=v::r/\Rep H v d/\aG H r ds
end
mutual
def D.size:D->Nat
 | .n=>1
 | .i _=>1
 | .s _=>1
 | .t ds=>1+D.sizes ds
 | .l ds=>1+D.sizes ds
def D.sizes:List D->Nat
 | []=>0
 | d::ds=>D.size d+D.sizes ds
end
mutual
def D.flat:D->Prop
 | .n=>True
 | .i _=>True
 | .s _=>True
 | .t ds=>D.flats ds
 | .l _=>False
def D.flats:List D->Prop
 | []=>True
 | d::ds=>D.flat d/\D.flats ds
end
def cz(H H':Hp):Prop:=∀b xs,H b=some (.tup xs)->H' b=some (.tup xs)
def wJ(H H':Hp):Prop:=(∀b xs,H b=some (.tup xs)->H' b=some (.tup xs))/\∀b xs,H b=some (.lst xs)->H' b=some (.lst xs)
theorem bK.seqs{H H':Hp}(h:bK H H'):wJ H H':=⟨λb xs e=>h b _ e,λb xs e=>h b _ e⟩
theorem cz.trans{H H1 H2:Hp}(a:cz H H1)(b:cz H1 H2):cz H H2:=λc xs e=>b c xs (a c xs e)
mutual
theorem Rep.mono{H H':Hp}(h:wJ H H'):∀{d:D} {v:V},Rep H v d->Rep H' v d
 | .n,_,r=>by simpa only[Rep] using r
 | .i _,_,r=>by simpa only[Rep] using r
 | .s _,_,r=>by simpa only[Rep] using r
 | .t ds,_,r=>by simp only[Rep]at r ⊢;obtain⟨a,xs,e,z,rl⟩:=r;exact⟨a,xs,e,h.1 a xs z,aG.mono h rl⟩
 | .l ds,_,r=>by simp only[Rep]at r ⊢;obtain⟨a,xs,e,z,rl⟩:=r;exact⟨a,xs,e,h.2 a xs z,aG.mono h rl⟩
theorem aG.mono{H H':Hp}(h:wJ H H'):∀{ds:List D} {xs:List V},aG H xs ds->aG H' xs ds
 | [],_,r=>by simpa only[aG] using r
 | d::ds,_,r=>by simp only[aG]at r ⊢;obtain⟨v,q,e,z,rl⟩:=r;exact⟨v,q,e,Rep.mono h z,aG.mono h rl⟩
end
mutual
theorem Rep.aU{H H':Hp}(h:cz H H'):∀{d:D} {v:V},d.flat->Rep H v d->Rep H' v d
 | .n,_,_,r=>by simpa only[Rep] using r
 | .i _,_,_,r=>by simpa only[Rep] using r
 | .s _,_,_,r=>by simpa only[Rep] using r
 | .t ds,_,f,r=>by simp only[Rep]at r ⊢;simp only[D.flat]at f;obtain⟨a,xs,e,z,rl⟩:=r;exact⟨a,xs,e,h a xs z,aG.aU h f rl⟩
 | .l ds,_,f,r=>by simp only[D.flat]at f
theorem aG.aU{H H':Hp}(h:cz H H'):∀{ds:List D} {xs:List V},D.flats ds->aG H xs ds->aG H' xs ds
 | [],_,_,r=>by simpa only[aG] using r
 | d::ds,_,f,r=>by simp only[aG]at r ⊢;simp only[D.flats]at f;obtain⟨v,q,e,z,rl⟩:=r;exact⟨v,q,e,Rep.aU h f.1 z,aG.aU h f.2 rl⟩
end
theorem aG.length{H:Hp}:∀{ds:List D} {xs:List V},aG H xs ds->xs.length=ds.length
 | [],_,r=>by simp only[aG]at r;subst r;rfl
 | d::ds,_,r=>by simp only[aG]at r;obtain⟨v,q,rfl,_,rl⟩:=r;rw[length_cons,length_cons,aG.length rl]
theorem aG.append{H:Hp}:∀{ds es:List D} {xs ys:List V},aG H xs ds->aG H ys es->aG H (xs++ys) (ds++es)
 | [],_,_,_,r,q=>by simp only[aG]at r;subst r;exact q
 | d::ds,es,_,ys,r,q=>by simp only[aG]at r;obtain⟨v,x,rfl,z,rl⟩:=r;show aG H (v::(x++ys)) (d::(ds++es));simp only[aG];exact⟨v,_,rfl,z,aG.append rl q⟩
theorem aG.snoc{H:Hp}{ds:List D}{xs:List V}{v:V}{d:D}(r:aG H xs ds)(q:Rep H v d):aG H (xs++[v]) (ds++[d]):=
 r.append (by simp only[aG];exact⟨v,[],rfl,q,rfl⟩)
theorem aG.last{H:Hp}:∀{ds:List D} {xs:List V} {d:D},aG H xs (ds++[d])->∃ys v,xs=ys++[v]/\aG H ys ds/\Rep H v d
 | [],_,d,r=>by simp only[nil_append,aG]at r;obtain⟨v,q,rfl,z,rfl⟩:=r;exact⟨[],v,rfl,by simp only[aG],z⟩
 | e::ds,_,d,r=>by rw[cons_append,aG]at r;obtain⟨v,q,rfl,z,rl⟩:=r;obtain⟨ys,w,rfl,F,I⟩:=aG.last rl;exact⟨v::ys,w,rfl,by rw[aG];exact⟨v,ys,rfl,z,F⟩,I⟩
theorem D.oF:∀(a b:List D),D.sizes (a++b)=D.sizes a+D.sizes b
 | [],b=>by simp[D.sizes]
 | d::a,b=>by rw[cons_append,D.sizes,D.sizes,D.oF a b];lia
theorem D.size_pos:∀d:D,0<d.size
 | .n=>by simp[D.size]
 | .i _=>by simp[D.size]
 | .s _=>by simp[D.size]
 | .t _=>by rw[D.size];lia
 | .l _=>by rw[D.size];lia
theorem D.eE:∀ds:List D,ds.length<=D.sizes ds
 | []=>zero_le _
 | d::ds=>by rw[D.sizes,length_cons];have:=D.size_pos d;have:=D.eE ds;lia
theorem gh.here{P:Program}{w:World}{H:Hp}{h:Heap}{a:Addr}{o:HO}(x:gh P w H h a o):∃ob,h.get? a=some ob:=by
 cases o with
 | lst xs=>obtain⟨_,_,_,_,e⟩:=x;exact⟨_,e⟩
 | tup xs=>obtain⟨_,_,_,ob,e,_⟩:=x;exact⟨_,e⟩
 | dK kvs=>obtain⟨_,_,_,_,o,_,_,e,_⟩:=x;exact⟨_,e⟩
 | dT kvs=>obtain⟨_,_,_,_,o,_,_,e,_⟩:=x;exact⟨_,e⟩
 | set S n=>obtain⟨o,_,_,_,e,_⟩:=x;exact⟨_,e⟩
 | ins C dx fs=>obtain⟨_,_,_,e,_⟩:=x;exact⟨_,e⟩
 | own y=>exact x
 | xd fs=>obtain⟨_,⟨_,_,_,e,_⟩,_⟩:=x;exact⟨_,e⟩
 | rng lo hi=>obtain⟨_,_,_,e⟩:=x;exact⟨_,e⟩
 | frz ob u=>obtain⟨e,_⟩:=x;exact⟨_,e⟩
 | tbl ps=>exact⟨_,(show h.get? a=some _ from x)⟩
 | met f y=>exact⟨_,(show h.get? a=some _ from x)⟩
 | ext φ=>obtain⟨_,e,_⟩:=x;exact e
structure Fly(P:Program)(w:World)(B:Heap)(a0:Value)(l:List Env)(H:Hp)(s:Shared)(C:Value)(e:Addr)(H':Hp)(s':Shared):Prop where
 os:s'.os=s.os
 bare:AllBare s'.gens
 fresh:H' e=none
 fly:Heap.FlyingW B l e C a0 s'.heap
 slots:∀b∈frs l,∀o,s.heap.get? b=some o->∃sl,s'.heap.get? b=some {o with slots:=sl}
 kin:∀b o,s.heap.get? b=some o->H b=none->b∉frs l->B.get? b=some o
 trk:∀b u,H' b=some u->∃o,s'.heap.get? b=some o/\B.get? b=some o
 all:∀b o,s.heap.get? b=some o->b∉frs l->∃o',B.get? b=some o'
 free:∀b o,s.heap.get? b=some o->H b=none->H' b=none
 tups:∀b xs,H b=some (.tup xs)->H' b=some (.tup xs)
 Mh:∀b o u,H b=some (.frz o u)->H' b=some (.frz o u)
 Ou:∀b ps,H b=some (.tbl ps)->∃more,H' b=some (.tbl (ps++more))
 hok:J0 P w H' s'.heap
section
variable{P:Program}{w:World}{B:Heap}{a0:Value}{l:List Env}{H H':Hp}{s s':Shared}{C:Value}{e:Addr}{h':Heap}
theorem Fly.un(F:Fly P w B a0 l H s C e H' s'):Un (frs l) [] H H' s.heap s'.heap:=
 ⟨λb o q n I _=>F.fly.1 b o (F.kin b o q n I),λb o q _ I _=>F.slots b I o q,λb o q n _=>F.free b o q n,
  λb o q _=>by
   by_cases I:b∈frs l
   ·obtain⟨J,z⟩:=F.slots b I o q
    exact⟨_,z⟩
   ·obtain⟨o',z⟩:=F.all b o q I
    exact⟨o',F.fly.1 b o' z⟩,F.tups,F.Mh,F.Ou⟩
theorem aiJ(hok:J0 P w H' s'.heap)(k:∀b u,H' b=some u->∀o,s'.heap.get? b=some o->h'.get? b=some o):J0 P w H' h':=λa u q=>
 (hok a u q).stay (λb v F z=>by
   rcases F with rfl | F
   ·exact k b u q v z
   ·exact k b _ F v z) (λ_ z=>z) λ_ _ z=>z
theorem Fly.move(F:Fly P w B a0 l H s C e H' s')(J:Heap.FlyingW B l e C a0 h')(up:s'.heap.UpToSlots h'):Fly P w B a0 l H s C e H' {s' with heap:=h'}:=by
 refine⟨F.os,F.bare,F.fresh,J,λb W o q=>?_,F.kin,λb u q=>?_,F.all,F.free,F.tups,F.Mh,F.Ou,aiJ F.hok λb u q o z=>?_⟩;{obtain⟨sl,z⟩:=F.slots b W o q;obtain⟨_,o2,I,Y⟩:=F.fly.2.2.1.mem W;rw[z]at I;cases I;obtain⟨L,Z⟩:=up b _ z Y;exact⟨L,Z⟩};{obtain⟨o,O,I⟩:=F.trk b u q;exact⟨o,J.1 b o I,I⟩};{obtain⟨o',O,I⟩:=F.trk b u q;rw[z]at O;cases O;exact J.1 b o I}
end
section
variable{X:Cx}{pins:List (Addr×Obj)}{σ:St}{H H':Hp}{s s':Shared}{B:Heap}{a0 C:Value}{e:Addr}{h' h1:Heap}
theorem Inv.fly(I:Inv X pins σ H s)(F:Fly X.prog X.w B a0 X.stack H s C e H' s'):Inv X pins σ H' s':=
 I.call' (ch:=[]) F.os F.un F.hok F.bare (λb z=>absurd z (by simp))
structure Dw(X:Cx):Prop where
 st:X.stack=X.env::X.outer
 fr:X.env.frame=some X.env.locals
 ex:X.ex=[]
theorem Dw.frs(O:Dw X):L2.frs X.stack=X.env.locals::X.fs:=by
 rw[O.st];show filterMap _ (_::_)=_;rw[filterMap_cons,O.fr];rfl
theorem Dw.out(O:Dw X)(I:Inv X pins σ H s){b:Addr}{o:Obj}(q:X.s₀.heap.get? b=some o)(F:b∉L2.frs X.outer):b∉L2.frs X.stack:=λz=>by
 rw[O.frs]at z
 rcases mem_cons.mp z with z | z
 ·exact absurd (lt_of_lt_of_le (Heap.lt_size q) I.ok.above) (by rw[z];exact Nat.lt_irrefl _)
 ·exact F z
theorem Dw.nex(O:Dw X)(b:Addr):b∉X.ex:=by rw[O.ex];simp
theorem Fly.out(O:Dw X)(I:Inv X pins σ H s)(F:Fly X.prog X.w B a0 X.stack H s C e H' s')(Y:Heap.FlyingW B X.outer e C a0 h')(up:s'.heap.UpToSlots h') :
 Fly X.prog X.w B a0 X.outer X.H₀ X.s₀ C e H' {s' with heap:=h'}:=by
 have sub:∀b∈L2.frs X.outer,b∈L2.frs X.stack:=λb J=>by{rw[O.frs];exact mem_cons_of_mem _ J};refine⟨F.os.trans I.os,F.bare,F.fresh,Y,λb J o q=>?_,λb o q n J=>?_,λb u q=>?_,λb o q J=>?_,λb o q n=>?_,λb xs q=>F.tups b xs (I.base.tups b xs q),λb o u q=>F.Mh b o u (I.base.Mh b o u q),λb ps q=>?_,
  aiJ F.hok λb u q o z=>?_⟩
 ·obtain⟨sl,z⟩:=I.base.slot b o q (I.ok.frf b J) J (O.nex b);obtain⟨aa,W⟩:=F.slots b (sub b J) _ z;obtain⟨_,o2,L,nf⟩:=F.fly.2.2.1.mem (sub b J);rw[W]at L;cases L;obtain⟨Z,z3⟩:=up b _ W nf;exact⟨Z,z3⟩
 ·exact F.kin b o (I.base.keep b o q n J (O.nex b)) (I.base.free b o q n (O.nex b)) (O.out I q J)
 ·obtain⟨o,W,L⟩:=F.trk b u q;exact⟨o,Y.1 b o L,L⟩
 ·obtain⟨o',z⟩:=I.base.there b o q (O.nex b);exact F.all b o' z (O.out I q J)
 ·obtain⟨o',z⟩:=I.base.there b o q (O.nex b);exact F.free b o' z (I.base.free b o q n (O.nex b))
 ·obtain⟨m1,W⟩:=I.base.Ou b ps q;obtain⟨m2,L⟩:=F.Ou b _ W;exact⟨m1++m2,by rw[L,Array.append_assoc]⟩
 ·obtain⟨o',W,L⟩:=F.trk b u q;rw[z]at W;cases W;exact Y.1 b o L
theorem Inv.raised{vs:List Value}{A:Around}{E':Value->Shared->Prop}{M:Model}(I:Inv X pins σ H s)(O:Dw X)(Z:Heap.MadeExcOf s.heap h1 e C vs)(aa:A.frames=some (X.env::X.outer)) :
 wpAny M A (leaving X.env (.ref e)) (λ_ ac=>∃B a0,Fly X.prog X.w B a0 X.outer X.H₀ X.s₀ C e H ac) E' {s with heap:=h1}:=by
 have L:s.heap.FunFrames (hideAll s.heap (L2.frs X.stack)) (X.env::X.outer):=by{have q:=PySem.W.funFrames_hide (as:=L2.frs X.stack) I.stack λenv he b F=>mem_filterMap.mpr ⟨env,he,F⟩;rw[O.st]at q ⊢;exact q};have sub:∀b∈L2.frs X.outer,b∈L2.frs X.stack:=λb F=>by{rw[O.frs];exact mem_cons_of_mem _ F};refine wpAny_leaves_madeW (s:={s with heap:=h1}) (base:=hideAll s.heap (L2.frs X.stack)) (h:=s.heap) aa O.fr (λb o q=>PySem.W.of_hideAll _ q) L Z λh' t fl _ _ up=>⟨hideAll s.heap (L2.frs X.stack),.ref t,?_⟩;have Y:∀b u,H b=some u->∃o,s.heap.get? b=some o/\(hideAll s.heap (L2.frs X.stack)).get? b=some o:=λb u q=>by{obtain⟨o,z⟩:=(I.hok b u q).here;exact⟨o,z,PySem.W.hideAll_get _ z λF=>by rw[I.afj b F]at q;cases q⟩};refine⟨I.os,I.bare,?_,fl,λb F o q=>?_,λb o q n F=>?_,λb u q=>?_,λb o q F=>?_,λb o q n=>?_,λb xs q=>I.base.tups b xs q,λb o u q=>I.base.Mh b o u q,λb ps q=>I.base.Ou b ps q,?_⟩;{cases q:H e with| none=>rfl| some u=>obtain⟨o,z⟩:=(I.hok e u q).here;rw[Z.new]at z;cases z};{obtain⟨sl,z⟩:=I.base.slot b o q (I.ok.frf b F) F (O.nex b);obtain⟨_,o2,J,nf⟩:=I.stack.mem (sub b F);rw[z]at J;cases J;obtain⟨ae,z3⟩:=up b _ (Z.keeps b _ z) nf;exact⟨ae,z3⟩};{exact PySem.W.hideAll_get _ (I.base.keep b o q n F (O.nex b)) (O.out I q F)};{obtain⟨o,z1,J⟩:=Y b u q;exact⟨o,fl.1 b o J,J⟩};{obtain⟨o',z⟩:=I.base.there b o q (O.nex b);exact⟨o',PySem.W.hideAll_get _ z (O.out I q F)⟩};{obtain⟨o',z⟩:=I.base.there b o q (O.nex b);exact I.base.free b o q n (O.nex b)}
 ·exact λa u q=>(I.hok a u q).stay (λb v F z=>by
   have k:∀u',H b=some u'->h'.get? b=some v:=λu' q'=>by
    obtain⟨o,z1,J⟩:=Y b u' q'
    rw[z]at z1
    cases z1
    exact fl.1 b v J
   rcases F with rfl | F
   ·exact k u q
   ·exact k _ F) (λ_ z=>z) λ_ _ z=>z
end
def CX1(P:Program)(w:World):CXT:=λl H s E e s'=>∃B a0 C ea H',e=Value.ref ea/\Fly P w B a0 l H s C ea H' s'/\E C none H'
section
variable{P:Program}{w:World}{K:Frag}{mg:Str->Option Value}{base:Heap}{N:List Str}{qual:Str}{scope:Scope}{f:Addr}{cd:Value}{A:Around}{outer:List Env}{s:Shared}{H:Hp}{E:XK}
theorem avA:Dw (dj (CX1 P w) P w K mg base N qual scope f cd A outer s H E):=⟨rfl,rfl,rfl⟩
theorem Dy:Passes (CX1 P w) (dj (CX1 P w) P w K mg base N qual scope f cd A outer s H E) E:=by
 intro pins σ H1 s1 e s' I h;obtain⟨B,a0,C,J,H',rfl,F,O⟩:=h;have W:Heap.FlyingW B (envOfC qual scope s.heap.objs.size f cd::outer) J C a0 s'.heap:=F.fly;refine wpAny_leaves_onW (L:=s.heap.objs.size) I.ok.frames rfl W λh' z up=>?_;exact⟨B,a0,C,J,H',rfl,Fly.out avA I F z up,O⟩
def Raises(X:Cx)(E:XK):Prop:=∀(pins:List (Addr×Obj)) (σ:St) (H:Hp) (s:Shared) (h':Heap) (e C:Addr) (vs:List Value),Inv X pins σ H s->Heap.MadeExcOf s.heap h' e (.ref C) vs->E (.ref C) none H->X.xe (.ref e) {s with heap:=h'}
theorem O7:Raises (dj (CX1 P w) P w K mg base N qual scope f cd A outer s H E) E:=by
 intro pins σ H1 s1 h' e C vs I z J;refine gM (I.raised avA z I.ok.frames) λ_ L h2=>?_;obtain⟨B,a0,F⟩:=h2;exact⟨B,a0,_,e,_,rfl,F,J⟩
end
structure Exc(K:Frag)(C:Addr)(bm:List Value):Prop where
 obj:∀h:Heap,K.In h->∃N nm q bs hdct sn sub ab col dd k0 k1 k2 k3 k5 mN,h.get? C=some (excClassObj nm q C N bs bm hdct sn sub ab col dd k0 k1 k2 k3 k5 "ValueError.__new__")/\h.Ns N mN/\mN "__init__"=none/\
  OwnTail h [.type "ValueError",.type "Exception",.type "BaseException",.type "object"] bm
def mroIn(K:Frag)(C:Addr):Option (List Value):=match K.lookup C with
 | some ⟨_,_,.cls cd,_⟩=>some cd.mro
 | _=>none
theorem Td{K:Frag}{C:Addr}{bm:List Value}(q:PySem.W.excIn K C [.type "ValueError",.type "Exception",.type "BaseException",.type "object"] "ValueError.__new__"=true) (m:mroIn K C=some (.ref C::bm)):Exc K C bm:=by
 refine⟨λh X=>?_⟩;unfold PySem.W.excIn at q;unfold mroIn at m;split at q;{rename_i dd cd J L;rw[L]at m;split at q;{rename_i C' bm' k0 k1 k2 k3 n k5 O hs;simp only[Bool.and_eq_true,beq_iff_eq,Bool.not_eq_true']at q;obtain⟨⟨⟨⟨⟨rfl,rfl⟩,z⟩,Y⟩,hok⟩,F⟩:=q;obtain⟨nm,bs,Z,ns,qn,hd,sn,sub,ab,col,ac⟩:=cd;dsimp only at O z hok F m;subst O z;have e:bm'=bm:=by{injection m with m;injection m with m1 m2};subst e;have I:J = #[k0,k1,k2,k3,some (.builtin "ValueError.__new__"),k5]:=by{obtain⟨l⟩:=J;simp only at hs;rw[hs]};subst I;exact⟨ns,nm,qn,bs,hd,sn,sub,ab,col,dd,k0,k1,k2,k3,k5,_,X _ _ L,.of_isNs (PySem.W.isNs_of_in X hok),PySem.W.nsMap_none_of_in X hok F,PySem.W.tail_of_in X Y⟩};{cases q}};{cases q}
theorem Exc.base{K:Frag}{C:Addr}{bm:List Value}(O:Exc K C bm){h:Heap}(X:K.In h):bm.contains (.type "BaseException")=true:=by
 obtain⟨_,_,_,_,_,_,_,_,_,_,_,_,_,_,_,_,_,_,_,T⟩:=O.obj h X;exact T.hasType ∅
def awH(C:Value)(E:XK)(t:TA):TS:=λ_ σ H=>t σ H λvs H1=>vs.length<=sizeLine/\E C none H1
section
variable{X:Cx}{C:Addr}{bm:List Value}{x:Str}{np cpos pos:Pos}{e₀:Expr}{rest:List Expr}{t:TA}{E:XK}
theorem GP(O:Exc X.K C bm)(hg:Gl X x)(hm:X.mg x=some (.ref C))(hc:X.calm=true)(hr:Raises X E)(ha:PA X (e₀::rest) t)
 (Y:starEach (e₀::rest) X.env=(false,eval e₀ X.env)::starEach rest X.env:=by rfl) (J:(backTo cpos (starEach rest X.env)).any (·.1)=false:=by rfl) (L:(x == ("__debug__":Str))=false:=by decide) :
 PS X (.Raise (some (.Call (.Name x np) (e₀::rest) [] cpos)) none pos) (awH (.ref C) E t):=by
 intro pins s σ H D I h;obtain⟨N,nm,q,bs,hdct,sn,sub,ab,col,dd,k0,k1,k2,k3,k5,mN,hC,hN,W,T⟩:=O.obj _ I.ok.mod.kin;have FB:=PySem.F.excBase_ValueError;refine wpAny_Raise_call_subU (C:=C) (nm:=nm) (q:=q) (N:=N) (bs:=bs) (bm:=bm) (hdct:=hdct) (sn:=sn) (sub:=sub) (ab:=ab) (col:=col) (dd:=dd) (k0:=k0) (k1:=k1) (k2:=k2) (k3:=k3) (k5:=k5)
  FB ∅ FB (mN:=mN) (T.hasType FB.hasBase) (I.ok.hd hc) (by rw[Y];show(false || (backTo cpos (starEach rest X.env)).any (·.1))=false;rw[J];rfl) W (Az I hg hm ⟨rfl,?_⟩ L)
 have Z:=ha cpos pins s σ H _ I h;rw[Y]at Z ⊢;refine Calls.evalArgs_plain (gM Z λus s2 h2=>?_);obtain⟨vs,H2,z,rv,hz,hE⟩:=h2;exact⟨rfl,by rw[<-rv.length];exact hz,z.bk _ _ hC,hN.keeps z.bk,T.keeps z.bk,λh' e hx=>hr pins σ H2 s2 h' e C us z hx hE⟩
end
section
variable{M:Model}{A:Around}{E:Value->Shared->Prop}
theorem ZD{s:Shared}{C C':Addr}{bm bm':List Value}{K:Frag}(X:K.In s.heap)(O:Exc K C bm)(L:Exc K C' bm'){e:Addr}{W:Obj}{Q:Bool->Shared->Prop}(Y:s.heap.get? e=some W)(F:W.cls=.ref C)
 (Z:Q ((Value.ref C::bm).contains (.ref C')) s):wpAny M A (excMatches (.ref e) (.ref C')) Q E s:=by
 have hb:=L.base X;obtain⟨N,nm,q,bs,hdct,sn,sub,ab,col,dd,k0,k1,k2,k3,k5,mN,hC,_⟩:=O.obj _ X;obtain⟨N',ad,q',ae,af,ag,ah,ai,aj,ak,al,am,an,ao,ap,aq,z,_⟩:=L.obj _ X;obtain⟨h,g,d,t,os⟩:=s;dsimp only at Y hC z;have I:(Value.ref C'::bm').contains (.type "BaseException")=true:=by{rw[contains_cons,hb,Bool.or_true]};have f:=tc_notTuple;generalize J:(Value.ref C::bm).contains (.ref C')=b at Z;unfold excMatches;repeat (first | (with_reducible refine wpAny_loadPart_at Y ?_;rw[F]) | with_reducible refine wpAny_loadPart_at z ?_ | (with_reducible refine wpAny_isSubtype_exc z ?_;rw[I]) | (with_reducible refine wpAny_isSubtype_exc hC ?_;rw[J]) | wp_step)
 cases b<;>(wp_walk;exact Z)
end
def acF(X:Cx)(pl:List (Addr×Obj))(R:St->Value->Hp->Prop):Cx:=
 ({X with pn:=X.pn++pl}:Cx).wish λe s'=>∃pins σ H s,Inv ({X with pn:=X.pn++pl}:Cx) pins σ H s/\CX1 X.prog X.w X.stack H s (λC _ H'=>R σ C H') e s'
def aiK(X:Cx)(e:Addr):Cx:={X with A:=X.A.mark (some (.ref e)),calm:=false,xe:=λ_ _=>False}
section
variable{X:Cx}{pins pl:List (Addr×Obj)}{σ:St}{H H':Hp}{s s':Shared}{R:St->Value->Hp->Prop}{e:Addr}{D:Ends}{f:Flow}
theorem Inv.aDt(I:Inv X pl σ H s):Inv ({X with pn:=X.pn++pl}:Cx) [] σ H s:=
 ⟨⟨I.ok.mod,I.ok.kind,I.ok.glob,I.ok.blt,I.ok.above,I.ok.inj,I.ok.has,I.ok.cab,I.ok.hd,I.ok.frames,I.ok.stk,I.ok.exf,I.ok.bs,I.ok.bsz,I.ok.ais,I.ok.ak4,I.ok.Mi,I.ok.frf⟩,I.os,I.bare,I.base,I.loc,I.cell,I.free,I.wG,
  λp hp=>I.pin p (by rw[append_nil]at hp;exact hp),I.hok,I.len⟩
theorem Inv.az8(I:Inv ({X with pn:=X.pn++pl}:Cx) pins σ H s):Inv X pl σ H s:=
 ⟨⟨I.ok.mod,I.ok.kind,I.ok.glob,I.ok.blt,I.ok.above,I.ok.inj,I.ok.has,I.ok.cab,I.ok.hd,I.ok.frames,I.ok.stk,I.ok.exf,I.ok.bs,I.ok.bsz,I.ok.ais,I.ok.ak4,I.ok.Mi,I.ok.frf⟩,I.os,I.bare,I.base,I.loc,I.cell,I.free,I.wG,
  λp hp=>I.pin p (mem_append_left _ hp),I.hok,I.len⟩
theorem Inv.az9(I:Inv X pl σ H s):Inv (acF X pl R) [] σ H s:=I.aDt.wish _
theorem Inv.O8(I:Inv (acF X pl R) pins σ H s):Inv X pl σ H s:=(Inv.yp I).az8
theorem SP.O8(h:SP (acF X pl R) pins D f s'):SP X pl D f s':=by
 cases f with
 | next=>obtain⟨z,H',I,q⟩:=h;exact⟨z,H',I.O8,q⟩
 | brk=>obtain⟨z,H',I,q⟩:=h;exact⟨z,H',I.O8,q⟩
 | cont=>obtain⟨z,H',I,q⟩:=h;exact⟨z,H',I.O8,q⟩
 | ret u=>obtain⟨v,z,H',I,r,q⟩:=h;exact⟨v,z,H',I.O8,r,q⟩
theorem Inv.aiK(I:Inv X pins σ H s)(e:Addr):Inv (L2.aiK X e) pins σ H s:=
 ⟨⟨I.ok.mod,I.ok.kind,I.ok.glob,I.ok.blt,I.ok.above,I.ok.inj,I.ok.has,I.ok.cab,λz=>(nomatch (show false=true from z)),I.ok.frames,I.ok.stk,I.ok.exf,I.ok.bs,I.ok.bsz,I.ok.ais,I.ok.ak4,I.ok.Mi,I.ok.frf⟩,I.os,I.bare,I.base,I.loc,I.cell,I.free,I.wG,
  I.pin,I.hok,I.len⟩
theorem Inv.Te{X:Cx}(ok:X.Ok)(I:Inv (L2.aiK X e) pins σ H s):Inv X pins σ H s:=
 ⟨ok,I.os,I.bare,I.base,I.loc,I.cell,I.free,I.wG,I.pin,I.hok,I.len⟩
theorem SP.Te(ok:X.Ok)(h:SP (aiK X e) pins D f s'):SP X pins D f s':=by
 cases f with
 | next=>obtain⟨z,H',I,q⟩:=h;exact⟨z,H',I.Te ok,q⟩
 | brk=>obtain⟨z,H',I,q⟩:=h;exact⟨z,H',I.Te ok,q⟩
 | cont=>obtain⟨z,H',I,q⟩:=h;exact⟨z,H',I.Te ok,q⟩
 | ret u=>obtain⟨v,z,H',I,r,q⟩:=h;exact⟨v,z,H',I.Te ok,r,q⟩
end
def PH(X:Cx)(hs:List ExceptHandler)(th:Value->TS):Prop:=
 ∀(pins:List (Addr×Obj)) (σ:St) (H:Hp) (s:Shared) (B:Heap) (a0 C:Value) (e:Addr) (H':Hp) (s':Shared) (D:Ends),Inv X pins σ H s->Fly X.prog X.w B a0 X.stack H s C e H' s'->th C D σ H'->
  wpAny (model X.prog X.w) X.A (handleBy (.ref e) X.env hs) (SP X pins D) X.xe s'
def aDu(tb:(St->Value->Hp->Prop)->TS)(th:Value->TS):TS:=λD σ H=>tb (λσ' C H'=>th C D σ' H') D σ H
def aAa(K:Frag)(C':Addr)(ts:TS)(tr:Value->TS):Value->TS:=λC D σ H=>∃c bm,C=Value.ref c/\Exc K c bm/\if(Value.ref c::bm).contains (.ref C')=true then ts D σ H else tr C D σ H
section
variable{X:Cx}{body suite:List Stmt}{b₀:Stmt}{h₀:ExceptHandler}{hs rest:List ExceptHandler}{tb:(St->Value->Hp->Prop)->TS}{th tr:Value->TS}{ts:TS}{pos np:Pos}{x n:Str}{C':Addr}{bm':List Value}
theorem awI:PH X [] (λ_=>awl):=λ_ _ _ _ _ _ _ _ _ _ _ _ _ h=>h.elim
theorem awJ(O:Dw X)(hb:∀pl R,PSs (acF X pl R) body (tb R))(hh:PH X (h₀::hs) th):PS X (.Try body (h₀::hs) [] [] pos) (aDu tb th):=by
 intro pins s σ H D I h;refine wpAny_Try_except (wpAny_mono (hb pins _ [] s σ H D I.az9 h) (λf s1 h1=>?_) λe s1 h1=>?_);{cases f with| next=>exact wpAny_execs_nil (SP.O8 h1)| brk=>exact SP.O8 h1| cont=>exact SP.O8 h1| ret u=>exact SP.O8 h1};{obtain⟨ag,ad,H1,W,I2,B,a0,C,Y,H',rfl,F,q⟩:=h1;have z:Inv X pins ad H1 W:=I2.az8;have fr:X.A.frames=some (X.env::X.outer):=by{rw[<-O.st];exact z.ok.frames};have fl:Heap.FlyingW B (X.env::X.outer) Y C a0 s1.heap:=by{rw[<-O.st];exact F.fly};refine wpAny_looks_onW (L:=X.env.locals) fr O.fr fl λh2 J Z=>?_;refine wpAny_landsW J λh3 aa ac=>?_;have F3:Fly X.prog X.w B a0 X.stack H1 W C Y H' {s1 with heap:=h3}:=F.move (by rw[O.st];exact aa) (Z.trans ac);exact hh pins ad H1 W B a0 C Y H' _ D z F3 q}
theorem ZF(O:Dw X)(hg:Gl X x)(hm:X.mg x=some (.ref C'))(O':Exc X.K C' bm')(L:∀e,PSs (aiK X e) (b₀::suite) ts)(hr:PH X rest tr)(W:(x == ("__debug__":Str))=false:=by decide) :
 PH X (.ExceptHandler (some (.Name x np)) none (b₀::suite) pos::rest) (aAa X.K C' ts tr):=by
 intro pins σ H s B a0 C e H' s' D I F h;obtain⟨c,bm,rfl,Oc,q⟩:=h;have I':=I.fly F;obtain⟨ob,Y,J⟩:=F.fly.there;refine wpAny_handleBy_cons (codeAny_handlers_test (Az (X:=aiK X e) (I'.aiK e) hg hm ?_ W)) ⟨⟩;refine ZD I'.zr Oc O' Y J ?_;cases hb:(Value.ref c::bm).contains (.ref C')with| false=>rw[hb,if_neg Bool.false_ne_true]at q;exact hr pins σ H s B a0 _ e H' s' D I F q| true=>rw[hb,if_pos rfl]at q;refine codeAny_handlers_suite ?_;refine lands_againW F.fly λh3 Z aa=>?_;have I3:=I.fly (F.move Z aa);refine wpAny_mono (L e pins _ σ H' D (I3.aiK e) q) (λf s4 h4=>?_) λ_ _ z=>z.elim;exact SP.Te I.ok h4
end
def awK(C:Addr)(m:Str)(sp:Sp)(R:St->Value->Hp->Prop)(ta:TE)(t:TA):TE:=λσ H Q=>ta σ H λx H1=>∃a dx fs,x=.ref a/\H1 a=some (.ins C dx fs)/\fs.lookup m=none/\
 t σ H1 λvs H2=>sp (x::vs) H2 Q λC _ H'=>R σ C H'
section
variable{X:Cx}{pl:List (Addr×Obj)}{R:St->Value->Hp->Prop}{k:Nat}{f C:Addr}{fd:FuncData}{ps:List Str}{sp:Sp}{x m:Str}{p pos apos:Pos}{e o:Expr}{es:List Expr}{ta:TE}{t:TA}
theorem asG{pins:List (Addr×Obj)}{σ:St}{H:Hp}{s:Shared}{Q:VK}{us:List Value}{vs:List V}(F:cX X.prog X.w X.K X.mg X.base (CX1 X.prog X.w) k f fd ps sp)(L:bV k X.A)(O:Binds X.K fd ps [])
 (I:Inv (acF X pl R) pins σ H s) (r:Vals vs us) (h:sp vs H Q λC _ H'=>R σ C H'):wpAny (model X.prog X.w) X.A (call (.ref f) us) (EP (acF X pl R) pins σ Q) (acF X pl R).xe s:=by
 have hl:us.length=ps.length:=by{rw[<-r.length];exact F.len _ _ _ _ h};have z:=O s us I.zr (by rw[append_nil];exact hl);rw[append_nil]at z;refine wpAny_call (codeAny_mono (F.run X.A X.stack s H ⟨us,[]⟩ us vs Q _ L I.env0 z r h) λr s' J=>?_);cases r with| error e=>exact⟨pins,σ,H,s,I.yp,J⟩| ok W=>cases W with| ret u=>exact I.after J| next=>exact False.elim J| brk=>exact False.elim J| cont=>exact False.elim J
theorem apS{z:Sem Bool}(he:PE (acF X pl R) o ta)(c:Cls X.K C)(O:Meth X.K C m f)(F:cX X.prog X.w X.K X.mg X.base (CX1 X.prog X.w) k f fd ps sp)(hr:bV k X.A)(hb:Binds X.K fd ps [])(ha:PA (acF X pl R) (e::es) t)
 (J:starEach (e::es) X.env=(false,eval e X.env)::starEach es X.env:=by rfl) (L:(backTo pos (starEach es X.env)).any (·.1)=false:=by rfl)
 (ht:eval (.Call (.Attribute o m apos) (e::es) [] pos) X.env=(do
   let Y <-eval o X.env
   standAt apos.atName
   let (f,first) <-holding [Y] (getMethod Y m z)
   callWith pos f first (backTo pos (starEach (e::es) X.env)) (backToKw pos (keywordEach [] X.env))):=by rfl) :
 PE (acF X pl R) (.Call (.Attribute o m apos) (e::es) [] pos) (awK C m sp R ta t):=by
 intro pins s σ H Q I h;refine PySem.W.methodCall_KW (pl:=z) (gM (he pins s σ H _ I h) λu s1 hz=>lW hz λx H1 Z rx ⟨a,dx,fs,ex,ea,l,q⟩=>?_) ht;subst ex;obtain rfl:u=Value.ref a:=rx;refine Ml Z ea c O l ?_;refine PySem.W.callWith_K (first:=[.ref a]) (h₀:=X.base) I.ok.mod.kin O.kp (gM (ha pos pins s1 σ H1 _ Z q) λus s2 hz=>lW hz λvs H2 I2 r q2=>⟨I2.zr,?_⟩) J L;exact asG (us:=.ref a::us) (vs:=.ref a::vs) F hr hb I2 (.cons rfl r) q2
end
section
variable{P:Program}{w:World}{K:Frag}{mg:Str->Option Value}{base:Heap}
theorem jO.okX{x qual:Str}{st:Stmt}{f:Addr}{fd:FuncData}{N ps:List Str}{k:Nat}{sp:Sp}(F:jO K x qual st f fd)(S:bA N ps (aO st))(len:∀vs H Q E,sp vs H Q E->vs.length=ps.length)
 (I:∀(z:Value) (A:Around) (outer:List Env) (s:Shared) (H:Hp) (vs:List V) (Q:VK) (E:XK),bV k (A.deeper (envOfC qual (aO st) s.heap.objs.size f z))->sp vs H Q E->
   ∃t,PSs (dj (CX1 P w) P w K mg base N qual (aO st) f z A outer s H E) (Bf st) t/\t {nx:=λ_ H'=>Q .non H',rt:=Q} (start N vs) H):cX P w K mg base (CX1 P w) (k+1) f fd ps sp:=by
 obtain⟨oc,Z,kV,doc,pm,an,z,ct,O,rfl,W,J⟩:=F.ex;exact avw W J S len λA outer s H vs Q E Y L=>I z A outer s H vs Q E Y L
theorem Tf{CX:CXT}{N:List Str}{qual:Str}{scope:Scope}{f:Addr}{cd:Value}{A:Around}{outer:List Env}{s:Shared}{H:Hp}{E:XK}:Dw (dj CX P w K mg base N qual scope f cd A outer s H E).kE:=⟨rfl,rfl,rfl⟩
end
theorem aiL{prog:Program}{w:World}{A:Around}{R:Result->Shared->Prop}{s:Shared}{elt target iter:Expr}{ifs:List Expr}{scope:Scope}{pos:Pos}{J acc:Value}{env:Env}(I:Nat->Shared->Prop)
 (z:∀n s,I n s->wpAny (model prog w) A (pyNext J) (λr L=>match r with
   | none=>R (.ok .next) L
   | some v=>wpAny (model prog w) A (letOwnedTupleGo target J v) (λ_ F=>wpAny (model prog w) A (assign target env v) (λ_ Y=>
      wpAny (model prog w) A (forIn ifs true λc r=>if r=true then do let ok <-isTrue c env (eval c env);pure (ForInStep.yield ok)else pure (ForInStep.yield r)) (λok O=>
       if ok=true then wpAny (model prog w) A (eval elt env) (λx Z=>
        wpAny (model prog w) A (call (.builtin "list.append") [acc,x]) (λ_ aa=>∃m,m<n/\I m aa) (λ_ _=>False) Z) (λ_ _=>False) O
       else ∃m,m<n/\I m O) (λ_ _=>False) Y) (λ_ _=>False) F) (λ_ _=>False) L) (λ_ _=>False) s)
 (n:Nat) (h:I n s):codeAny (model prog w) A (.compLoop (.ListComp elt [⟨target,iter,ifs,0⟩] scope pos) 0 J acc env) R s:=by
 refine codeAny_loop rfl I (λn s hI=>?_) n h;show wpAny _ A ((compTurn (.ListComp elt [⟨target,iter,ifs,0⟩] scope pos) 0 J acc env).onRaise (λx=>do noteFrame x env;theTreesLotGoes x)) _ _ s;refine wpAny_noted ?_;rw[compTurn_list];refine wpAny_bind (wpAny_standAt (wpAny_bind (wpAny_mono (z n s hI) (λr L ac=>?_) λ_ _ h'=>h'.elim)));cases r with| none=>exact wpAny_pure ac| some v=>refine wpAny_bind (wpAny_mono ac (λ_ F W=>?_) λ_ _ h'=>h'.elim);refine wpAny_bind (wpAny_mono W (λ_ Y af=>wpAny_bind (wpAny_mono af (λok O ad=>?_) λ_ _ h'=>h'.elim)) λ_ _ h'=>h'.elim);cases ok with| false=>exact wpAny_pure ⟨rfl,ad⟩| true=>exact wpAny_bind (wpAny_bind (wpAny_mono ad (λx Z ag=>wpAny_bind (wpAny_mono ag (λ_ aa ah=>wpAny_pure (wpAny_pure ⟨rfl,ah⟩)) λ_ _ h'=>h'.elim)) λ_ _ h'=>h'.elim))
def Wz(env:Env)(ys:List Str):List (Str×Addr):=ys.filterMap λy=>(env.cells.lookup y).map λc=>(y,c)
theorem iI{env:Env}:∀{ys:List Str} {x:Str} {c:Addr},(Wz env ys).lookup x=some c->x∈ys/\env.cells.lookup x=some c
 | [],_,_,h=>by simp[Wz]at h
 | y::ys,x,c,h=>by
   unfold Wz at h;rw[filterMap_cons]at h;cases e:env.cells.lookup y with
   | none=>rw[e]at h;obtain⟨h1,h2⟩:=iI (ys:=ys) (x:=x) (c:=c) h;exact⟨mem_cons_of_mem _ h1,h2⟩
   | some d=>rw[e]at h;change List.lookup x ((y,d)::Wz env ys)=some c at h;rw[lookup_cons]at h;cases z:x == y with| true=>rw[z]at h;cases h;have q:x=y:=by{simpa using z};subst q;exact⟨mem_cons_self,e⟩| false=>rw[z]at h;obtain⟨h1,h2⟩:=iI (ys:=ys) (x:=x) (c:=c) h;exact⟨mem_cons_of_mem _ h1,h2⟩
theorem ZG{env:Env}:∀{ys:List Str} {x:Str} {c:Addr},x∈ys->env.cells.lookup x=some c->(Wz env ys).lookup x=some c
 | [],_,_,h,_=>by simp at h
 | y::ys,x,c,h,e=>by unfold Wz;rw[filterMap_cons];by_cases q:x=y;{subst q;rw[e];show List.lookup x ((x,c)::_)=some c;rw[lookup_cons];simp};{have h':x∈ys:=(mem_cons.mp h).resolve_left q;have z:=ZG (env:=env) h' e;cases F:env.cells.lookup y with| none=>exact z| some d=>show List.lookup x ((y,d)::Wz env ys)=some c;rw[lookup_cons];have:(x == y)=false:=by{simpa using q};rw[this];exact z}
def Bg(X:Cx):List Str->List Nat->Prop
 | [],[]=>True
 | y::ys,j::js=>(X.N[j]? = some y/\(X.env.kindOf y=some .cell\/X.env.kindOf y=some .free))/\Bg X ys js
 | _,_=>False
def pick(σ:St)(js:List Nat):St:=js.map λj=>(σ[j]?).getD none
structure zx(X:Cx)(scope:Scope)(xs ys:List Str)(js:List Nat):Prop where
 kind:scope.kind=.function
 names:∀p∈scope.names,(p.2=.local/\scope.names.lookup p.1=some .local)\/(p.2=.free/\p.1∈ys/\scope.names.lookup p.1=some .free)\/(p.2=.globalImplicit/\scope.names.lookup p.1=some .globalImplicit)
 own:∀x∈xs,scope.names.lookup x=some .local
 frees:∀y∈ys,scope.names.lookup y=some .free
 clos:closureFor scope X.env=pure (Wz X.env ys)
 fr:Bg X ys js
def blk(X:Cx)(scope:Scope)(xs ys:List Str)(C:Addr)(s₀:Shared)(H₀:Hp)(fp:List Addr)(pl:List (Addr×Obj)):Cx:=
 {X with N:=xs++ys,s₀:=s₀,H₀:=H₀,env:=compEnvC scope (Wz X.env ys) C X.env,outer:=X.stack,ex:=fp,fn:=λy=>xs.contains y,pn:=X.pn++pl,xe:=λ_ _=>False}
def aAb(X:Cx)(pins:List (Addr×Obj))(H:Hp)(C:Addr):Prop:=
 H C=none/\C≠X.env.locals/\X.s₀.heap.objs.size<=C/\(∀x c,X.env.cells.lookup x=some c->c≠C)/\∀p∈X.pn++pins,p.1≠C
theorem Inv.let_go{X:Cx}{pins:List (Addr×Obj)}{σ:St}{H:Hp}{s:Shared}{C:Addr}{h':Heap}(I:Inv X pins σ H s)(j:aAb X pins H C)(hs:Heap.SameBut C s.heap h'):Inv X pins σ H {s with heap:=h'}:=
 I.turned (t':=s.toks) (λb _ z e=>(hs.2 b z).trans e) j.1 j.2.1 (.inr j.2.2.1) j.2.2.2.1 j.2.2.2.2
def GQ(J:It)(g:TG)(tc:TT)(te:TE)(σ:St)(acc:Addr)(H1:Hp)(Q:VK):Prop:=
 ∃W:Nat->Nat->List V->St->Hp->Prop,(∃m,W 0 m [] σ (upd H1 acc (.lst [])))/\∀i m zs σ H2,W i m zs σ H2->H2 acc=some (.lst zs)/\
  ((J.stop i H2/\Q (.ref acc) H2)\/(J.go i H2/\∀y H3,J.yld i H2 y H3->g y σ H3 λσ4 H4=>tc σ4 H4 λb H5=>if b=true then te σ4 H5 λz H6=>H6 acc=some (.lst zs)/\zs.length<sizeLine/\∃m',m'<m/\W (i+1) m' (zs++[z]) σ4 (upd H6 acc (.lst (zs++[z])))
    else ∃m',m'<m/\W (i+1) m' zs σ4 H5))
def avB(wi:TI)(n:Nat)(js:List Nat)(g:TG)(tc:TT)(te:TE):TE:=λσ H Q=>wi σ H λJ H1=>∀acc,H1 acc=none->GQ J g tc te (replicate n none++pick σ js) acc H1 Q
def apU(X:Cx)(ifs:List Expr)(tc:TT):Prop:=
 ∀(pins:List (Addr×Obj)) (s:Shared) (σ:St) (H:Hp) (Q:Bool->Hp->Prop),Inv X pins σ H s->tc σ H Q->
  wpAny (model X.prog X.w) X.A (forIn ifs true λc r=>if r=true then do let ok <-isTrue c X.env (eval c X.env);pure (ForInStep.yield ok)else pure (ForInStep.yield r)) (TP X pins σ Q) X.xe s
def aob:TT:=λ_ H Q=>Q true H
theorem oG{X:Cx}:apU X [] aob:=λ_ _ _ H _ I h=>wpAny_tests_nil ⟨H,I,h⟩
theorem afq{X:Cx}{c:Expr}{tc:TT}(h:PT X c tc):apU X [c] tc:=λpins s σ H Q I q=>wpAny_tests_one (h pins s σ H Q I q)
section
variable{X:Cx}{scope:Scope}{xs ys:List Str}{js:List Nat}{elt target iter:Expr}{ifs:List Expr}{pos px:Pos}{wi:TI}{g:TG}{tc:TT}{te:TE}
theorem Bg.get:∀{ys:List Str} {js:List Nat} {i:Nat} {y:Str},Bg X ys js->ys[i]? = some y->∃j,js[i]? = some j/\X.N[j]? = some y/\(X.env.kindOf y=some .cell\/X.env.kindOf y=some .free)
 | [],_,_,_,_,h=>by simp at h
 | _::_,[],_,_,f,_=>f.elim
 | y'::ys,j::js,0,y,f,h=>by have e:y'=y:=by{simpa using h};subst e;exact⟨j,rfl,f.1⟩
 | y'::ys,j::js,i+1,y,f,h=>by obtain⟨z,h1,h2⟩:=Bg.get (i:=i) (y:=y) f.2 (by simpa using h);exact⟨z,by simpa using h1,h2⟩
theorem Bg.len:∀{ys:List Str} {js:List Nat},Bg X ys js->ys.length=js.length
 | [],[],_=>rfl
 | [],_::_,f=>f.elim
 | _::_,[],f=>f.elim
 | _::ys,_::js,f=>by simp[Bg.len f.2]
theorem tV{env:Env}:∀{names:List (Str×NameKind)} {x:Str},names.lookup x=some .free->
 (names.map λ(n,k)=>if(k == NameKind.free && env.scope.kind == .function && env.kindOf n == some .cell)then(n,NameKind.cell)else(n,k)).lookup x=some .cell\/
 (names.map λ(n,k)=>if(k == NameKind.free && env.scope.kind == .function && env.kindOf n == some .cell)then(n,NameKind.cell)else(n,k)).lookup x=some .free
 | [],_,h=>by simp at h
 | (n,k)::r,x,h=>by
   have I := @tV env r x
   show List.lookup x ((if(k == NameKind.free && env.scope.kind == .function && env.kindOf n == some .cell)=true then(n,NameKind.cell)else(n,k))::_)=_\/List.lookup x ((if(k == NameKind.free && env.scope.kind == .function && env.kindOf n == some .cell)=true then(n,NameKind.cell)else(n,k))::_)=_
   cases z:x == n with
   | true=>
     simp only[lookup_cons,z]at h
     cases h
     by_cases F:(NameKind.free == NameKind.free && env.scope.kind == .function && env.kindOf n == some .cell)=true
     ·rw[if_pos F];left;simp[lookup_cons,z]
     ·rw[if_neg F];right;simp[lookup_cons,z]
   | false=>
     simp only[lookup_cons,z]at h
     by_cases F:(k == NameKind.free && env.scope.kind == .function && env.kindOf n == some .cell)=true
     ·rw[if_pos F];simp only[lookup_cons,z];exact I h
     ·rw[if_neg F];simp only[lookup_cons,z];exact I h
theorem GR{env:Env}:∀{names:List (Str×NameKind)} {x:Str} {k:NameKind},(names.map λ(n,k)=>if(k == NameKind.free && env.scope.kind == .function && env.kindOf n == some .cell)then(n,NameKind.cell)else(n,k)).lookup x=some k->
 ∃p∈names,p.1=x/\(p.2=k\/(p.2=.free/\k=.cell))
 | [],_,_,h=>by simp at h
 | (n,k')::r,x,k,h=>by
   have h:List.lookup x ((if(k' == NameKind.free && env.scope.kind == .function && env.kindOf n == some .cell)=true then(n,NameKind.cell)else(n,k'))::_)=some k:=h
   have I := @GR env r x k
   by_cases F:(k' == NameKind.free && env.scope.kind == .function && env.kindOf n == some .cell)=true
   ·rw[if_pos F,lookup_cons]at h
    cases z:x == n with
    | true=>
      rw[z]at h
      cases h
      refine⟨(n,k'),mem_cons_self,(by simpa using z:x=n).symm,Or.inr ⟨?_,rfl⟩⟩
      rw[Bool.and_eq_true,Bool.and_eq_true]at F
      simpa using F.1.1
    | false=>
      rw[z]at h
      obtain⟨p,h1,h2⟩:=I h
      exact⟨p,mem_cons_of_mem _ h1,h2⟩
   ·rw[if_neg F,lookup_cons]at h
    cases z:x == n with
    | true=>
      rw[z]at h
      cases h
      exact⟨(n,k'),mem_cons_self,(by simpa using z:x=n).symm,Or.inl rfl⟩
    | false=>
      rw[z]at h
      obtain⟨p,h1,h2⟩:=I h
      exact⟨p,mem_cons_of_mem _ h1,h2⟩
theorem aoc{pins:List (Addr×Obj)}{σ:St}{H:Hp}{s:Shared}{h':Heap}{Y:List Addr}{tk:Nat}(S:zx X scope xs ys js)(I:Inv X pins σ H s)(Z:∀b∈Y,Ow X pins H b)(hfl:∀b∈Y,b<s.heap.objs.size)
 (hn:h'.Ns s.heap.objs.size λ_=>none) (k:∀b o,s.heap.get? b=some o->h'.get? b=some o) :
 Inv (blk X scope xs ys s.heap.objs.size s H Y pins) [] (replicate xs.length none++pick σ js) H {s with heap:=h',toks:=tk}:=by
 have ac:∀a,s.heap.objs.size<=a->H a=none:=λa ha=>I.hok.fresh ha;have ad:∀b∈Y,b∉L2.frs X.stack:=λb O z=>by{rcases mem_cons.mp (I.Zi b z)with e | e;{exact(Z b O).2.1 e};{exact(Z b O).2.2.1 e}};have ae:∀x,((relabel scope X.env).names.lookup x=some .cell\/(relabel scope X.env).names.lookup x=some .free)->x∈ys:=λx hx=>by{rcases hx with z | z;{obtain⟨p,hp,e,z⟩:=GR z;rcases S.names p hp with ⟨h1,_⟩ | ⟨_,h2,_⟩ | ⟨h1,_⟩;{rcases z with z | z;{rw[h1]at z;cases z};{rw[h1]at z;cases z.1}};{rw[<-e];exact h2};{rcases z with z | z;{rw[h1]at z;cases z};{rw[h1]at z;cases z.1}}};{obtain⟨p,hp,e,z⟩:=GR z;rcases S.names p hp with ⟨h1,_⟩ | ⟨_,h2,_⟩ | ⟨h1,_⟩;{rcases z with z | z;{rw[h1]at z;cases z};{cases z.2}};{rw[<-e];exact h2};{rcases z with z | z;{rw[h1]at z;cases z};{cases z.2}}}};refine⟨⟨I.ok.mod,S.kind,I.ok.glob,I.ok.blt,Nat.le_refl _,λx y c h1 h2=>I.ok.inj x y c (iI h1).2 (iI h2).2,λx hx=>?_,λx c h1 h2=>?_,I.ok.hd,I.ok.frames,.inl rfl,λb O=>⟨?_,λx c e=>(Z b O).2.2.2.2.1 x c (iI e).2⟩,
  I.bs,Nat.le_trans I.ok.bsz I.sz,λb o e z=>?_,ad,I.stack,I.afj⟩,rfl,I.bare,Un.kept k,⟨_,hn,λi y v e1 J e3=>?_⟩,λx c e=>?_,ac _ (Nat.le_refl _),λx c e=>?_,λp hp=>?_,I.hok.kept k,?_⟩
 ·have q:x∈ys:=ae x hx;obtain⟨i,hi⟩:=getElem?_of_mem q;obtain⟨j,_,_,hk⟩:=S.fr.get hi;obtain⟨c,hc⟩:=I.ok.has x hk;exact⟨c,ZG q hc⟩
 ·have q:=(iI h2).1;have ah:x∈xs:=by{have:xs.contains x=true:=h1;simpa using this};have a:=S.own x ah;have b:=S.frees x q;rw[a]at b;cases b
 ·intro z;have W:b=s.heap.objs.size:=z;have:=hfl b O;rw[W]at this;exact Nat.lt_irrefl _ this
 ·rcases (Z b z).2.2.2.1 with q | q;{exact I.ok.ais b o e q};{exact absurd (lt_of_lt_of_le (Heap.lt_size (I.ok.bs b o e).1) q) (Nat.lt_irrefl _)}
 ·have F:(xs++ys)[i]? = some y:=e1;by_cases hi:i<xs.length;{rw[getElem?_append_left (by rw[length_replicate];exact hi),getElem?_replicate]at J;split at J<;>cases J};{rw[getElem?_append_right (by lia)]at F;rw[getElem?_append_right (by rw[length_replicate];lia),length_replicate]at J;obtain⟨j,hj,hN,hk⟩:=S.fr.get F;unfold pick at J;rw[getElem?_map,hj]at J;have e4:σ[j]? = some (some v):=by{have e5:(σ[j]?).getD none=some v:=by{simpa using J};cases q:σ[j]? with| none=>rw[q]at e5;cases e5| some o=>rw[q]at e5;simpa using e5};have ai:Vis X.env.scope y:=by{rcases hk with z | z;{exact .inr (.inl z)};{exact .inr (.inr z)}};obtain⟨m0,_,hl⟩:=I.loc;obtain⟨u,ru,lk⟩:=hl j y v hN e4 ai;refine⟨u,ru,.inr ⟨?_,?_⟩⟩;{exact tV (S.frees y (mem_of_getElem? F))};{rcases lk with ⟨z,_⟩ | ⟨_,c,hc,L⟩;{rcases hk with q | q;{rw[q]at z;cases z};{rw[q]at z;cases z}};{exact⟨c,ZG (mem_of_getElem? F) hc,L.keeps k⟩}}}
 ·obtain⟨v,z⟩:=I.cell x c (iI e).2;exact⟨v,z.keeps k⟩
 ·exact I.wG x c (iI e).2
 ·have aj:p∈X.pn++pins:=by{have:p∈(X.pn++pins)++[]:=hp;rwa[append_nil]at this};obtain⟨e,n,ne,nf,d⟩:=I.pin p aj;refine⟨k _ _ e,n,λz=>?_,λz=>?_,d⟩;{have W:p.1=s.heap.objs.size:=z;exact absurd (Heap.lt_size e) (by rw[W];exact Nat.lt_irrefl _)};{have W:p.1∈L2.frs X.stack:=z;rcases mem_cons.mp (I.Zi _ W)with q | q;{exact ne q};{exact nf q}}
 ·show(replicate xs.length none++pick σ js).length=(xs++ys).length;rw[length_append,length_append,length_replicate];unfold pick;rw[length_map,S.fr.len]
theorem aiM{pins:List (Addr×Obj)}{σ:St}{H2:Hp}{F:Shared}{J:It}{O:List Addr}{it:Addr}{tn:Nat->Heap->Prop}{Q:VK}(S:zx X scope xs ys js)(hc:X.calm=true)(I2:Inv X pins σ H2 F)(T:Turn X.prog X.w X.K target J O it tn)(ap:tn 0 F.heap)
 (f2:∀b∈O,Ow X pins H2 b) (hg:∀C s₀ H₀ O pl,PG (blk X scope xs ys C s₀ H₀ O pl) target g) (hi:∀C s₀ H₀ O pl,apU (blk X scope xs ys C s₀ H₀ O pl) ifs tc) (he:∀C s₀ H₀ O pl,PE (blk X scope xs ys C s₀ H₀ O pl) elt te)
 (rd:∀acc,H2 acc=none->GQ J g tc te (replicate xs.length none++pick σ js) acc H2 Q) {RR:Value->Addr->Result->Shared->Prop}
 (aJ:∀acc C H' s' m,s'.heap.Ns C m->Inv X pins σ H' s'->aAb X pins H' C->Q (.ref acc) H'->RR (.ref acc) C (.ok .next) s') :
 wpAny (model X.prog X.w) X.A (newList []) (λacc bn=>wpAny (model X.prog X.w) X.A (newFunctionEnv scope X.env.globals (Wz X.env ys) [] X.env.qual none .none (some X.env)) (λac aq=>
  codeAny (model X.prog X.w) X.A (.compStart (.ListComp elt [⟨target,iter,ifs,0⟩] scope pos) 0 (.ref it) acc {ac with scope:=relabel scope X.env}) (RR acc ac.locals) aq) X.xe bn) X.xe F:=by
 have aK:H2 F.heap.objs.size=none:=I2.hok.fresh (Nat.le_refl _);obtain⟨W,⟨m0,w0⟩,ar⟩:=rd _ aK;have af:∀y∈scope.names,y.2≠.cell:=λy hy z=>by{rcases S.names y hy with ⟨q,_⟩ | ⟨q,_⟩ | ⟨q,_⟩<;>rw[q]at z<;>cases z};refine wpAny_newObj_type (wpAny_newFunctionEnv af (by intro y hy;simp at hy) (λas Y Z=>?_) S.kind);dsimp only at Y Z ⊢;have I3:Inv X pins σ (upd H2 F.heap.objs.size (.lst [])) {F with heap:=F.heap.push {cls:=.type "list",dict:=none,data:=.seq ([]:List Value).toArray},toks:=F.toks}:=I2.awy (its:=[]) .nil (zero_le _);generalize au:({F with heap:=F.heap.push {cls:=.type "list",dict:=none,data:=.seq ([]:List Value).toArray},toks:=F.toks}:Shared)=L at I3;have ag:F.heap.push {cls:=.type "list",dict:=none,data:=.seq ([]:List Value).toArray}=L.heap:=by{rw[<-au]};rw[ag]at Y Z ⊢;have ah:∀b∈O,b<F.heap.objs.size:=λb I=>by{obtain⟨o,e,_⟩:=T.obj 0 _ ap b I;exact Heap.lt_size e};have av:L.heap.objs.size=F.heap.objs.size+1:=by{rw[<-ag,Heap.size_push]};have f3:∀b∈O,Ow X pins (upd H2 F.heap.objs.size (.lst [])) b:=λb I=>by{obtain⟨a1,a2⟩:=f2 b I;exact⟨by rw[az (ne_of_lt (ah b I))];exact a1,a2⟩};have k3:∀b o,L.heap.get? b=some o->as.get? b=some o:=λb o e=>Z.extBut b o (ne_of_lt (Heap.lt_size e)) (Heap.get?_push_of_some _ e);have IB:=aoc (tk:=L.toks) S I3 f3 (λb I=>by rw[av];exact Nat.lt_succ_of_lt (ah b I)) (by simpa using Y) k3;have aw:tn 0 as:=T.keep 0 _ _ ap λb I o e=>k3 b o (by rw[<-ag];exact Heap.get?_push_of_some _ e);have aa:∀{H':Hp},(∀b∈O,H' b=none)->∀b∈O,Ow (blk X scope xs ys L.heap.objs.size L (upd H2 F.heap.objs.size (.lst [])) O pins) [] H' b:=λ{H'} hn b I=>by{obtain⟨a1,a2,a3,a4,a5,a6⟩:=f3 b I;refine⟨hn b I,λz=>?_,λz=>?_,.inl I,λx c e=>a5 x c (iI e).2,λp hp=>a6 p ?_⟩;{have z':b=L.heap.objs.size:=z;have:=ah b I;rw[z',av]at this;exact absurd this (Nat.not_lt.mpr (le_succ _))};{have z':b∈L2.frs X.stack:=z;rcases mem_cons.mp (I3.Zi _ z')with q | q;{exact a2 q};{exact a3 q}};{have:p∈(X.pn++pins)++[]:=hp;rwa[append_nil]at this}};have ae:∀aq:Shared,aq={L with heap:=as,toks:=L.toks}->
  codeAny (model X.prog X.w) X.A (.compLoop (.ListComp elt [⟨target,iter,ifs,0⟩] scope pos) 0 (.ref it) (.ref F.heap.objs.size) (compEnvC scope (Wz X.env ys) L.heap.objs.size X.env)) (RR (.ref F.heap.objs.size) L.heap.objs.size) aq:=by
  rintro aq rfl
  refine aiL (λn s'=>∃i zs ax H',Inv (blk X scope xs ys L.heap.objs.size L (upd H2 F.heap.objs.size (.lst [])) O pins) [] ax H' s'/\tn i s'.heap/\(∀b∈O,H' b=none)/\W i n zs ax H') ?_ m0 ⟨0,[],_,_,IB,aw,λb I=>(f3 b I).1,w0⟩
  rintro n s5 ⟨i,zs,aE,H5,I5,aA,aB,w5⟩
  obtain⟨be,tt⟩:=ar i n zs aE H5 w5
  rcases tt with ⟨stop,qn⟩ | ⟨go,step⟩
  ·refine gM (T.done (blk X scope xs ys L.heap.objs.size L (upd H2 F.heap.objs.size (.lst [])) O pins) rfl rfl rfl hc i [] s5 aE H5 _ I5 (aa aB) aA stop) λr s6 ⟨hr,I6⟩=>?_
   subst hr
   obtain⟨m,hm,_⟩:=I6.loc
   have aR:Inv X pins σ H5 s6:=I3.call' (ch:=O) I6.os I6.base I6.hok I6.bare λb I=>⟨(f3 b I).2.2.2.1,(f3 b I).2.1,(f3 b I).2.2.2.2.1,(f3 b I).2.2.2.2.2⟩
   refine aJ _ _ H5 s6 m hm aR ⟨I6.free,Nat.ne_of_gt I3.lt,I3.sz,λx c e z=>?_,λp hp z=>?_⟩ qn
   ·obtain⟨v,q⟩:=I3.cell x c e
    have:=q.lt
    rw[z]at this
    exact Nat.lt_irrefl _ this
   ·have:=Heap.lt_size (I3.pin p hp).1
    rw[z]at this
    exact Nat.lt_irrefl _ this
  ·refine gM (T.item (blk X scope xs ys L.heap.objs.size L (upd H2 F.heap.objs.size (.lst [])) O pins) rfl rfl rfl hc i [] s5 aE H5 _ I5 (aa aB) aA go) λr s6 ⟨u,hr,h6⟩=>?_
   subst hr
   refine gM h6 λ_ s7 hz=>lW hz λx H7 I7 r7 ⟨y7,aj,aS⟩=>?_
   have aT:=I7.pinned (aa aS) (T.obj _ _ aj)
   refine gM (hg _ _ _ _ _ _ s7 aE H7 x u _ aT r7 (step x H7 y7)) λ_ s8 hz=>ex4 hz λaU H8 I8 q8=>?_
   have again:∀{zs':List V} {aF:St} {H9:Hp} {s9:Shared},Inv (blk X scope xs ys L.heap.objs.size L (upd H2 F.heap.objs.size (.lst [])) O pins) ([]++Zm O s7.heap) aF H9 s9->(∃m',m'<n/\W (i+1) m' zs' aF H9)->
    ∃m,m<n/\∃i zs ax H',Inv (blk X scope xs ys L.heap.objs.size L (upd H2 F.heap.objs.size (.lst [])) O pins) [] ax H' s9/\tn i s9.heap/\(∀b∈O,H' b=none)/\W i m zs ax H':=λ{zs' aF H9 s9} I9 ⟨m',hm,w9⟩=>by
    refine⟨m',hm,i+1,zs',aF,H9,I9.Ox,T.keep _ _ _ aj λb I o e=>(I9.pin (b,o) (mem_append_right _ (mem_append_right _ (Bb I e)))).1,λb I=>?_,w9⟩
    obtain⟨o,e,d⟩:=T.obj _ _ aj b I
    exact(I9.pin (b,o) (mem_append_right _ (mem_append_right _ (Bb I e)))).2.1
   refine gM (hi _ _ _ _ _ _ s8 aU H8 _ I8 q8) λok s9 hz=>ex3 hz λH9 I9 q9=>?_
   cases ok with
   | false=>
     rw[if_neg Bool.false_ne_true]at q9 ⊢
     exact again I9 q9
   | true=>
     rw[if_pos rfl]at q9 ⊢
     refine gM (he _ _ _ _ _ _ s9 aU H9 _ I9 q9) λz aV hz=>lW hz λzv aC aW rz ⟨aX,aY,aZ⟩=>?_
     refine gM (cu _ aV aU aC (.ref F.heap.objs.size) [zv] (.ref F.heap.objs.size) [z] (λ_ aD=>aD=upd aC F.heap.objs.size (.lst (zs++[zv]))) aW rfl (.cons rz .nil) ⟨_,zs,zv,rfl,rfl,aX,aY,rfl⟩) λ_ bK hz=>lW hz λ_ aD a7 _ a8=>?_
     subst a8
     exact again a7 aZ
 have e4:({F with heap:=as,toks:=F.toks+([]:List (Str×Value)).length}:Shared)={L with heap:=as,toks:=L.toks}:=by{rw[<-au];rfl};exact codeAny_compStart_list (ae _ e4) (T.self X.A 0 _ _ _ aw (ae _ e4))
theorem mO(S:zx X scope xs ys js)(O:X.calm=true)(W:PI X target iter wi)(Y:∀C s₀ H₀ z pl,PG (blk X scope xs ys C s₀ H₀ z pl) target g)(hi:∀C s₀ H₀ z pl,apU (blk X scope xs ys C s₀ H₀ z pl) ifs tc)(Z:∀C s₀ H₀ z pl,PE (blk X scope xs ys C s₀ H₀ z pl) elt te)
 (hs:∀x,foldedSetIterable iter X.env x=pure x:=by intro _;rfl):PE X (.ListComp elt [⟨target,iter,ifs,0⟩] scope pos) (avB wi xs.length js g tc te):=by
 intro pins s σ H Q I h;rw[eval_ListComp];refine wpAny_comprehension_free (use:=none) rfl hs S.clos S.kind (λx hx hl=>?_) (gM (W pins s σ H _ I h) λv s1 h1=>gM h1 λac s2 h2=>?_);{rcases S.names x hx with ⟨_,q⟩ | ⟨q,_⟩ | ⟨q,_⟩;{exact q};{rw[q]at hl;cases hl};{rw[q]at hl;cases hl}};obtain⟨it,z,tn,J,H2,e,I2,T,F,f2,rd⟩:=h2;subst e;refine aiM (RR:=λacc C=>compPost (model X.prog X.w) X.A X.xe none (EP X pins σ Q) acc C) S O I2 T F f2 Y hi Z rd λacc C H' s' m hm I' jk q=>?_;exact⟨m,hm,λh' L=>⟨.ref acc,H',I'.let_go jk L,rfl,q⟩⟩
def aAd(i:Nat)(t:TE):TS:=λD σ H=>t σ H λv H1=>D.nx (σ.set i (some v)) H1
theorem ZJ{i:Nat}{x:Str}{W:Pos}{z:Pos}(hN:X.N.Nodup)(Y:X.N[i]? = some x)(O:X.env.scope.names.lookup x=some .local)(S:zx X scope xs ys js)(hc:X.calm=true)(hw:PI X target iter wi)(hg:∀C s₀ H₀ L pl,PG (blk X scope xs ys C s₀ H₀ L pl) target g)(hi:∀C s₀ H₀ L pl,apU (blk X scope xs ys C s₀ H₀ L pl) ifs tc)(he:∀C s₀ H₀ L pl,PE (blk X scope xs ys C s₀ H₀ L pl) elt te)
 (Z:swapsWith (.ListComp elt [⟨target,iter,ifs,0⟩] scope pos) (some (.Name x W)) z.line X.env=pure true:=by rfl) (hs:∀x,foldedSetIterable iter X.env x=pure x:=by intro _;rfl) :
 PS X (.Assign [.Name x W] (.ListComp elt [⟨target,iter,ifs,0⟩] scope pos) z) (aAd i (avB wi xs.length js g tc te)):=by
 intro pins s σ H D I h;rw[exec_Assign_Name_used _ _ _ _ Z];refine wpAny_bind (wpAny_standAt (wpAny_bind ?_));show wpAny _ X.A (do let _ <-comprehension (.ListComp elt [⟨target,iter,ifs,0⟩] scope pos) scope X.env _ (newList []) false (eval iter X.env) (some (assign (.Name x W) X.env))) _ _ s;refine wpAny_bind (wpAny_mono (wpAny_comprehension_free (Q:=λ_ s'=>SP X pins D .next s') rfl hs S.clos S.kind (λx hx hl=>?_) (gM (hw pins s σ H _ I h) λv s1 h1=>gM h1 λam s2 h2=>?_)) (λ_ s' hq=>wpAny_pure (wpAny_pure hq)) λ_ _ e=>e);{rcases S.names x hx with ⟨_,q⟩ | ⟨q,_⟩ | ⟨q,_⟩;{exact q};{rw[q]at hl;cases hl};{rw[q]at hl;cases hl}};obtain⟨it,L,tn,J,H2,e,I2,T,aa,f2,rd⟩:=h2;subst e;refine aiM (RR:=λacc C=>compPost (model X.prog X.w) X.A X.xe (some (assign (.Name x W) X.env)) (λ_ s'=>SP X pins D .next s') acc C) S hc I2 T aa f2 hg hi he rd λacc C H' s' m hm I' jk q=>?_;refine wpAny_assign_Name (aeo I' hN Y (Or.inl O) (v:=.ref acc) rfl (λas ad F=>?_) (Or.inr O));obtain⟨a,F,ha⟩:=F;have ae:C≠a:=by{rcases ha with e | e;{rw[e];exact jk.2.1};{exact(jk.2.2.2.1 _ _ e).symm}};exact⟨m,hm.sameBut F ae,λh' af=>⟨_,_,ad.let_go jk af,q⟩⟩
end
theorem gD{X:Cx}{scope:Scope}{xs ys:List Str}{js:List Nat}(kind:scope.kind=.function)
 (names:∀p∈scope.names,(p.2=.local/\scope.names.lookup p.1=some .local)\/(p.2=.free/\p.1∈ys/\scope.names.lookup p.1=some .free)\/(p.2=.globalImplicit/\scope.names.lookup p.1=some .globalImplicit)) (own:∀x∈xs,scope.names.lookup x=some .local) (frees:∀y∈ys,scope.names.lookup y=some .free)
 (clos:closureFor scope X.env=pure (Wz X.env ys)) (fr:Bg X ys js):zx X scope xs ys js:=⟨kind,names,own,frees,clos,fr⟩
def wK(n:Nat)(acc:Addr)(Pv:Nat->List V->St->Hp->Prop)(i:Nat)(zs:List V)(σ4:St):VK:=λz H6=>
 H6 acc=some (.lst zs)/\zs.length<sizeLine/\∃m',m'<n - i/\(m'=n - (i+1)/\i+1<=n/\Pv (i+1) (zs++[z]) σ4 (upd H6 acc (.lst (zs++[z]))))
def Vo(n:Nat)(Pv:Nat->List V->St->Hp->Prop)(i:Nat)(zs:List V)(σ4:St)(H5:Hp):Prop:=∃m',m'<n - i/\(m'=n - (i+1)/\i+1<=n/\Pv (i+1) zs σ4 H5)
theorem wK.mk{n i:Nat}{acc:Addr}{Pv:Nat->List V->St->Hp->Prop}{zs:List V}{I:St}{z:V}{F:Hp}(hi:i<n)(h1:F acc=some (.lst zs))(h2:zs.length<sizeLine)(p:Pv (i+1) (zs++[z]) I (upd F acc (.lst (zs++[z])))):wK n acc Pv i zs I z F:=
 ⟨h1,h2,_,by lia,rfl,hi,p⟩
theorem Vo.mk{n i:Nat}{Pv:Nat->List V->St->Hp->Prop}{zs:List V}{z:St}{F:Hp}(hi:i<n)(p:Pv (i+1) zs z F):Vo n Pv i zs z F:=⟨_,by lia,rfl,hi,p⟩
theorem Tg{K:Frag}{a acc:Addr}{xs:List V}{g:TG}{tc:TT}{te:TE}{σ:St}{H1:Hp}{Q:VK}(Pv:Nat->List V->St->Hp->Prop)(L:Pv 0 [] σ (upd H1 acc (.lst [])))
 (hl:∀i zs σ H,i<=xs.length->Pv i zs σ H->bU K H a xs/\H acc=some (.lst zs))
 (hs:∀i x zs σ H,xs[i]? = some x->i<xs.length->Pv i zs σ H->g x σ H λF O=>tc F O λb J=>if b=true then te F J (wK xs.length acc Pv i zs F)else Vo xs.length Pv i zs F J)
 (hd:∀zs σ H,Pv xs.length zs σ H->Q (.ref acc) H):GQ (Itl K a) g tc te σ acc H1 Q:=by
 refine⟨λi m zs σ H=>m=xs.length - i/\i<=xs.length/\Pv i zs σ H,⟨_,rfl,zero_le _,L⟩,?_⟩;rintro i m zs σ H2 ⟨rfl,hi,p⟩;obtain⟨q,W⟩:=hl i zs σ H2 hi p;refine⟨W,?_⟩;by_cases z:i<xs.length;{refine .inr ⟨⟨xs,xs[i],q,by simp[z]⟩,λy Y I=>?_⟩;obtain⟨e,I⟩:=I;subst e;exact hs i y zs σ _ (I xs q) z p};{have e:i=xs.length:=by{lia};subst e;exact .inl ⟨⟨xs,q,Nat.le_refl _⟩,hd zs σ H2 p⟩}
theorem Bh{lo:Int}{n:Nat}{acc:Addr}{g:TG}{tc:TT}{te:TE}{σ:St}{H1:Hp}{Q:VK}(Pv:Nat->List V->St->Hp->Prop)(L:Pv 0 [] σ (upd H1 acc (.lst [])))
 (hl:∀i zs σ H,i<=n->Pv i zs σ H->H acc=some (.lst zs))
 (hs:∀i zs σ H,i<n->Pv i zs σ H->g (.int (lo+i)) σ H λF O=>tc F O λb J=>if b=true then te F J (wK n acc Pv i zs F)else Vo n Pv i zs F J)
 (hd:∀zs σ H,Pv n zs σ H->Q (.ref acc) H):GQ (Itr lo n) g tc te σ acc H1 Q:=by
 refine⟨λi m zs σ H=>m=n - i/\i<=n/\Pv i zs σ H,⟨_,rfl,zero_le _,L⟩,?_⟩;rintro i m zs σ H2 ⟨rfl,hi,p⟩;have W:=hl i zs σ H2 hi p;refine⟨W,?_⟩;by_cases z:i<n;{refine .inr ⟨z,λy Y I=>?_⟩;obtain⟨e,I⟩:=I;subst e I;exact hs i zs σ _ z p};{have e:i=n:=by{lia};subst e;exact .inl ⟨Nat.le_refl _,hd zs σ H2 p⟩}
theorem amN{σ:St}{H:Hp}{A B:Hp->Prop}(h:A H):aob σ H (λb z=>if b=true then A z else B z):=by
 show if true=true then A H else B H;rw[if_pos rfl];exact h
theorem O9{i:Nat}{v:V}{σ:St}{H:Hp}{A B:St->Hp->Prop}(h:A (σ.set i (some v)) H):aep i v σ H λz I=>aob z I λb F=>if b=true then A z F else B z F:=amN (σ:=σ.set i (some v)) (A:=A (σ.set i (some v))) (B:=B (σ.set i (some v))) h
section
variable{X:Cx}{x y:Str}{pos:Pos}{a:Addr}{T:String}
theorem iJ(z:Gl X x)(h:∃t,X.mg x=some (.str y t))(hd:(x == ("__debug__":Str))=false:=by decide):PE X (.Name x pos) (tC (.str y)):=by
 obtain⟨t,h⟩:=h;exact asr z h ⟨t,rfl⟩ hd
theorem mX(z:Gl X x)(F:X.mg x=none)(I:bootBuiltins x=some (.type T))(J:x≠"__name__":=by decide) (hd:(x == ("__debug__":Str))=false:=by decide):PE X (.Name x pos) (tC (.ty T)):=ass z F I rfl J hd
end
theorem WD(l:Addr)(F:Array Value)(n:Nat)(b:Addr)(z:Array Value)(O:Nat)(dd:Option Addr)(W:Array (Option Value))(Y:¬(!F.isEmpty && Builtin.List.listTooLong (F.size+z.size))=true)(I:F.size<=sizeLine)(J:F.size+z.size<=sizeLine+1) :
 Meets (Builtin.«list.extend» ⟨[.ref l,.ref b],[]⟩) (λ_ R s=>s.heap.get? l=some {cls:=.type "list",dict:=none,data:=.seq F n,slots := #[]}/\s.heap.get? b=some {cls:=.type "tuple",dict:=dd,data:=.seq z O,slots:=W}/\R (.ok (.ret Value.none)) {s with heap:=s.heap.update l (Obj.mapSeq λx=>x++z),toks:=s.toks}):=
 .of_wp λprog w A R s h=>by
  obtain⟨hp,g,d,tk,os⟩:=s;obtain⟨hl,Z,h⟩:=h;have f1:=PySem.AutoSeq1.idx_int;have f2:=PySem.AutoSeq1.sub_tuple_tuple;have f3:=PySem.AutoSeq1.sub_list_list;have f4:=PySem.AutoSeq1.sub_tuple_list;have f5:=PySem.AutoSeq1.sub_list_tuple;
  have L:(F++z).size<=sizeLine+1:=by rw[Array.size_append];exact J
  wp_walk using (wpAny_updateSeq hl rfl (hz:=I) (_hz':=L)),PySem.AutoSeq1.wpAny_loadPart' hl,PySem.AutoSeq1.wpAny_loadPart' Z;exact⟨_,rfl,h⟩
theorem WK(l:Addr)(F:Array Value)(n:Nat)(b:Addr)(z:Array Value)(O:Nat)(dd:Option Addr)(W:Array (Option Value))(Y:¬(!F.isEmpty && Builtin.List.listTooLong (F.size+z.size))=true)(I:F.size<=sizeLine)(J:F.size+z.size<=sizeLine+1) :
 Meets (Builtin.«list.extend» ⟨[.ref l,.ref b],[]⟩) (λ_ R s=>s.heap.get? l=some {cls:=.type "list",dict:=none,data:=.seq F n,slots := #[]}/\s.heap.get? b=some {cls:=.type "list",dict:=dd,data:=.seq z O,slots:=W}/\R (.ok (.ret Value.none)) {s with heap:=s.heap.update l (Obj.mapSeq λx=>x++z),toks:=s.toks}):=
 .of_wp λprog w A R s h=>by
  obtain⟨hp,g,d,tk,os⟩:=s;obtain⟨hl,Z,h⟩:=h;have f1:=PySem.AutoSeq1.idx_int;have f2:=PySem.AutoSeq1.sub_tuple_tuple;have f3:=PySem.AutoSeq1.sub_list_list;have f4:=PySem.AutoSeq1.sub_tuple_list;have f5:=PySem.AutoSeq1.sub_list_tuple;
  have L:(F++z).size<=sizeLine+1:=by rw[Array.size_append];exact J
  wp_walk using (wpAny_updateSeq hl rfl (hz:=I) (_hz':=L)),PySem.AutoSeq1.wpAny_loadPart' hl,PySem.AutoSeq1.wpAny_loadPart' Z;exact⟨_,rfl,h⟩
def apV(K:Frag):V->List V->Hp->VK->Prop:=λx vs H Q=>∃l b xs zs,x=.ref l/\vs=[.ref b]/\H l=some (.lst xs)/\(bU K H b zs\/cW K H b zs)/\xs.length+zs.length<=sizeLine/\Q .non (upd H l (.lst (xs++zs)))
section
variable{X:Cx}
theorem mY:MtM X "list.extend" (apV X.K):=by
 intro pins s σ H x vs v us Q I rx rv h;obtain⟨l,b,xs,zs,rfl,rfl,hH,Z,hz,q⟩:=h;cases rx;obtain⟨u,rfl,ru⟩:=rv.one;cases ru;obtain⟨z,L,n,r,hl,e⟩:=I.aln hH;have nl:∀{m k:Nat},m+k<=sizeLine->¬(!L.toArray.isEmpty && Builtin.List.listTooLong (m+k))=true:=λae=>by{rw[aiB ae,Bool.and_false];exact Bool.false_ne_true};rcases Z with Z | Z
 ·obtain⟨J,r2,⟨ob,n2,O,hc,_,hd⟩,z2⟩:=I.list Z;have l2:=r2.length;obtain⟨oc,W,ag,Y⟩:=ob;dsimp only at hc hd;subst hc hd;refine call_meets F.slot_list_extend ⟨_,e,rfl⟩ F.entry_list_extend (F.args_list_extend_2 _ _)
   (WK l L.toArray n b J.toArray n2 W Y (nl (by rw[size_toArray,size_toArray];lia)) (by rw[size_toArray];lia) (by rw[size_toArray,size_toArray];lia)) ⟨e,O,?_⟩
  refine⟨.non,_,I.apH (its':=L++J) hH e (by simp) (r.append r2) ?_,rfl,q⟩;rw[length_append];lia
 ·obtain⟨J,r2,⟨ob,O,hc,n2,hd⟩,z2⟩:=I.tuple Z;have l2:=r2.length;obtain⟨oc,W,ag,Y⟩:=ob;dsimp only at hc hd;subst hc hd;refine call_meets F.slot_list_extend ⟨_,e,rfl⟩ F.entry_list_extend (F.args_list_extend_2 _ _)
   (WD l L.toArray n b J.toArray n2 W Y (nl (by rw[size_toArray,size_toArray];lia)) (by rw[size_toArray];lia) (by rw[size_toArray,size_toArray];lia)) ⟨e,O,?_⟩
  refine⟨.non,_,I.apH (its':=L++J) hH e (by simp) (r.append r2) ?_,rfl,q⟩;rw[length_append];lia
def apW(K:Frag)(neg:Bool):R2:=λx y H Q=>∃a b xs,x=.ref a/\y=.ref b/\bU K H a xs/\bU K H b []/\Q (.bl (if neg then !xs.isEmpty else xs.isEmpty)) H
theorem apY(O:X.A.units<cLine):Wx X (compareOp .Eq) (apW X.K false):=by
 intro pins s σ H x y v u Q I Y Z h;obtain⟨a,b,xs,rfl,rfl,ha,hb,q⟩:=h;cases Y;cases Z;obtain⟨L,r,pl,z⟩:=I.list ha;obtain⟨F,r2,J,z2⟩:=I.list hb;have W:=r.length;have l2:=r2.length;have e2:F=[]:=length_eq_zero_iff.mp (by rw[<-l2];rfl);subst e2;cases xs with| nil=>have e1:L=[]:=length_eq_zero_iff.mp (by rw[<-W];rfl);subst e1;exact PySem.SeqAt.eq_listAt (e:=λ_=>true) pl.isList J.isList rfl O (λj h1 _=>absurd h1 (by simp)) ⟨.bl true,H,I,rfl,q⟩| cons y ys=>refine PySem.SeqAt.eq_list_lengthsAt pl.isList J.isList ?_ O ⟨.bl false,H,I,rfl,q⟩;rw[size_toArray,<-W];rfl
theorem Pa(O:X.A.units<cLine):Wx X (compareOp .NotEq) (apW X.K true):=by
 intro pins s σ H x y v u Q I Y Z h;obtain⟨a,b,xs,rfl,rfl,ha,hb,q⟩:=h;cases Y;cases Z;obtain⟨L,r,pl,z⟩:=I.list ha;obtain⟨F,r2,J,z2⟩:=I.list hb;have W:=r.length;have l2:=r2.length;have e2:F=[]:=length_eq_zero_iff.mp (by rw[<-l2];rfl);subst e2;cases xs with| nil=>have e1:L=[]:=length_eq_zero_iff.mp (by rw[<-W];rfl);subst e1;exact PySem.SeqAt.RcNeAt.lists (e:=λ_=>true) pl.isList J.isList rfl O (λj h1 _=>absurd h1 (by simp)) X.prog X.w X.xe _ ⟨.bl false,H,I,rfl,q⟩| cons y ys=>refine PySem.SeqAt.RcNeAt.lists_lengths pl.isList J.isList ?_ O X.prog X.w X.xe _ ⟨.bl true,H,I,rfl,q⟩;rw[size_toArray,<-W];rfl
structure KDict(K:Frag)(w:World)(a:Addr)(tab:List (Str×V)):Prop where
 ex:∃es n,K.lookup a=some ⟨.type "dict",none,.dict es n,#[]⟩/\PySem.W.KeysLit w.params es.toList
 at_:∀x v,tab.lookup x=some v->∃u,nsIn K a x=some (some u)/\RelV v u
def aAf(tab:List (Str×V))(ty:TE):TE:=λσ H Q=>ty σ H λy H1=>∃k v,y=.str k/\tab.lookup k=some v/\Q v H1
theorem amO{x:Str}{a:Addr}{F:List (Str×V)}{i:Expr}{ty:TE}{p pos:Pos}(L:Gl X x)(O:X.mg x=some (.ref a))(D:KDict X.K X.w a F)(hi:PE X i ty)(hs:awC i)(hd:(x == ("__debug__":Str))=false:=by decide) :
 PE X (.Subscript (.Name x p) i pos) (aAf F ty):=by
 intro pins s σ H Q I h;obtain⟨es,n,hl,hk⟩:=D.ex;refine amI slot_dict_getitem.lookup hs (Az I L O (gM (hi pins s σ H _ I h) λu s1 h1=>?_) hd);obtain⟨y,H1,J,Y,k,v,rfl,Z,q⟩:=h1;obtain⟨t,rfl⟩:=Y;obtain⟨u',e,ru⟩:=D.at_ k v Z;have z:=PySem.W.mapOf_K (prog:=X.prog) (w:=X.w) J.zr hl hk;exact⟨z.typeIs,wpAny_getItem_of (strKind_is X.prog X.w k t) z (PySem.W.find_K hl e) ⟨v,H1,J.tok _,ru,q⟩⟩
end
def alr:V->Option Value
 | .ty n=>some (.type n)
 | .ref a=>some (.ref a)
 | _=>none
def aDC(K:Frag):List V->Hp->VK->Prop:=λxs H Q=>∃x c t b,xs=[x,c]/\OJ K H x t/\((∃cv,alr c=some cv/\kitOne K t cv=some b)\/(∃a cs cvs,c=.ref a/\H a=some (.tup cs)/\cs.map alr=cvs.map some/\kitAny K t cvs=some b))/\Q (.bl b) H
theorem aiN:∀{F:List V} {us:List Value} {z:List Value},Vals F us->F.map alr=z.map some->us=z
 | [],_,[],.nil,_=>rfl
 | [],_,_::_,.nil,h=>by simp at h
 | c::F,_,[],.cons _ _,h=>by simp at h
 | c::F,_,I::z,.cons r t,h=>by simp only[map_cons,List.cons.injEq]at h;rw[aiN t h.2];cases c with| ty n=>cases (show _=Value.type n from r);simp only[alr,Option.some.injEq]at h;rw[h.1]| ref a=>cases (show _=Value.ref a from r);simp only[alr,Option.some.injEq]at h;rw[h.1]| _=>simp[alr]at h
section
variable{X:Cx}
theorem als{pins:List (Addr×Obj)}{σ:St}{H:Hp}{s:Shared}{A:Around}{E:Value->Shared->Prop}{Q:Value->Shared->Prop}{b:Bool}{x:V}{u t:Value}{a:Addr}{cs:List V}{Z:List Value}(I:Inv X pins σ H s)(L:RelV x u)(ty:OJ X.K H x t)
 (ha:H a=some (.tup cs)) (ad:cs.map alr=Z.map some) (e:kitAny X.K t Z=some b) (h:∀tk,Q (.bool b) {s with toks:=tk}):wpAny (model X.prog X.w) A (call (.builtin "isinstance") [u,.ref a]) Q E s:=by
 obtain⟨_,its,rv,p⟩:=(show gh X.prog X.w H s.heap a (.tup cs)from I.hok a _ ha);obtain⟨⟨oc,ah,ai,aj⟩,h1,h2,n,h3⟩:=p;dsimp only at h2 h3;subst h2 h3;have ei:its=Z:=aiN rv ad;subst ei;cases ty with
 | non=>cases (show u=Value.none from L);exact kia_tup PySem.W.kitx_none I.zr True.intro h1 e (λz=>nomatch z) h
 | bl y=>cases (show u=Value.bool y from L);exact kia_tup PySem.W.kitx_bool I.zr True.intro h1 e (λz=>nomatch z) h
 | int i=>obtain⟨t,q⟩:=(show ∃t,u=Value.int i t from L);cases q;exact kia_tup PySem.W.kitx_int I.zr True.intro h1 e (λz=>nomatch z) h
 | str y=>obtain⟨t,q⟩:=(show ∃t,u=Value.str y t from L);cases q;exact kia_tup PySem.W.kitx_str I.zr True.intro h1 e (λz=>nomatch z) h
 | flt y=>obtain⟨t,q⟩:=(show ∃t,u=Value.float y t from L);cases q;exact kia_tup PySem.W.kitx_float I.zr True.intro h1 e (λz=>nomatch z) h
 | @lst a xs Y=>cases (show u=Value.ref a from L);obtain⟨_,_,n,_,F⟩:=(show gh X.prog X.w H s.heap a (.lst xs)from I.hok a _ Y);exact kia_tup PySem.W.kitx_list I.zr ⟨_,F,rfl⟩ h1 e (λz=>nomatch z) h
 | @frz a ob xs Y=>cases (show u=Value.ref a from L);obtain⟨_,_,_,n,_,F⟩:=(show gh X.prog X.w H s.heap a (.frz ob (.lst xs))from I.hok a _ Y);exact kia_tup PySem.W.kitx_list I.zr ⟨_,F,rfl⟩ h1 e (λz=>nomatch z) h
 | @tup a xs Y=>cases (show u=Value.ref a from L);obtain⟨_,_,_,p⟩:=(show gh X.prog X.w H s.heap a (.tup xs)from I.hok a _ Y);obtain⟨o,F,h2,_⟩:=p;exact kia_tup PySem.W.kitx_tuple I.zr ⟨o,F,h2⟩ h1 e (λz=>nomatch z) h
 | @dK a kvs Y=>cases (show u=Value.ref a from L);obtain⟨_,_,vs,_,p⟩:=(show gh X.prog X.w H s.heap a (.dK kvs)from I.hok a _ Y);obtain⟨o,es,ep,F,h2,_⟩:=p;exact kia_tup PySem.W.kitx_dict I.zr ⟨o,F,h2.1⟩ h1 e (λz=>nomatch z) h
 | @dT a kvs Y=>cases (show u=Value.ref a from L);obtain⟨_,_,xs,_,o,es,ep,F,h2,_⟩:=(show gh X.prog X.w H s.heap a (.dT kvs)from I.hok a _ Y);exact kia_tup PySem.W.kitx_dict I.zr ⟨o,F,h2.1⟩ h1 e (λz=>nomatch z) h
 | @ins a C dx fs Y cl ha hn ae hm=>cases (show u=Value.ref a from L);obtain⟨mA,O,_⟩:=OD I.hok Y;obtain⟨od,J,_⟩:=O.look;exact kia_tup (PySem.W.kitx_own (cl.get _) cl.hd ha hn ae hm) I.zr J h1 e (λz=>nomatch z) h
theorem iK:Vj X (.builtin "isinstance") (aDC X.K):=by
 intro pins s σ H xs us Q I r h;obtain⟨x,c,t,b,rfl,ty,W,q⟩:=h;obtain⟨u,v,rfl,O,J⟩:=r.two;have z:∀tk,EP X pins σ Q (.bool b) {s with toks:=tk}:=λtk=>⟨.bl b,H,I.tok _,rfl,q⟩;rcases W with ⟨Y,F,L⟩ | ⟨a,cs,Z,rfl,F,L,e3⟩;{have ev:v=Y:=by{cases c with| ty n=>cases (show v=Value.type n from J);exact Option.some.inj F| ref a=>cases (show v=Value.ref a from J);exact Option.some.inj F| _=>cases F};subst ev;exact an1 I O ty L z};{cases (show v=Value.ref a from J);exact als I O ty F L e3 z}
end
section
variable{X:Cx}
theorem awN{K:Frag}{w:World}{a:Addr}{es:Array DictEntry}{n:Nat}{z F I:Str}{J L O:Int}{t0 Y Z:Tok}(hl:K.lookup a=some ⟨.type "dict",none,.dict es n,#[]⟩) (hk:PySem.W.KeysLit w.params es.toList)
 (h0:nsIn K a z=some (some (.int J t0))) (h1:nsIn K a F=some (some (.int L Y))) (h2:nsIn K a I=some (some (.int O Z))):KDict K w a [(z,.int J),(F,.int L),(I,.int O)]:=by
 refine⟨⟨es,n,hl,hk⟩,λx v e=>?_⟩;rw[lookup_cons]at e;split at e;{rename_i q;cases e;rw[beq_iff_eq]at q;subst q;exact⟨_,h0,t0,rfl⟩};{rw[lookup_cons]at e;split at e;{rename_i q;cases e;rw[beq_iff_eq]at q;subst q;exact⟨_,h1,Y,rfl⟩};{rw[lookup_cons]at e;split at e;{rename_i q;cases e;rw[beq_iff_eq]at q;subst q;exact⟨_,h2,Z,rfl⟩};{cases e}}}
end
theorem awO{K:Frag}:kitOne K (.type "int") (.type "int")=some true:=by rfl
theorem awP{K:Frag}:kitOne K (.type "int") (.type "bool")=some false:=by kernel_rfl
theorem afr{K:Frag}:kitOne K (.type "str") (.type "str")=some true:=by rfl
theorem kit_is{K:Frag}:kitOne K (.type "int") (.type "str")=some false:=by kernel_rfl
theorem alu{K:Frag}:kitOne K (.type "list") (.type "list")=some true:=by rfl
theorem ap0{K:Frag}:kitOne K (.type "tuple") (.type "list")=some false:=by kernel_rfl
theorem ap1{K:Frag}:kitOne K (.type "list") (.type "tuple")=some false:=by kernel_rfl
theorem afs{K:Frag}:kitOne K (.type "tuple") (.type "tuple")=some true:=by rfl
theorem awQ{K:Frag}:kitAny K (.type "list") [.type "list",.type "tuple"]=some true:=by kernel_rfl
theorem kit_at{K:Frag}:kitAny K (.type "tuple") [.type "list",.type "tuple"]=some true:=by kernel_rfl
theorem awR{K:Frag}:kitAny K (.type "int") [.type "list",.type "tuple"]=some false:=by kernel_rfl
theorem awS{K:Frag}:kitAny K (.type "str") [.type "list",.type "tuple"]=some false:=by kernel_rfl
theorem awT{K:Frag}:kitAny K (.type "NoneType") [.type "list",.type "tuple"]=some false:=by kernel_rfl
section
variable{prog:Program}{w:World}{A:Around}{E:Value->Shared->Prop}{h:Heap}{g:Array GenState}{d:Drawn}{t:Nat}{os:OsState}{a:Addr}{o:Obj}
 {nm q:Str} {C N:Addr} {bs bm bmB:List Value} {hdct:Bool} {sn:List Str} {sub:List Value} {ab:Bool} {col:Option Bool} {dd:Option Addr} {k0 k1 k2 k3 k5:Option Value} {B newId:String} {mN:Str->Option Value}
end
structure Pb(K:Frag)(C:Addr):Prop where
 cl:findIn K (.ref C) "__class__"=some (some (.builtin "object.__class__"))
 ga:findIn K (.ref C) "__getattribute__"=some (some (.builtin "BaseException.__getattribute__"))
 gt:findIn K (.ref C) "__getattr__"=some none
section
variable{X:Cx}{pins:List (Addr×Obj)}{σ:List (Option V)}{H:Hp}{s:Shared}{h':Heap}
theorem Inv.aod{t':Nat}{e L p:Addr}{vs:List V}(I:Inv X pins σ H s)(k:∀b o,b≠e->b≠L->s.heap.get? b=some o->h'.get? b=some o)(O:Ow X pins H e)(W:Ow X pins H L)(hp:s.heap.objs.size<=p)
 (new:gh X.prog X.w (upd H p (.tup vs)) h' p (.tup vs)):Inv X pins σ (upd H p (.tup vs)) {s with heap:=h',toks:=t'}:=by
 have ne:∀b u,H b=some u->b≠e:=λb u q z=>by{rw[z,O.1]at q;cases q};have ni:∀b u,H b=some u->b≠L:=λb u q z=>by{rw[z,W.1]at q;cases q};have hn:H p=none:=I.hok.fresh hp;have Z:∀b o,b∉[e,L]->s.heap.get? b=some o->h'.get? b=some o:=λb o J q=>k b o (λz=>J (by simp[z])) (λz=>J (by simp[z])) q;have F:∀b u,H b=some u->upd H p (.tup vs) b=some u:=λb u q=>by{rw[az (aF q hn)];exact q};refine I.step (g':=s.gens) (d':=s.drawn) (ch:=[e,L]) (λb Y=>?_) (λb o _ _ J q _=>Z b o J q) (λb o _ _ J q _=>⟨o.slots,Z b o J q⟩) (λb o _ q n=>?_)
  (λb o J q=>⟨o,Z b o J q⟩) (λb xs q=>F b _ q) (λb o u q=>F b _ q) (λb ps q=>⟨#[],by rw[F b _ q];simp⟩) (λm hm=>?_) (λb u q=>?_) I.bare
 ·rcases mem_cons.mp Y with z | z;{subst z;exact⟨O.2.2.2.1,O.2.1,O.2.2.2.2.1,O.2.2.2.2.2⟩};{have z':b=L:=by{simpa using z};subst z';exact⟨W.2.2.2.1,W.2.1,W.2.2.2.2.1,W.2.2.2.2.2⟩}
 ·rw[az (ne_of_lt (lt_of_lt_of_le (Heap.lt_size q) hp))];exact n
 ·obtain⟨o,es,ep,ho,r⟩:=hm;exact⟨o,es,ep,k _ o (Ne.symm O.2.1) (Ne.symm W.2.1) ho,r⟩
 ·by_cases Y:b=p;{subst Y;rw[aj]at q;cases q;exact new};{rw[az Y]at q;refine(I.hok b u q).stay (λc v J r=>?_) (λc r=>F c _ r) λc xs r=>F c _ r;rcases J with z | z;{rw[z]at r ⊢;exact k b v (ne b u q) (ni b u q) r};{exact k c v (ne c _ z) (ni c _ z) r}}
theorem Inv.asH{t':Nat}{e J:Addr}(I:Inv X pins σ H s)(k:∀b o,b≠e->b≠J->s.heap.get? b=some o->h'.get? b=some o)(L:Ow X pins H e)(O:Ow X pins H J):Inv X pins σ H {s with heap:=h',toks:=t'}:=by
 have ne:∀b u,H b=some u->b≠e:=λb u q z=>by{rw[z,L.1]at q;cases q};have Y:∀b u,H b=some u->b≠J:=λb u q z=>by{rw[z,O.1]at q;cases q};have W:∀b o,b∉[e,J]->s.heap.get? b=some o->h'.get? b=some o:=λb o F q=>k b o (λz=>F (by simp[z])) (λz=>F (by simp[z])) q;refine I.step (g':=s.gens) (d':=s.drawn) (ch:=[e,J]) (λb Z=>?_) (λb o _ _ F q _=>W b o F q) (λb o _ _ F q _=>⟨o.slots,W b o F q⟩) (λ_ _ _ _ n=>n)
  (λb o F q=>⟨o,W b o F q⟩) (λ_ _ q=>q) (λ_ _ _ q=>q) (λb ps q=>⟨#[],by rw[q];simp⟩) (λm hm=>?_) (λb u q=>?_) I.bare
 ·rcases mem_cons.mp Z with z | z;{subst z;exact⟨L.2.2.2.1,L.2.1,L.2.2.2.2.1,L.2.2.2.2.2⟩};{have z':b=J:=by{simpa using z};subst z';exact⟨O.2.2.2.1,O.2.1,O.2.2.2.2.1,O.2.2.2.2.2⟩}
 ·obtain⟨o,es,ep,ho,r⟩:=hm;exact⟨o,es,ep,k _ o (Ne.symm L.2.1) (Ne.symm O.2.1) ho,r⟩
 ·refine(I.hok b u q).stay (λc v F r=>?_) (λ_ q=>q) λ_ _ q=>q;rcases F with z | z;{rw[z]at r ⊢;exact k b v (ne b u q) (Y b u q) r};{exact k c v (ne c _ z) (Y c _ z) r}
end
def Ite(K:Frag)(a:Addr):It:=
 ⟨λi H=>∃xs x,bU K H a xs/\xs[i]? = some x,λi H x H'=>∃p,H p=none/\x=.ref p/\∃y,(∀xs,bU K H a xs->xs[i]? = some y)/\H'=upd H p (.tup [.int i,y]),λi H=>∃xs,bU K H a xs/\xs.length<=i⟩
theorem aoe{P:Program}{w:World}{K:Frag}{Z:List Expr}{x1}{pos:Pos}(a e J:Addr)(aa:e≠J):Turn P w K (.Tuple Z x1 pos) (Ite K a) [e,J] e (λi h=>(∃F,IsEnum h e J (i:Nat) F)/\h.IsListIter J a i) where
 mem:=by simp
 obj:=λi h st b hb=>by
  obtain⟨⟨F,L⟩,o,ho,c,d⟩:=st
  rcases mem_cons.mp hb with z | z
  ·subst z;exact⟨_,L,λv z=>by cases z⟩
  ·have z':b=J:=by simpa using z
   subst z';exact⟨o,ho,λv z=>by rw[d]at z;cases z⟩
 keep:=λi h h' st k=>⟨st.1.elim λF L=>⟨F,k e (by simp) _ L⟩,st.2.at λo q=>k J (by simp) o q⟩
 item:=by
  intro X hP hw hK hc i pins s σ H E I Y st hg
  subst hP hw hK
  obtain⟨xs,x,hq,hx⟩:=hg
  obtain⟨⟨F,L⟩,O⟩:=st
  obtain⟨its,rv,p,hz⟩:=I.list hq
  obtain⟨u,hu,ru⟩:=rv.get hx
  have fe:=Y e (by simp)
  have fi:=Y J (by simp)
  have ac:e<s.heap.objs.size:=Heap.lt_size L
  have ao:J<s.heap.objs.size:=by obtain⟨o,ho,_⟩:=O;exact Heap.lt_size ho
  refine wpAny_pyNext_enum_item L O p.isList (x:=u) (by simpa using hu) aa λh1 ap ad aq aE ar=>?_
  refine⟨_,rfl,wpAny_letOwnedTupleGo_enum ap λh2 as au=>?_⟩
  have W:Heap.SameBut e h1 h2:=au
  have av:h2.get? s.heap.objs.size=some {cls:=.type "tuple",data:=.seq #[.int i s.toks,u]}:=(W.2 _ (Nat.ne_of_gt ac)).trans aq
  have I2:Inv X pins σ (upd H s.heap.objs.size (.tup [.int i,x])) {s with heap:=h2,toks:=s.toks+1}:=by
   refine I.aod (λb o h3 h4 q=>(W.2 b h3).trans (ar b o h3 h4 q)) fe fi (Nat.le_refl _) ?_
   exact⟨sS,[.int i s.toks,u],.cons ⟨_,rfl⟩ (.cons ru .nil),⟨_,av,rfl,_,rfl⟩⟩
  have hn:=I.fresh
  refine⟨.ref s.heap.objs.size,_,I2,rfl,⟨s.heap.objs.size,hn,rfl,x,λys hy=>by rw[I.aix hy hq];exact hx,rfl⟩,⟨⟨u,?_⟩,?_⟩,λb hb=>?_⟩
  ·have z:((i+1:Nat):Int)=(i:Int)+1:=by push_cast;rfl
   rw[z];exact as
  ·exact ad.extBut W.extBut (Ne.symm aa)
  ·rw[az]
   ·exact(Y b hb).1
   ·rcases mem_cons.mp hb with z | z
    ·subst z;exact ne_of_lt ac
    ·have z':b=J:=by simpa using z
     subst z';exact ne_of_lt ao
 done:=by
  intro X hP hw hK hc i pins s σ H E I Y st hg
  subst hP hw hK
  obtain⟨xs,hq,hx⟩:=hg
  obtain⟨⟨F,L⟩,O⟩:=st
  obtain⟨its,rv,p,hz⟩:=I.list hq
  have hl:=rv.length
  exact wpAny_pyNext_enum_end (I.ok.hd hc) L O p.isList (by simp;lia) λh' eb=>⟨rfl,I.asH (t':=s.toks) (λb o _ h2 q=>eb b o h2 q) (Y e (by simp)) (Y J (by simp))⟩
 self:=λ_ _ _ _ _ st h=>st.1.elim λ_ L=>wpAny_pyIter_enum L h
section
variable{X:Cx}
def aAg(K:Frag)(tl:TA):TI:=λσ H R=>tl σ H λvs H1=>∃a,vs=[.ref a]/\(∃xs,bU K H1 a xs)/\R (Ite K a) H1
theorem amP{J:List Expr}{Y}{tpos:Pos}{a:Expr}{ta:TA}{p pos:Pos}(Z:Gl X "enumerate") (hm:X.mg "enumerate"=none) (ha:PA X [a] ta) (hs:starEach [a] X.env=[(false,eval a X.env)]:=by rfl) :
 PI X (.Tuple J Y tpos) (.Call (.Name "enumerate" p) [a] [] pos) (aAg X.K ta):=by
 intro pins s σ H R I h;refine Call_ (Zj I Z hm PyProof.Rows.Boot.«enumerate» (PyProof.Rows.callWith_type1 (gM (ha pos pins s σ H _ I h) λus s1 hz=>lW hz λvs H1 F r1 q1=>?_) hs rfl));obtain⟨l,e,⟨xs,hq⟩,q⟩:=q1;subst e;cases r1 with| cons r rr=>cases rr;cases r;obtain⟨its,rv,pl,hz⟩:=F.list hq;refine call_enumerate_list pl.isList λh2 W L hsz hk=>?_;refine wpAny_pyIter_enum W ?_;have O:s1.heap.objs.size+1≠s1.heap.objs.size:=Nat.succ_ne_self _;refine⟨s1.heap.objs.size+1,[s1.heap.objs.size+1,s1.heap.objs.size],_,_,H1,rfl,F.kept (t':=s1.toks) hk,aoe l _ _ O,⟨⟨_,W⟩,L⟩,λb hb=>?_,q⟩;rcases mem_cons.mp hb with z | z;{subst z;exact F.apt (le_succ _) (F.hok.fresh (le_succ _))};{have z':b=s1.heap.objs.size:=by{simpa using z};subst z';exact F.apt (Nat.le_refl _) (F.hok.fresh (Nat.le_refl _))}
end
theorem aeB{K:Frag}{a acc:Addr}{xs:List V}{g:TG}{tc:TT}{te:TE}{σ:St}{H1:Hp}{Q:VK}(Pv:Nat->List V->St->Hp->Prop)(J:Pv 0 [] σ (upd H1 acc (.lst [])))
 (hl:∀i zs σ H,i<=xs.length->Pv i zs σ H->bU K H a xs/\H acc=some (.lst zs))
 (hs:∀i x zs σ H p,xs[i]? = some x->i<xs.length->Pv i zs σ H->H p=none->g (.ref p) σ (upd H p (.tup [.int i,x])) λF L=>tc F L λb I=>if b=true then te F I (wK xs.length acc Pv i zs F)else Vo xs.length Pv i zs F I)
 (hd:∀zs σ H,Pv xs.length zs σ H->Q (.ref acc) H):GQ (Ite K a) g tc te σ acc H1 Q:=by
 refine⟨λi m zs σ H=>m=xs.length - i/\i<=xs.length/\Pv i zs σ H,⟨_,rfl,zero_le _,J⟩,?_⟩;rintro i m zs σ H2 ⟨rfl,hi,p⟩;obtain⟨q,O⟩:=hl i zs σ H2 hi p;refine⟨O,?_⟩;by_cases z:i<xs.length;{refine .inr ⟨⟨xs,xs[i],q,by simp[z]⟩,λy H3 W=>?_⟩;obtain⟨b,Y,e,x,Z,e3⟩:=W;subst e e3;exact hs i x zs σ _ b (Z xs q) z p Y};{have e:i=xs.length:=by{lia};subst e;exact .inl ⟨⟨xs,q,Nat.le_refl _⟩,hd zs σ H2 p⟩}
end L2
namespace fV
open List
open PySem.W (Frag emptyDict findIn fnOf hideAll instObj isFn keepIn kia_one kia_tup kitAny kitOne lookIn nsIn)
open PySem.F (plainAttrs_list slot_list_pop type_list_pop)
open Nat (le_succ lt_of_lt_of_le ne_of_lt zero_le)
open PySem L2
inductive Rt where
 | no | rd | wr
 deriving DecidableEq
def Rt.s:Rt->Str
 | .no=>"none"
 | .rd=>"read"
 | .wr=>"write"
def Rt.k:Rt->Int
 | .no=>0
 | .rd=>1
 | .wr=>2
theorem Rt.aAh:∀{a b:Rt},a.s=b.s->a=b
 | .no,.no,_=>rfl
 | .no,.rd,h=>absurd h ∅
 | .no,.wr,h=>absurd h ∅
 | .rd,.no,h=>absurd h ∅
 | .rd,.rd,_=>rfl
 | .rd,.wr,h=>absurd h ∅
 | .wr,.no,h=>absurd h ∅
 | .wr,.rd,h=>absurd h ∅
 | .wr,.wr,_=>rfl
theorem p7{r q:Rt}{x:Str}(e:x=q.s)(h:r≠q):decide (V.str r.s=V.str x)=false:=decide_eq_false λz=>h (Rt.aAh ((V.str.inj z).trans e))
theorem aL{c:Bool}{A B:Prop}(h:c=false)(z:B):if c=true then A else B:=by rw[h];exact wD z
theorem bH{c:Bool}{A B:Prop}(h:c=true)(z:A):if c=true then A else B:=by rw[h];exact p6 z
inductive W where
 | look (p:Int) | put (p n:Int)
def W.pg:W->Int
 | .look p=>p
 | .put p _=>p
def W.need:W->Rt
 | .look _=>.rd
 | .put _ _=>.wr
def W.tag:W->Str
 | .look _=>"look"
 | .put _ _=>"put"
def W.vs:W->List V
 | .look p=>[.str "look",.int p]
 | .put p n=>[.str "put",.int p,.int n]
def W.d:W->D
 | .look p=>.t [.s "look",.i p]
 | .put p n=>.t [.s "put",.i p,.i n]
structure DS where
 rt:Int->Rt
 nm:Int->Int
 ws:Option W
def DS.hold(S:DS)(p:Int)(r:Rt)(n:Int):DS:={S with rt:=λq=>if q=p then r else S.rt q,nm:=λq=>if q=p then n else S.nm q}
theorem DS.rB(S:DS)(p:Int)(r:Rt)(n:Int):(S.hold p r n).rt p=r:=by unfold DS.hold;dsimp only;rw[if_pos rfl]
theorem DS.wM(S:DS)(p:Int)(r:Rt)(n:Int):(S.hold p r n).nm p=n:=by unfold DS.hold;dsimp only;rw[if_pos rfl]
theorem DS.rH(S:DS){p q:Int}(r:Rt)(n:Int)(h:q≠p):(S.hold p r n).rt q=S.rt q:=by unfold DS.hold;dsimp only;rw[if_neg h]
theorem DS.rJ(S:DS){p q:Int}(r:Rt)(n:Int)(h:q≠p):(S.hold p r n).nm q=S.nm q:=by unfold DS.hold;dsimp only;rw[if_neg h]
def DS.ok(S:DS)(w:W):Prop:=w.need.k<=(S.rt w.pg).k
instance (S:DS) (w:W):Decidable (S.ok w):=inferInstanceAs (Decidable (_<=_))
def DS.done(S:DS):W->DS
 | .look _=>S
 | .put p n=>S.hold p (S.rt p) n
def DS.num(S:DS):W->Int
 | .look p=>S.nm p
 | .put _ n=>n
def DS.tell(S:DS)(p:Int):V:=if S.rt p=.wr then .int (S.nm p)else .non
def uR(H:Hp)(v:V):Option W->Prop
 | none=>v=.non
 | some w=>∃a,v=.ref a/\H a=some (.tup w.vs)
def uT(H:Hp)(o:Option V)(r:Rt)(n:Int):Prop:=if r=.no then o=none else ∃t,o=some (.ref t)/\H t=some (.tup [.str r.s,.int n])
theorem cw:¬(("copies":Str)="wish"):=∅
def Ez(d:Addr)(v:V):List (Str×V):=gJ "wish" v (gJ "copies" (.ref d) [])
theorem aft(d:Addr)(v:V):Ez d v=([("copies",V.ref d),("wish",v)]:List (Str×V)):=by
 show(if("copies":Str)="wish" then [(("copies":Str),v)]else(("copies":Str),V.ref d)::gJ "wish" v [])=([("copies",V.ref d),("wish",v)]:List (Str×V));rw[if_neg cw];all_goals rfl
theorem kZ(d:Addr)(v:V):(Ez d v).lookup ("copies":Str)=some (.ref d):=by
 unfold Ez;rw[kJ,if_neg cw,kJ,if_pos rfl]
theorem aeC(d:Addr)(v:V):(Ez d v).lookup ("wish":Str)=some v:=by
 unfold Ez;rw[kJ,if_pos rfl]
theorem fj(d:Addr)(v:V){m:Str}(h1:¬m="wish") (h2:¬m="copies"):(Ez d v).lookup m=none:=by
 unfold Ez;rw[kJ,if_neg h1,kJ,if_neg h2];all_goals rfl
theorem aiO(d:Addr)(v u:V):gJ "wish" u (Ez d v)=Ez d u:=by
 rw[aft,aft];show(if("copies":Str)="wish" then _ else(("copies":Str),V.ref d)::(if("wish":Str)="wish" then [(("wish":Str),u)]else _))=([("copies",V.ref d),("wish",u)]:List (Str×V));rw[if_neg cw,if_pos rfl]
theorem aiP(d:Addr)(v:V):(Ez d v).length=2:=by rw[aft];rfl
structure cC(C:Addr)(H:Hp)(p d:Addr)(S:DS)(c:Nat):Prop where
 ob:∃dx v,H p=some (.ins C dx (Ez d v))/\uR H v S.ws
 dc:∃kvs,H d=some (.dK kvs)/\kvs.length<=c/\∀n:Int,uT H (gj kvs (Sum.inl n:Key)) (S.rt n) (S.nm n)
def DF(H H':Hp)(p d:Addr):Prop:=∀b o,H b=some o->b≠p->b≠d->H' b=some o
theorem DF.refl(H:Hp)(p d:Addr):DF H H p d:=λ_ _ h _ _=>h
theorem DF.trans{H H1 H2:Hp}{p d:Addr}(a:DF H H1 p d)(b:DF H1 H2 p d):DF H H2 p d:=λc o h h1 h2=>b c o (a c o h h1 h2) h1 h2
theorem cC.npd{C:Addr}{H:Hp}{p d:Addr}{S:DS}{c:Nat}(D:cC C H p d S c):p≠d:=by
 obtain⟨⟨dx,v,h1,_⟩,⟨kvs,h2,_⟩⟩:=D;exact jP h1 h2 ⟨⟩
theorem cC.mono{C:Addr}{H:Hp}{p d:Addr}{S:DS}{c z:Nat}(D:cC C H p d S c)(h:c<=z):cC C H p d S z:=by
 obtain⟨o,⟨kvs,h2,F,I⟩⟩:=D;exact⟨o,⟨kvs,h2,Nat.le_trans F h,I⟩⟩
theorem uR.aU{H H':Hp}(h:cz H H'){v:V}{o:Option W}(w:uR H v o):uR H' v o:=by
 cases o with| none=>exact w| some F=>obtain⟨a,e,z⟩:=w;exact⟨a,e,h a _ z⟩
theorem uT.aU{H H':Hp}(h:cz H H'){o:Option V}{r:Rt}{n:Int}(w:uT H o r n):uT H' o r n:=by
 unfold uT at w ⊢;split;{rename_i e;rw[if_pos e]at w;exact w};{rename_i e;rw[if_neg e]at w;obtain⟨t,e,z⟩:=w;exact⟨t,e,h t _ z⟩}
theorem cC.keep{C:Addr}{H H':Hp}{p d:Addr}{S:DS}{c:Nat}(D:cC C H p d S c)(h:cz H H')(hp:∀o,H p=some o->H' p=some o)(hd:∀o,H d=some o->H' d=some o):cC C H' p d S c:=by
 obtain⟨⟨dx,v,h1,h2⟩,⟨kvs,z,F,I⟩⟩:=D;exact⟨⟨dx,v,hp _ h1,h2.aU h⟩,⟨kvs,hd _ z,F,λn=>(I n).aU h⟩⟩
theorem cC.same{C:Addr}{H H':Hp}{p d:Addr}{S:DS}{c:Nat}(D:cC C H p d S c)(h:bK H H'):cC C H' p d S c:=D.keep (λb xs e=>h b _ e) (λo e=>h p o e) λo e=>h d o e
theorem DF.tups{C:Addr}{H H':Hp}{p d:Addr}{S:DS}{c:Nat}(D:cC C H p d S c)(h:DF H H' p d):cz H H':=λb xs e=>by
 obtain⟨⟨dx,v,h1,_⟩,⟨kvs,h2,_⟩⟩:=D
 exact h b _ e (jP e h1 ⟨⟩) (jP e h2 ⟨⟩)
theorem DF.seqs{C:Addr}{H H':Hp}{p d:Addr}{S:DS}{c:Nat}(D:cC C H p d S c)(h:DF H H' p d):wJ H H':=⟨h.tups D,λb xs e=>by
 obtain⟨⟨dx,v,h1,_⟩,⟨kvs,h2,_⟩⟩:=D
 exact h b _ e (jP e h1 ⟨⟩) (jP e h2 ⟨⟩)⟩
theorem afu{H:Hp}{a:Addr}{o:HO}(h:H a=none):cz H (upd H a o):=λb xs e=>by rw[az (aF e h)];exact e
theorem wN{H:Hp}{a:Addr}{o:HO}(h:H a=none):wJ H (upd H a o):=⟨afu h,λb xs e=>by rw[az (aF e h)];exact e⟩
theorem aq{H:Hp}{a:Addr}{o:HO}(h:H a=none):bK H (upd H a o):=λb u e=>by rw[az (aF e h)];exact e
theorem DF.new{H:Hp}{p d a:Addr}{o:HO}(h:H a=none):DF H (upd H a o) p d:=λb u e _ _=>aq h b u e
theorem asI{H:Hp}{a:Addr}{xs:List V}{ds:List D}(h:H a=none)(r:aG H xs ds):Rep (upd H a (.tup xs)) (.ref a) (.t ds):=by
 simp only[Rep];exact⟨a,xs,rfl,aj,r.mono (wN h)⟩
def nw(H H':Hp):Hp:=λb=>match H b with
 | none=>H' b
 | some (.tup _)=>H' b
 | some _=>none
theorem oH{H H':Hp}{b:Addr}{o:HO}(h:nw H H' b=some o):H' b=some o/\(H b=none\/∃xs,H b=some (.tup xs)):=by
 unfold nw at h;split at h;{rename_i e;exact⟨h,.inl e⟩};{rename_i xs e;exact⟨h,.inr ⟨xs,e⟩⟩};{cases h}
theorem ZK{H H':Hp}{b:Addr}{o:HO}(h:H' b=some o)(q:H b=none\/∃xs,H b=some (.tup xs)):nw H H' b=some o:=by
 unfold nw;rcases q with e | ⟨xs,e⟩<;>rw[e]<;>exact h
theorem alv{H H':Hp}:wJ (nw H H') H':=⟨λ_ _ h=>(oH h).1,λ_ _ h=>(oH h).1⟩
theorem wO{H H1 H2:Hp}(h:wJ H1 H2):wJ (nw H H1) (nw H H2):=⟨λb xs e=>ZK (h.1 b xs (oH e).1) (oH e).2,λb xs e=>ZK (h.2 b xs (oH e).1) (oH e).2⟩
theorem zy{H H1:Hp}{a:Addr}{xs:List V}{ds:List D}(z:H a=none)(h:H1 a=none)(r:aG (nw H H1) xs ds):Rep (nw H (upd H1 a (.tup xs))) (.ref a) (.t ds):=by
 simp only[Rep];exact⟨a,xs,rfl,ZK aj (.inl z),r.mono (wO (wN h))⟩
theorem lg{H H1:Hp}{a:Addr}{xs:List V}{ds:List D}(z:H a=none)(h:H1 a=none)(r:aG (nw H H1) xs ds):Rep (nw H (upd H1 a (.lst xs))) (.ref a) (.l ds):=by
 simp only[Rep];exact⟨a,xs,rfl,ZK aj (.inl z),r.mono (wO (wN h))⟩
def Kept(H H1:Hp):Prop:=∀b o,H b=some o->∃o',H1 b=some o'/\((∀xs,o≠.tup xs)->∀xs,o'≠.tup xs)
theorem Kept.free{H H1:Hp}(h:Kept H H1){a:Addr}(e:H1 a=none):H a=none:=by
 cases q:H a with| none=>rfl| some o=>obtain⟨o',z,_⟩:=h a o q;rw[e]at z;cases z
theorem Kept.tup{H H1:Hp}(h:Kept H H1){b:Addr}{xs:List V}(e:H1 b=some (.tup xs)):H b=none\/∃ys,H b=some (.tup ys):=by
 cases q:H b with| none=>exact .inl rfl| some o=>obtain⟨o',z,y⟩:=h b o q;by_cases F:∃xs,o=.tup xs;{obtain⟨ys,rfl⟩:=F;exact .inr ⟨ys,rfl⟩};{rw[e]at z;cases z;exact absurd rfl (y (λys z=>F ⟨ys,z⟩) xs)}
theorem Kept.refl(H:Hp):Kept H H:=λb o e=>⟨o,e,λh=>h⟩
theorem Kept.new{H H1:Hp}(h:Kept H H1){a:Addr}{o:HO}(e:H1 a=none):Kept H (upd H1 a o):=λb u q=>by
 obtain⟨o',z,y⟩:=h b u q
 exact⟨o',by rw[az (aF z e)];exact z,y⟩
theorem DF.kept{C:Addr}{H H':Hp}{p d:Addr}{S S':DS}{c F:Nat}(D:cC C H p d S c)(D':cC C H' p d S' F)(h:DF H H' p d):Kept H H':=λb o e=>by
 by_cases hp:b=p
 ·subst hp
  obtain⟨⟨dx,v,h1,_⟩,_⟩:=D'
  exact⟨_,h1,λ_ xs z=>by cases z⟩
 ·by_cases hd:b=d
  ·subst hd
   obtain⟨_,⟨kvs,h2,_⟩⟩:=D'
   exact⟨_,h2,λ_ xs z=>by cases z⟩
  ·exact⟨o,h b o e hp hd,λz=>z⟩
inductive Let where
 | lend (p:Int) (r:Rt) (n:Int) | back (p:Int) (r:Rt)
def Let.vs:Let->List V
 | .lend p r n=>[.str "lend",.int p,.str r.s,.int n]
 | .back p r=>[.str "back",.int p,.str r.s]
def Let.d:Let->D
 | .lend p r n=>.t [.s "lend",.i p,.s r.s,.i n]
 | .back p r=>.t [.s "back",.i p,.s r.s]
def ZL:V->D
 | .int k=>.i k
 | _=>.n
def DS.gP(S:DS)(p:Int)(r:Rt)(n:Int):DS×List D:=
 let S1:=S.hold p r n
 match S.ws with
 | none=>(S1,[])
 | some w=>if w.pg=p/\S1.ok w then(({S1 with ws:=none}:DS).done w,[.t [.s w.tag,.i w.pg,.i (S1.num w)]])else(S1,[])
def DS.down(S:DS)(p:Int)(r:Rt):DS:=if(S.rt p).k<=r.k then S else S.hold p r (S.nm p)
def DS.take(S:DS):Let->DS×D
 | .lend p r n=>((S.gP p r n).1,.t [.l (S.gP p r n).2,.l []])
 | .back p r=>(S.down p r,.t [.l [],.l [.t [.s "answer",.i p,ZL (S.tell p)]]])
def DS.want(S:DS)(w:W):DS×D:=if S.ok w then(S.done w,.t [.l [.t [.s w.tag,.i w.pg,.i (S.num w)]],.l []])else({S with ws:=some w},.t [.l [],.l [.t [.s "ask",.i w.pg,.s w.need.s]]])
def DS.rest(S:DS)(p:Int):DS×D:=(S.hold p .no (S.nm p),.l (if S.rt p=.wr then [.t [.s "gave",.i p,.i (S.nm p)]]else []))
def aiQ(tag:Str):Sp:=λvs H Q _=>∃x y,vs=[x,y]/\∀a,H a=none->Q (.ref a) (upd H a (.tup [.str tag,x,y]))
def ap2:Sp:=λvs H Q _=>∃r n:Rt,vs=[.str r.s,.str n.s]/\Q (.bl (decide (n.k<=r.k))) H
def awV(K:Frag):Sp:=λvs H Q _=>∃a w,vs=[.ref a]/\H a=some (.tup (W.vs w))/\Q (.str w.need.s) H
def awW(C:Addr):Sp:=λvs H Q _=>∃p dx,vs=[.ref p]/\H p=some (.ins C dx [])/\∀d H',H d=none->cC C H' p d ⟨λ_=>.no,λ_=>0,none⟩ 0->(∀b o,H b=some o->b≠p->H' b=some o)->Q .non H'
def asJ(C:Addr):Sp:=λvs H Q _=>∃p d S c n,vs=[.ref p,.int n]/\cC C H p d S c/\Q (.str (S.rt n).s) H
def asK(C:Addr):Sp:=λvs H Q _=>∃p d S c,vs=[.ref p]/\cC C H p d S c/\Q (.bl S.ws.isSome) H
def aAi(C:Addr):Sp:=λvs H Q _=>∃p d S c a w,vs=[.ref p,.ref a]/\cC C H p d S c/\H a=some (.tup (W.vs w))/\Q (.bl (decide (S.ok w))) H
def awX(C:Addr):Sp:=λvs H Q _=>∃p d S c n,vs=[.ref p,.int n]/\cC C H p d S c/\Q (S.tell n) H
def awY(C:Addr):Sp:=λvs H Q _=>∃p d S c n r k v,vs=[.ref p,.int n,.str (Rt.s r),v]/\cC C H p d S c/\c<=1000000/\(r=.no\/v=.int k)/\∀H',cC C H' p d (S.hold n r k) (c+1)->DF H H' p d->Q .non H'
def aDE(C:Addr):Sp:=λvs H Q _=>∃p d S c a w,vs=[.ref p,.ref a]/\cC C H p d S c/\c<=1000000/\H a=some (.tup (W.vs w))/\S.ok w/\
 ∀t H',cC C H' p d (S.done w) (c+1)->DF H H' p d->H' t=some (.tup [.str w.tag,.int w.pg,.int (S.num w)])->Q (.ref t) H'
def awZ(C:Addr):Sp:=λvs H Q _=>∃p d S c n r k,vs=[.ref p,.int n,.str (Rt.s r),.int k]/\cC C H p d S c/\c<=900000/\
 ∀v H',cC C H' p d (S.gP n r k).1 (c+2)->DF H H' p d->Rep (nw H H') v (.l (S.gP n r k).2)->Q v H'
def aw0(C:Addr):Sp:=λvs H Q _=>∃p d S c n r,vs=[.ref p,.int n,.str (Rt.s r)]/\cC C H p d S c/\c<=900000/\
 ∀v H',cC C H' p d (S.down n r) (c+2)->DF H H' p d->Rep H' v (.t [.s "answer",.i n,ZL (S.tell n)])->Q v H'
def aw1(C:Addr):Sp:=λvs H Q _=>∃p d S c a l,vs=[.ref p,.ref a]/\cC C H p d S c/\c<=900000/\H a=some (.tup (Let.vs l))/\
 ∀v H',cC C H' p d (S.take l).1 (c+2)->DF H H' p d->Rep (nw H H') v (S.take l).2->Q v H'
def aM{α:Type}(f:Nat->α)(i:Nat)(v:α):Nat->α:=λj=>if j=i then v else f j
theorem aJ{α:Type}(f:Nat->α)(i:Nat)(v:α):aM f i v i=v:=by simp[aM]
theorem aX{α:Type}(f:Nat->α){i j:Nat}(v:α)(h:j≠i):aM f i v j=f j:=by simp[aM,h]
theorem eF{α:Type}(f:Nat->α)(i:Nat):aM f i (f i)=f:=by funext j;unfold aM;split<;>simp_all
theorem nP{α:Type}(f:Nat->α)(i:Nat)(v w:α):aM (aM f i v) i w=aM f i w:=by funext j;unfold aM;split<;>rfl
inductive UL where
 | ask (p:Nat) (r:Rt) | ans (p:Nat) (o:Option Int) | gave (p:Nat) (n:Int)
def oV:Option Int->V
 | none=>.non
 | some k=>.int k
def oD:Option Int->D
 | none=>.n
 | some k=>.i k
def UL.vs:UL->List V
 | .ask p r=>[.str "ask",.int p,.str r.s]
 | .ans p o=>[.str "answer",.int p,oV o]
 | .gave p n=>[.str "gave",.int p,.int n]
def UL.d:UL->D
 | .ask p r=>.t [.s "ask",.i p,.s r.s]
 | .ans p o=>.t [.s "answer",.i p,oD o]
 | .gave p n=>.t [.s "gave",.i p,.i n]
def UL.pg:UL->Nat
 | .ask p _=>p
 | .ans p _=>p
 | .gave p _=>p
structure PG where
 num:Int
 wr:Option Nat
 rd:List Nat
 ask:List (Nat×Rt)
 miss:Int
def low(r:Rt):Rt:=if r=.rd then .rd else .no
def oJ(g:PG)(p a:Nat)(r:Rt):List (Nat×Let):=match g.wr with
 | some w=>if w=a then []else [(w,.back p (low r))]
 | none=>[]
def oK(g:PG)(p a:Nat)(r:Rt):List (Nat×Let):=if r=.wr then(g.rd.filter λd=>decide (d≠a)).map λd=>(d,.back p .no)else []
def PG.cL(g:PG)(p:Nat):List (Nat×Let):=match g.ask with
 | []=>[]
 | (a,r)::_=>oJ g p a r++oK g p a r
def jF(g:PG)(a:Nat):PG:={g with wr:=none,rd:=if a∈g.rd++g.wr.toList then g.rd++g.wr.toList else g.rd++g.wr.toList++[a]}
def jQ(g:PG)(a:Nat):PG:={g with wr:=some a,rd:=[]}
def PG.lent(g:PG):PG:=match g.ask with
 | []=>g
 | (a,r)::q=>if r=.wr then jQ {g with ask:=q} a else jF {g with ask:=q} a
def PG.dM(g:PG)(p:Nat):List (Nat×Let):=match g.ask with
 | []=>[]
 | (a,r)::_=>[(a,.lend p r g.num)]
theorem PG.zz(g:PG):g.lent.ask.length=g.ask.length - 1:=by
 unfold PG.lent;cases h:g.ask with| nil=>simp[h]| cons x q=>obtain⟨a,r⟩:=x;dsimp only;split<;>simp[jQ,jF]
def qD:Nat->PG->Nat->PG×List (Nat×Let)
 | 0,g,_=>(g,[])
 | k+1,g,p=>if(g.cL p).isEmpty then((qD k g.lent p).1,g.dM p++(qD k g.lent p).2)else({g with miss:=(g.cL p).length},g.cL p)
def PG.serve(g:PG)(p:Nat):PG×List (Nat×Let):=qD g.ask.length g p
theorem uJ{g:PG}{p:Nat}(h:g.ask=[]):g.serve p=(g,[]):=by unfold PG.serve;rw[h];rfl
theorem qF{g:PG}{p:Nat}(h:g.ask≠[])(z:g.cL p=[]):g.serve p=((g.lent.serve p).1,g.dM p++(g.lent.serve p).2):=by
 unfold PG.serve;rw[PG.zz];cases h':g.ask with| nil=>exact absurd h' h| cons x q=>rw[length_cons,qD,z,if_pos (by rfl)];rfl
theorem uK{g:PG}{p:Nat}(h:g.ask≠[])(z:g.cL p≠[]):g.serve p=({g with miss:=(g.cL p).length},g.cL p):=by
 unfold PG.serve;cases h':g.ask with| nil=>exact absurd h' h| cons x q=>rw[length_cons,qD,if_neg (by simpa using z),h']
def PG.take(g:PG)(p d:Nat):UL->PG×List (Nat×Let)
 | .ask _ r=>if g.ask=[]then PG.serve {g with ask:=[(d,r)]} p else({g with ask:=g.ask++[(d,r)]},[])
 | .ans _ o=>if g.miss - 1=0 then
    ((PG.serve (PG.lent {g with num:=o.getD g.num,miss:=g.miss - 1}) p).1,PG.dM {g with num:=o.getD g.num,miss:=g.miss - 1} p++(PG.serve (PG.lent {g with num:=o.getD g.num,miss:=g.miss - 1}) p).2)
   else({g with num:=o.getD g.num,miss:=g.miss - 1},[])
 | .gave _ n=>({g with num:=n,wr:=if g.wr=some d then none else g.wr},[])
def post(dn:Nat->List Let)(ls:List (Nat×Let)):Nat->List Let:=ls.foldl (λf q=>aM f q.1 (f q.1++[q.2])) dn
theorem lq(dn:Nat->List Let)(a b:List (Nat×Let)):post dn (a++b)=post (post dn a) b:=by unfold post;rw[foldl_append]
theorem qG(dn:Nat->List Let)(x:Nat×Let)(b:List (Nat×Let)):post dn (x::b)=post (aM dn x.1 (dn x.1++[x.2])) b:=rfl
theorem aeD(dn:Nat->List Let)(a:List (Nat×Let))(x:Nat×Let):post dn (a++[x])=aM (post dn a) x.1 (post dn a x.1++[x.2]):=by rw[lq];rfl
theorem Pg(dn:Nat->List Let)(z:List (Nat×Let))(x:Nat):(post dn z x).length<=(dn x).length+z.length:=by
 induction z generalizing dn with| nil=>exact Nat.le_refl _| cons q r F=>rw[qG];refine Nat.le_trans (F _) ?_;rw[length_cons];by_cases e:x=q.1;{rw[e,aJ,length_append];simp;lia};{rw[aX _ _ e];lia}
abbrev Ev:=Bool×Int×Int
def Vp(b:Bool):Str:=if b then "put" else "look"
def evD(e:Ev):D:=.t [.s (Vp e.1),.i e.2.1,.i e.2.2]
def W.mC:W->Bool
 | .look _=>false
 | .put _ _=>true
theorem W.alw(w:W):w.tag=Vp w.mC:=by cases w<;>rfl
structure RE where
 put:Bool
 dk:Nat
 pg:Int
 num:Int
def RE.d(e:RE):D:=.t [.s (Vp e.put),.i e.dk,.i e.pg,.i e.num]
structure TS where
 ds:Nat->DS
 pg:Nat->PG
 up:Nat->List UL
 dn:Nat->List Let
 row:List RE
def DS.il(S:DS)(w:W)(p:Nat):DS×List Ev×List UL:=if S.ok w then(S.done w,[(w.mC,w.pg,S.num w)],[])else({S with ws:=some w},[],[.ask p w.need])
def DS.lr(S:DS)(p:Int)(r:Rt)(n:Int):DS×List Ev:=
 match S.ws with
 | none=>(S.hold p r n,[])
 | some w=>if w.pg=p/\(S.hold p r n).ok w then(({S.hold p r n with ws:=none}:DS).done w,[(w.mC,w.pg,(S.hold p r n).num w)])else(S.hold p r n,[])
def DS.lX(S:DS)(p:Int):Option Int:=if S.rt p=.wr then some (S.nm p)else none
def Let.pg:Let->Int
 | .lend p _ _=>p
 | .back p _=>p
def DS.nQ(S:DS):Let->DS×List Ev×List UL
 | .lend p r n=>((S.lr p r n).1,(S.lr p r n).2,[])
 | .back p r=>(S.down p r,[],[.ans p.toNat (S.lX p)])
theorem DS.amR(S:DS)(w:W){p:Nat}(hp:w.pg=p):S.want w=((S.il w p).1,.t [.l ((S.il w p).2.1.map evD),.l ((S.il w p).2.2.map UL.d)]):=by
 unfold DS.want DS.il;split;{simp[evD,W.alw]};{simp[UL.d,hp]}
theorem DS.asL(S:DS)(p:Int)(r:Rt)(n:Int):S.gP p r n=((S.lr p r n).1,(S.lr p r n).2.map evD):=by
 unfold DS.gP DS.lr;cases h:S.ws with| none=>rfl| some w=>dsimp only;split<;>simp[evD,W.alw]
theorem DS.asM(S:DS)(p:Int):S.tell p=oV (S.lX p):=by unfold DS.tell DS.lX;split<;>rfl
theorem ap3(o:Option Int):ZL (oV o)=oD o:=by cases o<;>rfl
theorem DS.asN(S:DS)(l:Let){p:Nat}(hp:l.pg=p):S.take l=((S.nQ l).1,.t [.l ((S.nQ l).2.1.map evD),.l ((S.nQ l).2.2.map UL.d)]):=by
 cases l with| lend q r n=>simp only[DS.take,DS.nQ,DS.asL];rfl| back q r=>have z:q=(p:Int):=hp;subst z;simp only[DS.take,DS.nQ,DS.asM,ap3];simp[UL.d]
def cZ(row:List RE)(d:Nat)(es:List Ev):List RE:=row++es.map λe=>⟨e.1,d,e.2.1,e.2.2⟩
def TS.jG(S:TS)(d:Nat)(z:DS×List Ev×List UL):TS:={S with ds:=aM S.ds d z.1,up:=aM S.up d (S.up d++z.2.2),row:=cZ S.row d z.2.1}
def TS.Ph(S:TS)(d:Nat)(l:UL)(r:List UL):TS:={S with up:=aM S.up d r,pg:=aM S.pg l.pg ((S.pg l.pg).take l.pg d l).1,dn:=post S.dn ((S.pg l.pg).take l.pg d l).2}
def TS.Bj(S:TS)(d:Nat)(l:Let)(r:List Let):TS:=TS.jG {S with dn:=aM S.dn d r} d ((S.ds d).nQ l)
def TS.lu(S:TS)(d:Nat)(p:Nat):TS:=TS.jG S d ((S.ds d).hold p .no ((S.ds d).nm p),[],if(S.ds d).rt p=.wr then [.gave p ((S.ds d).nm p)]else [])
inductive bG where
 | look (d p:Int) | put (d p n:Int) | rest (d p:Int) | up (d:Int) | down (d:Int)
def bG.vs:bG->List V
 | .look d p=>[.str "look",.int d,.int p]
 | .put d p n=>[.str "put",.int d,.int p,.int n]
 | .rest d p=>[.str "rest",.int d,.int p]
 | .up d=>[.str "up",.int d]
 | .down d=>[.str "down",.int d]
def bG.d:bG->D
 | .look d p=>.t [.s "look",.i d,.i p]
 | .put d p n=>.t [.s "put",.i d,.i p,.i n]
 | .rest d p=>.t [.s "rest",.i d,.i p]
 | .up d=>.t [.s "up",.i d]
 | .down d=>.t [.s "down",.i d]
def TS.wish(S:TS)(d p:Nat)(w:W)(told:D):TS×D:=match (S.ds d).ws with
 | some _=>(S,.s "waiting")
 | none=>(S.jG d ((S.ds d).il w p),if(S.ds d).ok w then told else .s "waits")
def TS.upD(S:TS)(d:Nat):TS×D:=match S.up d with
 | []=>(S,.s "no letter")
 | l::r=>(S.Ph d l r,l.d)
def TS.Kd(S:TS)(d:Nat):TS×D:=match S.dn d with
 | []=>(S,.s "no letter")
 | l::r=>(S.Bj d l r,l.d)
def inR(d:Int)(n:Nat):Prop:=0<=d/\d<n
instance (d:Int) (n:Nat):Decidable (inR d n):=inferInstanceAs (Decidable (_/\_))
def TS.step(n m:Nat)(S:TS):bG->TS×D
 | .up d=>if inR d n then S.upD d.toNat else(S,.s "no desk")
 | .down d=>if inR d n then S.Kd d.toNat else(S,.s "no desk")
 | .rest d p=>if inR d n then(if inR p m then(if(S.ds d.toNat).rt p=.no then(S,.s "no copy")else(S.lu d.toNat p.toNat,.s "done"))else(S,.s "no page"))else(S,.s "no desk")
 | .look d p=>if inR d n then(if inR p m then S.wish d.toNat p.toNat (.look p) (.i ((S.ds d.toNat).nm p))else(S,.s "no page"))else(S,.s "no desk")
 | .put d p x=>if inR d n then(if inR p m then S.wish d.toNat p.toNat (.put p x) (.s "done")else(S,.s "no page"))else(S,.s "no desk")
theorem gF{A B:L2.TS}{D:Ends}{σ:St}{H:Hp}(R:St->Hp->Prop)(F:∀N:St->Hp->Prop,(∀z H',R z H'->N z H')->A {D with nx:=N} σ H)(I:∀z H',R z H'->B D z H'):aV A B D σ H:=F _ I
def nV(d:Nat):V:=.int d
theorem aQ{H H':Hp}(h:bK H H'):cz H H':=λb xs e=>h b _ e
theorem dB{H H1:Hp}{l:Addr}{o:HO}(h:bK H H1)(z:H l=none):bK H (upd H1 l o):=λb u e=>by rw[az (aF e z)];exact h b u e
theorem iB{H:Hp}{l:Addr}{us vs:List V}(h:H l=some (.lst us)):cz H (upd H l (.lst vs)):=λb xs e=>by rw[az (jP e h ⟨⟩)];exact e
theorem ap4{α:Type}(x:α)(xs:List α):seqIndex? 0 (x::xs).length=some 0:=by simp[seqIndex?]
theorem du{a b:Str}(h:a≠b):decide (V.str a=V.str b)=false:=decide_eq_false λz=>h (V.str.inj z)
theorem fQ{a:Str}:decide (V.str a=V.str a)=true:=decide_eq_true rfl
def uh(x:Nat×Rt):D:=.t [.i x.1,.s x.2.s]
def pairD(x:Nat×Let):D:=.t [.i x.1,x.2.d]
def wrV:Option Nat->V
 | none=>.non
 | some w=>.int w
def Dz(p:Nat)(g:PG)(r q:Addr):List (Str×V):=[("page",.int p),("number",.int g.num),("writer",wrV g.wr),("readers",.ref r),("asked",.ref q),("awaited",.int g.miss)]
section
variable{p:Nat}{g:PG}{r q:Addr}
theorem ap5{n:Int}:gJ "awaited" (.int 0) (gJ "asked" (.ref q) (gJ "readers" (.ref r) (gJ "writer" .non (gJ "number" (.int n) (gJ "page" (.int p) [])))))=Dz p ⟨n,none,[],[],0⟩ r q:=by kernel_rfl
theorem amS{n:Int}:gJ "number" (.int n) (Dz p g r q)=Dz p {g with num:=n} r q:=by kernel_rfl
theorem amT:gJ "writer" .non (Dz p g r q)=Dz p {g with wr:=none} r q:=by kernel_rfl
theorem asO{d:Nat}:gJ "writer" (.int d) (Dz p g r q)=Dz p {g with wr:=some d} r q:=by kernel_rfl
theorem aw2{z:Addr}{l:List Nat}:gJ "readers" (.ref z) (Dz p g r q)=Dz p {g with rd:=l} z q:=by kernel_rfl
theorem aiR{k:Int}:gJ "awaited" (.int k) (Dz p g r q)=Dz p {g with miss:=k} r q:=by kernel_rfl
theorem ZM:(Dz p g r q).lookup ("page":Str)=some (.int p):=by kernel_rfl
theorem alx:(Dz p g r q).lookup ("number":Str)=some (.int g.num):=by kernel_rfl
theorem uU:(Dz p g r q).lookup ("writer":Str)=some (wrV g.wr):=by kernel_rfl
theorem wR:(Dz p g r q).lookup ("readers":Str)=some (.ref r):=by kernel_rfl
theorem uL:(Dz p g r q).lookup ("asked":Str)=some (.ref q):=by kernel_rfl
theorem Vq:(Dz p g r q).lookup ("awaited":Str)=some (.int g.miss):=by kernel_rfl
theorem wV:(Dz p g r q).length<1000:=by show 6<1000;decide
theorem aeE:(Dz p g r q).lookup ("serve":Str)=none:=by kernel_rfl
theorem aiS:(Dz p g r q).lookup ("lend":Str)=none:=by kernel_rfl
theorem ap6:(Dz p g r q).lookup ("bids_for_first":Str)=none:=by kernel_rfl
theorem aw3:(Dz p g r q).lookup ("let_write":Str)=none:=by kernel_rfl
theorem aw4:(Dz p g r q).lookup ("let_read":Str)=none:=by kernel_rfl
theorem aw5:(Dz p g r q).lookup ("take_ask":Str)=none:=by kernel_rfl
theorem aw6:(Dz p g r q).lookup ("take_answer":Str)=none:=by kernel_rfl
theorem aw7:(Dz p g r q).lookup ("take_gave":Str)=none:=by kernel_rfl
end
structure gH(C:Addr)(H:Hp)(a r q:Addr)(p:Nat)(g:PG):Prop where
 ob:∃dx,H a=some (.ins C dx (Dz p g r q))
 rl:H r=some (.lst (g.rd.map nV))
 al:∃vs,H q=some (.lst vs)/\aG H vs (g.ask.map uh)
 ne:r≠q
def Lv(H H':Hp):Prop:=∀b,H' b=none->H b=none
theorem Lv.refl(H:Hp):Lv H H:=λ_ h=>h
theorem Lv.trans{H H1 H2:Hp}(x:Lv H H1)(y:Lv H1 H2):Lv H H2:=λb h=>x b (y b h)
theorem Lv.upd{H:Hp}{a:Addr}{o:HO}:Lv H (upd H a o):=λb h=>by
 by_cases e:b=a
 ·rw[e,aj]at h;cases h
 ·rw[az e]at h;exact h
theorem Lv.same{H H':Hp}(h:bK H H'):Lv H H':=λb e=>by
 cases q:H b with
 | none=>rfl
 | some o=>rw[h b o q]at e;cases e
structure PF(H H':Hp)(a r q:Addr):Prop where
 kp:∀b o,H b=some o->b≠a->b≠r->b≠q->H' b=some o
 lv:Lv H H'
theorem PF.refl(H:Hp)(a r q:Addr):PF H H a r q:=⟨λ_ _ h _ _ _=>h,Lv.refl _⟩
theorem PF.trans{H H1 H2:Hp}{a r q:Addr}(x:PF H H1 a r q)(y:PF H1 H2 a r q):PF H H2 a r q:=⟨λb o h h1 h2 z=>y.kp b o (x.kp b o h h1 h2 z) h1 h2 z,x.lv.trans y.lv⟩
theorem PF.trans'{H H1 H2:Hp}{a r F q:Addr}(x:PF H H1 a r q)(y:PF H1 H2 a F q)(h:F=r\/H F=none):PF H H2 a r q:=⟨λb o I h1 h2 J=>y.kp b o (x.kp b o I h1 h2 J) h1 (by
 rcases h with z | z
 ·rw[z];exact h2
 ·exact aF I z) J,x.lv.trans y.lv⟩
theorem lQ(l:List (Nat×Rt)):D.flats (l.map uh):=by
 induction l with| nil=>simp[D.flats]| cons x l z=>simp only[map_cons,D.flats];exact⟨by simp[uh,D.flat,D.flats],z⟩
theorem Let.flat(l:Let):l.d.flat:=by cases l<;>simp[Let.d,D.flat,D.flats]
theorem dm(l:List (Nat×Let)):D.flats (l.map pairD):=by
 induction l with| nil=>simp[D.flats]| cons x l z=>simp only[map_cons,D.flats];exact⟨by simp only[pairD,D.flat,D.flats];exact⟨trivial,Let.flat _,trivial⟩,z⟩
section
variable{C:Addr}{H H':Hp}{a r q:Addr}{p:Nat}{g:PG}
theorem gH.nar(P:gH C H a r q p g):a≠r:=by obtain⟨⟨dx,h⟩,h2,_⟩:=P;exact jP h h2 ⟨⟩
theorem gH.naq(P:gH C H a r q p g):a≠q:=by obtain⟨⟨dx,h⟩,_,⟨vs,h2,_⟩,_⟩:=P;exact jP h h2 ⟨⟩
theorem PF.tups(P:gH C H a r q p g)(h:PF H H' a r q):cz H H':=λb xs e=>by
 obtain⟨⟨dx,h1⟩,h2,⟨vs,F,_⟩,_⟩:=P
 exact h.kp b _ e (jP e h1 ⟨⟩) (jP e h2 ⟨⟩) (jP e F ⟨⟩)
theorem gH.keep(P:gH C H a r q p g)(t:cz H H')(z:∀o,H a=some o->H' a=some o)(F:∀o,H r=some o->H' r=some o)(I:∀o,H q=some o->H' q=some o):gH C H' a r q p g:=by
 obtain⟨⟨dx,h1⟩,h2,⟨vs,J,L⟩,O⟩:=P;exact⟨⟨dx,z _ h1⟩,F _ h2,⟨vs,I _ J,L.aU t (lQ _)⟩,O⟩
theorem gH.same(P:gH C H a r q p g)(h:bK H H'):gH C H' a r q p g:=P.keep (λb xs e=>h b _ e) (λo e=>h _ o e) (λo e=>h _ o e) λo e=>h _ o e
theorem gH.new{b:Addr}{o:HO}(P:gH C H a r q p g)(h:H b=none):gH C (upd H b o) a r q p g:=P.same (aq h)
theorem PF.new{b:Addr}{o:HO}(h:H b=none):PF H (upd H b o) a r q:=⟨λc u e _ _ _=>aq h c u e,Lv.upd⟩
theorem gH.wr{dx:Addr}{g':PG}(P:gH C H a r q p g)(F:g'.rd=g.rd)(I:g'.ask=g.ask):gH C (upd H a (.ins C dx (Dz p g' r q))) a r q p g':=by
 have J:=P.nar;have L:=P.naq;obtain⟨⟨Z,h1⟩,h2,⟨vs,O,W⟩,Y⟩:=P;have t:cz H (upd H a (.ins C dx (Dz p g' r q))):=λb xs e=>by{rw[az (jP e h1 ⟨⟩)];exact e};exact⟨⟨dx,aj⟩,by rw[az J.symm,F];exact h2,⟨vs,by rw[az L.symm];exact O,by rw[I];exact W.aU t (lQ _)⟩,Y⟩
theorem PF.wr{o:HO}:PF H (upd H a o) a r q:=⟨λb u e h1 _ _=>by rw[az h1];exact e,Lv.upd⟩
theorem PF.wrR{o:HO}:PF H (upd H r o) a r q:=⟨λb u e _ h2 _=>by rw[az h2];exact e,Lv.upd⟩
theorem PF.wrQ{o:HO}:PF H (upd H q o) a r q:=⟨λb u e _ _ z=>by rw[az z];exact e,Lv.upd⟩
theorem gH.wrR{l:List Nat}(P:gH C H a r q p g):gH C (upd H r (.lst (l.map nV))) a r q p {g with rd:=l}:=by
 have I:=P.nar;obtain⟨⟨J,h1⟩,h2,⟨vs,L,O⟩,F⟩:=P;have t:cz H (upd H r (.lst (l.map nV))):=λb xs e=>by{rw[az (jP e h2 ⟨⟩)];exact e};exact⟨⟨J,by rw[az I];exact h1⟩,aj,⟨vs,by rw[az F.symm];exact L,O.aU t (lQ _)⟩,F⟩
theorem gH.wrQ{l:List (Nat×Rt)}{vs:List V}(P:gH C H a r q p g)(rp:aG H vs (l.map uh)):gH C (upd H q (.lst vs)) a r q p {g with ask:=l}:=by
 have I:=P.naq;obtain⟨⟨J,h1⟩,h2,⟨us,L,O⟩,F⟩:=P;have t:cz H (upd H q (.lst vs)):=λb xs e=>by{rw[az (jP e L ⟨⟩)];exact e};exact⟨⟨J,by rw[az I];exact h1⟩,by rw[az F];exact h2,⟨vs,aj,rp.aU t (lQ _)⟩,F⟩
theorem JN{H:Hp}{vs:List V}{x:Nat×Rt}{l:List (Nat×Rt)}(h:aG H vs ((x::l).map uh)):∃t us,vs=.ref t::us/\H t=some (.tup [.int x.1,.str x.2.s])/\aG H us (l.map uh):=by
 simp only[map_cons,aG]at h;obtain⟨v,us,e,z,rl⟩:=h;simp only[uh,Rep,aG]at z;obtain⟨t,xs,F,I,_,_,J,rfl,_,_,L,rfl,O⟩:=z;subst F O L J;exact⟨t,us,e,I,rl⟩
end
def amU(C:Addr)(H:Hp)(a r q:Addr)(p:Nat)(z:PG×List (Nat×Let))(Q:VK):Prop:=
 ∀l r' vs H',H l=none->(r'=r\/H r'=none)->l≠r'->gH C H' a r' q p z.1->PF H H' a r q->H' l=some (.lst vs)->aG H' vs (z.2.map pairD)->Q (.ref l) H'
def PG.mu(g:PG):Nat:=g.rd.length+2*g.ask.length
theorem PG.um(g:PG):g.lent.mu<=g.mu:=by
 unfold PG.lent PG.mu;cases h:g.ask with| nil=>simp[h]| cons x l=>obtain⟨a,r⟩:=x;dsimp only;split;{simp[jQ];lia};{simp only[jF];have z:g.wr.toList.length<=1:=by{cases g.wr<;>simp};split<;>simp[length_append]<;>lia}
def amV:Sp:=λvs H Q _=>∃x y z,vs=[x,y,z]/\∀a,H a=none->Q (.ref a) (upd H a (.tup [.str "lend",x,y,z]))
def ap7(C:Addr):Sp:=λvs H Q _=>∃a dx,∃p:Nat,∃n:Int,vs=[.ref a,.int p,.int n]/\H a=some (.ins C dx [])/\∀r q H',H r=none->H q=none->gH C H' a r q p ⟨n,none,[],[],0⟩->(∀b o,H b=some o->b≠a->H' b=some o)->Lv H H'->Q .non H'
def aw9(C:Addr):Sp:=λvs H Q _=>∃a r q p g,∃d:Nat,vs=[.ref a,.int d]/\gH C H a r q p g/\g.rd.length<=1000000/\∀H',gH C H' a r q p (jF g d)->PF H H' a r q->Q .non H'
def axa(C:Addr):Sp:=λvs H Q _=>∃a r q p g,∃d:Nat,vs=[.ref a,.int d]/\gH C H a r q p g/\∀r' H',H r'=none->gH C H' a r' q p (jQ g d)->PF H H' a r q->Q .non H'
def asQ(C:Addr):Sp:=λvs H Q _=>∃a r q p g d x l,vs=[.ref a]/\gH C H a r q p g/\g.ask=(d,x)::l/\(x=.rd\/x=.wr)/\g.rd.length<=1000000/\
 ∀v r' H',(r'=r\/H r'=none)->gH C H' a r' q p g.lent->PF H H' a r q->Rep H' v (pairD (d,.lend p x g.num))->Q v H'
def axb(C:Addr):Sp:=λvs H Q _=>∃a r q p g d x l,vs=[.ref a]/\gH C H a r q p g/\g.ask=(d,x)::l/\(x=.rd\/x=.wr)/\g.rd.length<=1000000/\
 ∀b us H',H b=none->bK H H'->H' b=some (.lst us)->aG H' us ((g.cL p).map pairD)->Q (.ref b) H'
def Rw(l:List (Nat×Rt)):Prop:=∀x∈l,x.2=.rd\/x.2=.wr
def asR(C:Addr):Sp:=λvs H Q _=>∃a r q p g,vs=[.ref a]/\gH C H a r q p g/\Rw g.ask/\g.mu<=1000000/\amU C H a r q p (g.serve p) Q
def aAl(C:Addr):Sp:=λvs H Q _=>∃a r q p g x,∃d:Nat,vs=[.ref a,.int d,.str (Rt.s x)]/\gH C H a r q p g/\(x=.rd\/x=.wr)/\Rw g.ask/\g.mu<=900000/\amU C H a r q p (g.take p d (.ask p x)) Q
def aAm(C:Addr):Sp:=λvs H Q _=>∃a r q p g o,∃d:Nat,vs=[.ref a,oV o]/\gH C H a r q p g/\(g.miss - 1=0->g.ask≠[])/\Rw g.ask/\g.mu<=900000/\amU C H a r q p (g.take p d (.ans p o)) Q
def axc(C:Addr):Sp:=λvs H Q _=>∃a r q p g,∃d:Nat,∃n:Int,vs=[.ref a,.int d,.int n]/\gH C H a r q p g/\amU C H a r q p (g.take p d (.gave p n)) Q
def kI{ι:Type}[DecidableEq ι](A:ι->Addr)(z:ι)(a:Addr):ι->Addr:=λx=>if x=z then a else A x
theorem di{ι:Type}[DecidableEq ι](A:ι->Addr)(z:ι)(a:Addr):kI A z a z=a:=by simp[kI]
theorem bO{ι:Type}[DecidableEq ι](A:ι->Addr){z x:ι}(a:Addr)(h:x≠z):kI A z a x=A x:=by simp[kI,h]
theorem Zb{ι:Type}[DecidableEq ι]{A:ι->Addr}{ok ok':ι->Prop}{z:ι}{a:Addr}(hi:∀x y,ok x->ok y->A x=A y->x=y)(I:∀x,ok x->A x≠a)(F:∀x,ok' x->x=z\/ok x) :
 ∀x y,ok' x->ok' y->kI A z a x=kI A z a y->x=y:=by
 intro x y J L e;by_cases h1:x=z;{by_cases h2:y=z;{rw[h1,h2]};{rw[h1,di,bO _ _ h2]at e;exact absurd e.symm (I y ((F y L).resolve_left h2))}};{by_cases h2:y=z;{rw[h2,di,bO _ _ h1]at e;exact absurd e (I x ((F x J).resolve_left h1))};{rw[bO _ _ h1,bO _ _ h2]at e;exact hi x y ((F x J).resolve_left h1) ((F y L).resolve_left h2) e}}
inductive Hb where
 | hall | pages | gP (p:Nat) | jn (p:Nat) | kh (p:Nat)
 deriving DecidableEq
def Hb.ok(m:Nat):Hb->Prop
 | .hall=>True
 | .pages=>True
 | .gP p=>p<m
 | .jn p=>p<m
 | .kh p=>p<m
def hfl(l:Addr):List (Str×V):=[("pages",.ref l)]
theorem aof{l:Addr}:(hfl l).lookup ("pages":Str)=some (.ref l):=by kernel_rfl
theorem ap8{l:Addr}:(hfl l).lookup ("take":Str)=none:=by kernel_rfl
theorem ap9{l:Addr}:gJ "pages" (.ref l) []=hfl l:=by kernel_rfl
structure mZ(CH CP:Addr)(H:Hp)(A:Hb->Addr)(m:Nat)(G:Nat->PG):Prop where
 inj:∀x y,x.ok m->y.ok m->A x=A y->x=y
 ob:∃dx,H (A .hall)=some (.ins CH dx (hfl (A .pages)))
 pl:H (A .pages)=some (.lst ((range m).map λp=>V.ref (A (.gP p))))
 pg:∀p,p<m->gH CP H (A (.gP p)) (A (.jn p)) (A (.kh p)) p (G p)
structure HF(H H':Hp)(A:Hb->Addr)(m:Nat):Prop where
 kp:∀b o,H b=some o->(∀x:Hb,x.ok m->b≠A x)->H' b=some o
 lv:Lv H H'
section
variable{CH CP:Addr}{H H':Hp}{A:Hb->Addr}{m:Nat}{G:Nat->PG}
theorem mZ.live(h:mZ CH CP H A m G)(x:Hb)(F:x.ok m):∃o,H (A x)=some o/\∀xs,o≠.tup xs:=by
 cases x with
 | hall=>obtain⟨dx,e⟩:=h.ob;exact⟨_,e,λ_ z=>by cases z⟩
 | pages=>exact⟨_,h.pl,λ_ z=>by cases z⟩
 | gP p=>obtain⟨⟨dx,e⟩,_⟩:=h.pg p F;exact⟨_,e,λ_ z=>by cases z⟩
 | jn p=>exact⟨_,(h.pg p F).rl,λ_ z=>by cases z⟩
 | kh p=>obtain⟨vs,e,_⟩:=(h.pg p F).al;exact⟨_,e,λ_ z=>by cases z⟩
theorem mZ.keep(h:mZ CH CP H A m G)(t:cz H H')(k:∀x:Hb,x.ok m->∀o,H (A x)=some o->H' (A x)=some o):mZ CH CP H' A m G:=by
 refine⟨h.inj,?_,k .pages trivial _ h.pl,λp hp=>(h.pg p hp).keep t (k (.gP p) hp) (k (.jn p) hp) (k (.kh p) hp)⟩;obtain⟨dx,e⟩:=h.ob;exact⟨dx,k .hall trivial _ e⟩
theorem HF.tups(h:mZ CH CP H A m G)(f:HF H H' A m):cz H H':=λb xs e=>f.kp b _ e λx I z=>by
 obtain⟨o,F,J⟩:=h.live x I
 rw[<-z,e]at F
 exact J xs (Option.some.inj F).symm
theorem mZ.page{p:Nat}{g':PG}{F:Addr}(h:mZ CH CP H A m G)(hp:p<m)(P:gH CP H' (A (.gP p)) F (A (.kh p)) p g')(f:PF H H' (A (.gP p)) (A (.jn p)) (A (.kh p)))(Z:F=A (.jn p)\/H F=none) :
 mZ CH CP H' (kI A (.jn p) F) m (aM G p g')/\HF H H' A m:=by
 have tp:=f.tups (h.pg p hp);have J:∀x:Hb,x.ok m->x≠.gP p->x≠.jn p->x≠.kh p->∀o,H (A x)=some o->H' (A x)=some o:=λx I n1 n2 n3 o e=>
  f.kp _ o e (λz=>n1 (h.inj _ _ I hp z)) (λz=>n2 (h.inj _ _ I hp z)) λz=>n3 (h.inj _ _ I hp z)
 refine⟨⟨?_,?_,?_,λj O=>?_⟩,⟨λb o e W=>f.kp b o e (W _ hp) (W (.jn p) hp) (W (.kh p) hp),f.lv⟩⟩;{intro x y I Y e;by_cases h1:x=.jn p;{by_cases h2:y=.jn p;{rw[h1,h2]};{rw[h1,di,bO _ _ h2]at e;rcases Z with z | z;{rw[z]at e;rw[h1];exact h.inj _ _ hp Y e};{obtain⟨o,L,_⟩:=h.live y Y;rw[<-e,z]at L;cases L}}};{by_cases h2:y=.jn p;{rw[h2,di,bO _ _ h1]at e;rcases Z with z | z;{rw[z]at e;rw[h2];exact h.inj _ _ I hp e};{obtain⟨o,L,_⟩:=h.live x I;rw[e,z]at L;cases L}};{rw[bO _ _ h1,bO _ _ h2]at e;exact h.inj _ _ I Y e}}};{obtain⟨dx,e⟩:=h.ob;refine⟨dx,?_⟩;rw[bO _ _ ⟨⟩,bO _ _ ⟨⟩];exact J .hall trivial ⟨⟩ ⟨⟩ ⟨⟩ _ e};{rw[bO _ _ ⟨⟩];have e:=J .pages trivial ⟨⟩ ⟨⟩ ⟨⟩ _ h.pl;rw[e];congr 2};{by_cases e:j=p;{subst e;rw[show kI A (.jn j) F (.gP j)=A (.gP j)by simp[kI],show kI A (.jn j) F (.kh j)=A (.kh j)by simp[kI],di,aJ];exact P};{rw[show kI A (.jn p) F (.gP j)=A (.gP j)by simp[kI],show kI A (.jn p) F (.kh j)=A (.kh j)by simp[kI],show kI A (.jn p) F (.jn j)=A (.jn j)by simp[kI,e],aX _ _ e];exact(h.pg j O).keep tp (J (.gP j) O (by intro z;cases z;exact e rfl) ⟨⟩ ⟨⟩) (J (.jn j) O ⟨⟩ (by intro z;cases z;exact e rfl) ⟨⟩) (J (.kh j) O ⟨⟩ ⟨⟩ (by intro z;cases z;exact e rfl))}}
end
def UL.good(g:PG):UL->Prop
 | .ask _ r=>r=.rd\/r=.wr
 | .ans _ _=>g.miss - 1=0->g.ask≠[]
 | .gave _ _=>True
def aDF(CH CP:Addr)(H:Hp)(A:Hb->Addr)(m:Nat)(G:Nat->PG)(p:Nat)(z:PG×List (Nat×Let))(Q:VK):Prop:=
 ∀l A' vs H',H l=none->mZ CH CP H' A' m (aM G p z.1)->HF H H' A m->(∀x:Hb,x.ok m->A' x=A x\/H (A' x)=none)->(∀x:Hb,x.ok m->l≠A' x)->A' .hall=A .hall->H' l=some (.lst vs)->aG H' vs (z.2.map pairD)->Q (.ref l) H'
def aly(CH CP:Addr):Sp:=λvs H Q _=>∃A m G b l,∃d:Nat,vs=[.ref (A .hall),.int d,.ref b]/\mZ CH CP H A m G/\H b=some (.tup (UL.vs l))/\l.pg<m/\l.good (G l.pg)/\Rw (G l.pg).ask/\(G l.pg).mu<=900000/\
 aDF CH CP H A m G l.pg ((G l.pg).take l.pg d l) Q
def pg0(ns:List Int)(p:Nat):PG:=⟨(ns[p]?).getD 0,none,[],[],0⟩
def alA(CH CP:Addr):Sp:=λvs H Q _=>∃h dx l,∃ns:List Int,vs=[.ref h,.ref l]/\H h=some (.ins CH dx [])/\H l=some (.lst (ns.map V.int))/\ns.length<=1000/\
 ∀A H',A .hall=h->(∀x:Hb,x.ok ns.length->x≠.hall->H (A x)=none)->mZ CH CP H' A ns.length (pg0 ns)->(∀b o,H b=some o->b≠h->H' b=some o)->Lv H H'->Q .non H'
structure WL(n:Nat)(g:PG):Prop where
 w:∀x,g.wr=some x->x<n
 r:∀x∈g.rd,x<n
 q:∀x∈g.ask,x.1<n/\(x.2=.rd\/x.2=.wr)
theorem WL.rw{n:Nat}{g:PG}(h:WL n g):Rw g.ask:=λx z=>(h.q x z).2
def Let.nice:Let->Prop
 | .lend _ r _=>r=.rd\/r=.wr
 | .back _ r=>r=.rd\/r=.no
def Let.bk(p:Nat):Let->Bool
 | .back q _=>decide (q=(p:Int))
 | .lend _ _ _=>false
def UL.an(p:Nat):UL->Bool
 | .ans q _=>decide (q=p)
 | _=>false
def Ke(n p:Nat)(ls:List (Nat×Let)):Prop:=∀q∈ls,q.1<n/\q.2.pg=(p:Int)/\q.2.nice
theorem WL.cL{n:Nat}{g:PG}(h:WL n g)(p:Nat):Ke n p (g.cL p)/\(g.cL p).countP (λq=>q.2.bk p)=(g.cL p).length:=by
 have F:∀x∈g.cL p,(x.1<n/\x.2.pg=(p:Int)/\x.2.nice)/\x.2.bk p=true:=by{intro x z;unfold PG.cL at z;split at z;{cases z};{rename_i a r l L;rcases mem_append.mp z with z | z;{unfold oJ at z;split at z;{rename_i I J;split at z;{cases z};{have this:=mem_singleton.mp z;rw[this];refine⟨⟨h.w I J,rfl,?_⟩,by simp[Let.bk]⟩;unfold low;split;{exact .inl rfl};{exact .inr rfl}}};{cases z}};{unfold oK at z;split at z;{obtain⟨d,hd,e⟩:=mem_map.mp z;rw[<-e];exact⟨⟨h.r d (mem_filter.mp hd).1,rfl,.inr rfl⟩,by simp[Let.bk]⟩};{cases z}}}};exact⟨λx z=>(F x z).1,countP_eq_length.mpr λx z=>(F x z).2⟩
theorem WL.lent{n:Nat}{g:PG}(h:WL n g):WL n g.lent:=by
 unfold PG.lent;cases e:g.ask with| nil=>exact h| cons x l=>obtain⟨a,r⟩:=x;have I:a<n:=(h.q (a,r) (by rw[e];simp)).1;have hl:∀x∈l,x.1<n/\(x.2=.rd\/x.2=.wr):=λx z=>h.q x (by rw[e];exact mem_cons_of_mem _ z);have F:∀x∈g.rd++g.wr.toList,x<n:=λx z=>by{rcases mem_append.mp z with z | z;{exact h.r x z};{exact h.w x (by cases J:g.wr with | none=>rw[J]at z;simp at z | some y=>rw[J]at z;simp at z;rw[z])}};dsimp only;split;{refine⟨λx z=>?_,λx z=>by simp[jQ]at z,hl⟩;have e:a=x:=by{simpa[jQ] using z};rw[<-e];exact I};{refine⟨λx z=>by simp[jF]at z,λx z=>?_,hl⟩;simp only[jF]at z;split at z;{exact F x z};{rcases mem_append.mp z with z | z;{exact F x z};{have:x=a:=by{simpa using z};rw[this];exact I}}}
theorem PG.zA(g:PG):g.lent.miss=g.miss:=by
 unfold PG.lent;cases g.ask with| nil=>rfl| cons x l=>obtain⟨a,r⟩:=x;dsimp only;split<;>rfl
theorem WL.dM{n:Nat}{g:PG}(h:WL n g)(p:Nat):Ke n p (g.dM p)/\(g.dM p).countP (λq=>q.2.bk p)=0:=by
 unfold PG.dM;cases e:g.ask with| nil=>exact⟨λq z=>by simp at z,rfl⟩| cons x l=>obtain⟨a,r⟩:=x;have F:=h.q (a,r) (by rw[e];simp);refine⟨λq z=>?_,by simp[Let.bk]⟩;have this:=mem_singleton.mp z;rw[this];exact⟨F.1,rfl,F.2⟩
theorem Ke.append{n p:Nat}{a b:List (Nat×Let)}(x:Ke n p a)(y:Ke n p b):Ke n p (a++b):=λq z=>(mem_append.mp z).elim (x q) (y q)
theorem zB:∀(k:Nat) {n:Nat} {g:PG} (p:Nat),g.ask.length=k->WL n g->g.miss=0->
 WL n (g.serve p).1/\Ke n p (g.serve p).2/\((g.serve p).2.countP (λq=>q.2.bk p):Int)=(g.serve p).1.miss/\((g.serve p).1.ask=[]↔(g.serve p).1.miss=0)
 | 0,n,g,p,hk,h,F=>by
   have e:g.ask=[]:=length_eq_zero_iff.mp hk
   rw[uJ e]
   exact⟨h,λq O=>by simp at O,by simp[F],by simp[e,F]⟩
 | k+1,n,g,p,hk,h,F=>by
   have e:g.ask≠[]:=λz=>by rw[z]at hk;simp at hk
   by_cases I:g.cL p=[]
   ·rw[qF e I]
    obtain⟨W,Y,Z,i4⟩:=zB k (n:=n) (g:=g.lent) p (by rw[PG.zz,hk];rfl) h.lent (by rw[PG.zA];exact F)
    obtain⟨J,L⟩:=h.dM p
    exact⟨W,J.append Y,by rw[countP_append,L,Nat.zero_add];exact Z,i4⟩
   ·rw[uK e I]
    obtain⟨J,L⟩:=h.cL p
    refine⟨⟨h.w,h.r,h.q⟩,J,by rw[L],⟨λz=>absurd z e,λz=>?_⟩⟩
    have:(g.cL p).length=0:=by have z':((g.cL p).length:Int)=0:=z;lia
    exact absurd (length_eq_zero_iff.mp this) I
theorem PG.zB{n:Nat}{g:PG}(p:Nat)(h:WL n g)(z:g.miss=0) :
 WL n (g.serve p).1/\Ke n p (g.serve p).2/\((g.serve p).2.countP (λq=>q.2.bk p):Int)=(g.serve p).1.miss/\((g.serve p).1.ask=[]↔(g.serve p).1.miss=0):=fV.zB _ p rfl h z
theorem aAn{A B C D E:Prop}(h:E)(z:A/\B/\C/\D):A/\B/\C/\D/\E:=⟨z.1,z.2.1,z.2.2.1,z.2.2.2,h⟩
theorem PG.aqa{n:Nat}{g:PG}{p d:Nat}{l:UL}{c:Nat}(h:WL n g)(I:g.ask=[]↔g.miss=0)(hd:d<n)(hr:∀q r,l=.ask q r->r=.rd\/r=.wr)(hp:l.pg=p)(Y:((c+if l.an p then 1 else 0:Nat):Int)=g.miss) :
 WL n (g.take p d l).1/\Ke n p (g.take p d l).2/\(((g.take p d l).2.countP (λq=>q.2.bk p)+c:Nat):Int)=(g.take p d l).1.miss/\((g.take p d l).1.ask=[]↔(g.take p d l).1.miss=0)/\l.good g:=by
 cases l with
 | ask q r=>have Z:=hr q r rfl;have J:(c:Int)=g.miss:=by{simpa[UL.an] using Y};refine aAn Z ?_;simp only[PG.take];by_cases e:g.ask=[];{rw[if_pos e];have h0:=I.mp e;obtain⟨i1,i2,i3,i4⟩:=PG.zB (n:=n) (g:={g with ask:=[(d,r)]}) p ⟨h.w,h.r,λx F=>by rw[mem_singleton.mp F];exact⟨hd,Z⟩⟩ h0;have c0:c=0:=by{lia};exact⟨i1,i2,by rw[c0];exact i3,i4⟩};{rw[if_neg e];refine⟨⟨h.w,h.r,λx F=>?_⟩,λq L=>by simp at L,by simpa using J,⟨λz=>by simp at z,λz=>absurd (I.mpr z) e⟩⟩;rcases mem_append.mp F with F | F;{exact h.q x F};{have:x=(d,r):=by{simpa using F};rw[this];exact⟨hd,Z⟩}}
 | ans q o=>have L:q=p:=hp;subst L;have J:(c:Int)+1=g.miss:=by{simpa[UL.an] using Y};have O:g.ask≠[]:=λz=>by{have:=I.mp z;lia};refine aAn (λ_=>O) ?_;simp only[PG.take];by_cases e:g.miss - 1=0;{rw[if_pos e];have hg:WL n ({g with num:=o.getD g.num,miss:=g.miss - 1}:PG):=⟨h.w,h.r,h.q⟩;generalize ah:({g with num:=o.getD g.num,miss:=g.miss - 1}:PG)=g2 at hg;have ai:g2.miss=0:=by{rw[<-ah];exact e};obtain⟨i1,i2,i3,i4⟩:=PG.zB (n:=n) (g:=g2.lent) q hg.lent (by rw[PG.zA];exact ai);obtain⟨j1,j2⟩:=hg.dM q;have c0:c=0:=by{lia};exact⟨i1,j1.append i2,by rw[c0,countP_append,j2,Nat.zero_add,Nat.add_zero];exact i3,i4⟩};{rw[if_neg e];refine⟨⟨h.w,h.r,h.q⟩,λq L=>by simp at L,?_,⟨λz=>absurd z O,λz=>absurd z e⟩⟩;show((0+c:Nat):Int)=g.miss - 1;lia}
 | gave q x=>have J:(c:Int)=g.miss:=by{simpa[UL.an] using Y};simp only[PG.take];refine⟨⟨λy W=>?_,h.r,h.q⟩,λq L=>by simp at L,by simpa using J,I,trivial⟩;dsimp only at W;split at W;{cases W};{exact h.w y W}
def dX(n:Nat)(f:Nat->Nat):Nat:=((range n).map f).sum
theorem eO(n:Nat)(f:Nat->Nat):dX (n+1) f=dX n f+f n:=by unfold dX;rw[range_succ,map_append,sum_append];simp
theorem fW{n:Nat}{f g:Nat->Nat}(h:∀e,e<n->f e=g e):dX n f=dX n g:=by
 induction n with| zero=>rfl| succ n z=>rw[eO,eO,z λe F=>h e (Nat.lt_succ_of_lt F),h n (Nat.lt_succ_self n)]
theorem oM{n d:Nat}{f g:Nat->Nat}(hd:d<n)(h:∀e,e≠d->g e=f e):dX n g+f d=dX n f+g d:=by
 induction n with| zero=>exact absurd hd (Nat.not_lt_zero _)| succ n z=>rw[eO,eO];by_cases e:d=n;{subst e;have:=fW (n:=d) (f:=g) (g:=f) λe F=>h e (ne_of_lt F);lia};{have h1:=z (by lia);have h2:=h n (Ne.symm e);lia}
theorem asS{n d:Nat}{f:Nat->Nat}(hd:d<n):f d<=dX n f:=by
 induction n with| zero=>exact absurd hd (Nat.not_lt_zero _)| succ n z=>rw[eO];by_cases e:d=n;{subst e;lia};{have:=z (by lia);lia}
def cnt(n p:Nat)(up:Nat->List UL)(dn:Nat->List Let):Nat:=dX n λd=>(up d).countP (UL.an p)+(dn d).countP (Let.bk p)
theorem afv{n p d:Nat}{up:Nat->List UL}{dn:Nat->List Let}(hd:d<n)(l:List UL):cnt n p (aM up d l) dn+(up d).countP (UL.an p)=cnt n p up dn+l.countP (UL.an p):=by
 have:=oM (n:=n) (d:=d) (f:=λd=>(up d).countP (UL.an p)+(dn d).countP (Let.bk p)) (g:=λe=>(aM up d l e).countP (UL.an p)+(dn e).countP (Let.bk p)) hd λe z=>by{simp only[aX _ _ z]};simp only[aJ]at this;unfold cnt;lia
theorem alB{n p d:Nat}{up:Nat->List UL}{dn:Nat->List Let}(hd:d<n)(l:List Let):cnt n p up (aM dn d l)+(dn d).countP (Let.bk p)=cnt n p up dn+l.countP (Let.bk p):=by
 have:=oM (n:=n) (d:=d) (f:=λd=>(up d).countP (UL.an p)+(dn d).countP (Let.bk p)) (g:=λe=>(up e).countP (UL.an p)+(aM dn d l e).countP (Let.bk p)) hd λe z=>by{simp only[aX _ _ z]};simp only[aJ]at this;unfold cnt;lia
theorem aiT{n p:Nat}{up:Nat->List UL}:∀(z:List (Nat×Let)) {dn:Nat->List Let},(∀q∈z,q.1<n)->cnt n p up (post dn z)=cnt n p up dn+z.countP (λq=>q.2.bk p)
 | [],dn,_=>by simp[post]
 | x::z,dn,h=>by rw[qG,aiT z λq F=>h q (mem_cons_of_mem _ F),countP_cons];have:=alB (p:=p) (up:=up) (dn:=dn) (h x (by simp)) (dn x.1++[x.2]);rw[countP_append]at this;simp only[countP_cons,countP_nil]at this;split at this<;>simp_all<;>lia
theorem aqb{dn:Nat->List Let}{z:List (Nat×Let)}{d:Nat}{l:Let}(h:l∈post dn z d):l∈dn d\/(d,l)∈z:=by
 induction z generalizing dn with| nil=>exact .inl h| cons x z F=>rw[qG]at h;rcases F h with h | h;{by_cases e:d=x.1;{subst e;rw[aJ]at h;rcases mem_append.mp h with h | h;{exact .inl h};{have:l=x.2:=by{simpa using h};exact .inr (by rw[this];exact mem_cons_self)}};{rw[aX _ _ e]at h;exact .inl h}};{exact .inr (mem_cons_of_mem _ h)}
structure ik(n m:Nat)(S:TS):Prop where
 pn:∀p,p<m->WL n (S.pg p)
 am:∀p,p<m->((S.pg p).ask=[]↔(S.pg p).miss=0)
 up:∀d,d<n->∀l∈S.up d,l.pg<m/\∀p r,l=.ask p r->r=.rd\/r=.wr
 dn:∀d,d<n->∀l∈S.dn d,∃p:Nat,p<m/\l.pg=(p:Int)/\l.nice
 ws:∀d,d<n->∀w,(S.ds d).ws=some w->∃p:Nat,p<m/\w.pg=(p:Int)
 ct:∀p,p<m->(cnt n p S.up S.dn:Int)=(S.pg p).miss
theorem ik.take{n m d:Nat}{S:TS}{l:UL}{r:List UL}(I:ik n m S)(hd:d<n)(e:S.up d=l::r):ik n m (S.Ph d l r)/\l.pg<m/\l.good (S.pg l.pg)/\Ke n l.pg ((S.pg l.pg).take l.pg d l).2:=by
 obtain⟨hp,hr⟩:=I.up d hd l (by rw[e];simp);have ah:=afv (p:=l.pg) (up:=S.up) (dn:=S.dn) hd r;have h1:(S.up d).countP (UL.an l.pg)=r.countP (UL.an l.pg)+if l.an l.pg then 1 else 0:=by{rw[e,countP_cons]};have Z:=I.ct l.pg hp;have aa:((cnt n l.pg (aM S.up d r) S.dn+if l.an l.pg then 1 else 0:Nat):Int)=(S.pg l.pg).miss:=by{rw[<-Z];have:cnt n l.pg (aM S.up d r) S.dn+(if l.an l.pg then 1 else 0)=cnt n l.pg S.up S.dn:=by{lia};rw[this]};obtain⟨i1,W,i3,i4,i5⟩:=PG.aqa (I.pn l.pg hp) (I.am l.pg hp) hd hr rfl aa;refine⟨⟨λp h=>?_,λp h=>?_,λJ he L hl=>?_,λJ he L hl=>?_,I.ws,λp h=>?_⟩,hp,i5,W⟩;{show WL n (aM S.pg l.pg _ p);by_cases z:p=l.pg;{rw[z,aJ];exact i1};{rw[aX _ _ z];exact I.pn p h}};{show(aM S.pg l.pg _ p).ask=[]↔(aM S.pg l.pg _ p).miss=0;by_cases z:p=l.pg;{rw[z,aJ];exact i4};{rw[aX _ _ z];exact I.am p h}};{have F:L∈aM S.up d r J:=hl;by_cases z:J=d;{rw[z,aJ]at F;exact I.up d hd L (by rw[e];exact mem_cons_of_mem _ F)};{rw[aX _ _ z]at F;exact I.up J he L F}};{rcases aqb (show L∈post S.dn _ J from hl)with h | h;{exact I.dn J he L h};{obtain⟨_,h2,h3⟩:=W _ h;exact⟨l.pg,hp,h2,h3⟩}};{show(cnt n p (aM S.up d r) (post S.dn _):Int)=(aM S.pg l.pg _ p).miss;rw[aiT _ λq hq=>(W q hq).1];by_cases z:p=l.pg;{subst z;rw[aJ,<-i3,Nat.add_comm]};{rw[aX _ _ z,<-I.ct p h];have h2:=afv (p:=p) (up:=S.up) (dn:=S.dn) hd r;have h3:(S.up d).countP (UL.an p)=r.countP (UL.an p):=by{rw[e,countP_cons];have:l.an p=false:=by{cases l<;>simp_all [UL.an,UL.pg];lia};rw[this];simp};have h4:(((S.pg l.pg).take l.pg d l).2.countP λq=>q.2.bk p)=0:=by{rw[countP_eq_zero];intro q hq Y;obtain⟨_,h5,_⟩:=W q hq;cases O:q.2 with| lend a b c=>rw[O]at Y;simp[Let.bk]at Y| back a b=>rw[O]at Y h5;simp only[Let.bk,decide_eq_true_eq]at Y;have h6:a=(l.pg:Int):=h5;lia};rw[h4];have:cnt n p (aM S.up d r) S.dn=cnt n p S.up S.dn:=by{lia};rw[this];rfl}}
theorem ik.jG{n m d:Nat}{S:TS}{z:DS×List Ev×List UL}(I:ik n m S)(hd:d<n)(L:∀l∈z.2.2,l.pg<m/\∀p r,l=.ask p r->r=.rd\/r=.wr)(O:∀w,z.1.ws=some w->∃p:Nat,p<m/\w.pg=(p:Int))(W:∀p,z.2.2.countP (UL.an p)=0):ik n m (S.jG d z):=by
 refine⟨I.pn,I.am,λe J l hl=>?_,I.dn,λe J w h=>?_,λp h=>?_⟩;{have F:l∈aM S.up d (S.up d++z.2.2) e:=hl;by_cases y:e=d;{rw[y,aJ]at F;rcases mem_append.mp F with F | F;{exact I.up d hd l F};{exact L l F}};{rw[aX _ _ y]at F;exact I.up e J l F}};{have h':(aM S.ds d z.1 e).ws=some w:=h;by_cases y:e=d;{rw[y,aJ]at h';exact O w h'};{rw[aX _ _ y]at h';exact I.ws e J w h'}};{show(cnt n p (aM S.up d (S.up d++z.2.2)) S.dn:Int)=(S.pg p).miss;rw[<-I.ct p h];have:=afv (p:=p) (up:=S.up) (dn:=S.dn) hd (S.up d++z.2.2);rw[countP_append,W p]at this;have:cnt n p (aM S.up d (S.up d++z.2.2)) S.dn=cnt n p S.up S.dn:=by{lia};rw[this]}
theorem DS.JP(S:DS)(p:Int)(r:Rt)(x:Int):(S.hold p r x).ws=S.ws:=rfl
theorem DS.Zc(S:DS)(w:W):(S.done w).ws=S.ws:=by cases w<;>rfl
theorem ik.lu{n m d p:Nat}{S:TS}(I:ik n m S)(hd:d<n)(hp:p<m):ik n m (S.lu d p):=by
 refine I.jG hd ?_ (λw h=>I.ws d hd w h) λq=>?_;{intro l hl;have F:l∈(if(S.ds d).rt p=.wr then [UL.gave p ((S.ds d).nm p)]else []):=hl;split at F;{have this:=mem_singleton.mp F;rw[this];exact⟨hp,λ_ _ z=>by cases z⟩};{cases F}};{show(if(S.ds d).rt p=.wr then [UL.gave p ((S.ds d).nm p)]else []).countP (UL.an q)=0;split<;>simp[UL.an]}
theorem W.asT(w:W):w.need=.rd\/w.need=.wr:=by cases w<;>simp[W.need]
theorem ik.want{n m d p:Nat}{S:TS}{w:W}(I:ik n m S)(hd:d<n)(hp:p<m)(F:w.pg=(p:Int)):ik n m (S.jG d ((S.ds d).il w p)):=by
 unfold DS.il;split;{refine I.jG hd (λl hl=>by cases hl) (λz h=>?_) λq=>rfl;have h':((S.ds d).done w).ws=some z:=h;rw[DS.Zc]at h';exact I.ws d hd z h'};{refine I.jG hd (λl hl=>?_) (λz h=>?_) λq=>by{simp[UL.an]};{have this:=mem_singleton.mp hl;rw[this];exact⟨hp,λq r e=>by cases e;exact w.asT⟩};{have h':some w=some z:=h;cases h';exact⟨p,hp,F⟩}}
theorem ik.Bj{n m d:Nat}{S:TS}{l:Let}{r:List Let}(I:ik n m S)(hd:d<n)(e:S.dn d=l::r):ik n m (S.Bj d l r):=by
 obtain⟨p,hp,aa,hn⟩:=I.dn d hd l (by rw[e];simp);have Y:∀J ,J<n->∀W∈aM S.dn d r J,∃p:Nat,p<m/\W.pg=(p:Int)/\W.nice:=λJ Z W hl=>by{by_cases y:J=d;{rw[y,aJ]at hl;exact I.dn d hd W (by rw[e];exact mem_cons_of_mem _ hl)};{rw[aX _ _ y]at hl;exact I.dn J Z W hl}};cases l with
 | lend q x k=>
   have I1:ik n m {S with dn:=aM S.dn d r}:=⟨I.pn,I.am,I.up,Y,I.ws,λp h=>by
    show(cnt n p S.up (aM S.dn d r):Int)=_
    rw[<-I.ct p h]
    have:=alB (p:=p) (up:=S.up) (dn:=S.dn) hd r
    rw[e,countP_cons]at this
    simp[Let.bk]at this
    rw[this]⟩
   refine I1.jG hd (λl hl=>by cases hl) (λw h=>?_) λq=>rfl;have h':((S.ds d).lr q x k).1.ws=some w:=h;unfold DS.lr at h';cases L:(S.ds d).ws with| none=>rw[L]at h';rw[DS.JP,L]at h';cases h'| some w0=>rw[L]at h';dsimp only at h';split at h';{rw[DS.Zc]at h';cases h'};{rw[DS.JP,L]at h';cases h';exact I.ws d hd _ L}
 | back q x=>have hq:q=(p:Int):=aa;refine⟨I.pn,I.am,λJ Z W hl=>?_,Y,λJ Z w h=>?_,λO h=>?_⟩;{have F:W∈aM S.up d (S.up d++[UL.ans q.toNat ((S.ds d).lX q)]) J:=hl;by_cases y:J=d;{rw[y,aJ]at F;rcases mem_append.mp F with F | F;{exact I.up d hd W F};{have this:=mem_singleton.mp F;rw[this];exact⟨by show q.toNat<m;rw[hq];exact hp,λ_ _ z=>by cases z⟩}};{rw[aX _ _ y]at F;exact I.up J Z W F}};{have h':(aM S.ds d ((S.ds d).down q x) J).ws=some w:=h;by_cases y:J=d;{rw[y,aJ]at h';refine I.ws d hd w ?_;unfold DS.down at h';split at h';{exact h'};{exact h'}};{rw[aX _ _ y]at h';exact I.ws J Z w h'}};{show(cnt n O (aM S.up d (S.up d++[UL.ans q.toNat ((S.ds d).lX q)])) (aM S.dn d r):Int)=(S.pg O).miss;rw[<-I.ct O h];have h1:=afv (p:=O) (up:=S.up) (dn:=aM S.dn d r) hd (S.up d++[UL.ans q.toNat ((S.ds d).lX q)]);have h2:=alB (p:=O) (up:=S.up) (dn:=S.dn) hd r;rw[countP_append]at h1;rw[e,countP_cons]at h2;have h3:[UL.ans q.toNat ((S.ds d).lX q)].countP (UL.an O)=if(Let.back q x).bk O then 1 else 0:=by{rw[hq];simp only[countP_cons,countP_nil,UL.an,Let.bk,Int.toNat_natCast,Nat.zero_add];by_cases z:p=O;{subst z;simp};{have:¬((p:Int)=(O:Int)):=by{lia};simp[z,this]}};have:cnt n O (aM S.up d (S.up d++[UL.ans q.toNat ((S.ds d).lX q)])) (aM S.dn d r)=cnt n O S.up S.dn:=by{lia};rw[this]}
theorem ik.step{n m:Nat}{S:TS}(I:ik n m S)(x:bG):ik n m (S.step n m x).1:=by
 cases x with
 | up d=>simp only[TS.step];split;{rename_i h;have hd:d.toNat<n:=by{unfold inR at h;lia};unfold TS.upD;cases e:S.up d.toNat with| nil=>exact I| cons l r=>exact(I.take hd e).1};{exact I}
 | down d=>simp only[TS.step];split;{rename_i h;have hd:d.toNat<n:=by{unfold inR at h;lia};unfold TS.Kd;cases e:S.dn d.toNat with| nil=>exact I| cons l r=>exact I.Bj hd e};{exact I}
 | rest d p=>simp only[TS.step];split;{rename_i h;split;{rename_i h2;split;{exact I};{exact I.lu (by unfold inR at h;lia) (by unfold inR at h2;lia)}};{exact I}};{exact I}
 | look d p=>simp only[TS.step];split;{rename_i h;split;{rename_i h2;unfold TS.wish;split;{exact I};{exact I.want (by unfold inR at h;lia) (by unfold inR at h2;lia) (by show p=_;unfold inR at h2;lia)}};{exact I}};{exact I}
 | put d p x=>simp only[TS.step];split;{rename_i h;split;{rename_i h2;unfold TS.wish;split;{exact I};{exact I.want (by unfold inR at h;lia) (by unfold inR at h2;lia) (by show p=_;unfold inR at h2;lia)}};{exact I}};{exact I}
theorem axd(x:V)(xs:List V):S6 (x::xs) 0=some x:=iH (j:=0) rfl
theorem UL.at1(l:UL):S6 l.vs 1=some (.int l.pg):=by cases l<;>rfl
theorem bR{m p:Nat}{f:Nat->V}(h:p<m):S6 ((range m).map f) (p:Int)=some (f p):=iH (by rw[getElem?_map,getElem?_range h];rfl)
theorem aAo{X:Cx}{K:Frag}{r:Frag->R2}(h:IxR X (r X.K))(e:X.K=K):IxR X (r K):=e▸h
theorem acG{X:Cx}{K:Frag}(e:X.K=K):Vj X (.builtin "len") (λxs H Q=>∃p ys,xs=[.ref p]/\(bU K H p ys\/cW K H p ys)/\Q (.int ys.length) H):=by subst e;exact cJ
theorem acH{X:Cx}{K:Frag}(e:X.K=K):Vj X (.type "list") (λxs H Q=>∃p ys,xs=[.ref p]/\(bU K H p ys\/cW K H p ys)/\∀l,H l=none->Q (.ref l) (upd H l (.lst ys))):=by subst e;exact lO
theorem asU{X:Cx}{K:Frag}{e:Expr}{f:Str}{pos:Pos}{ta:TE}(z:X.K=K)(F:PE X e ta)(I:attributeBase e f X.env (eval e X.env)=eval e X.env):PE X (.Attribute e f pos) (afl K ta f):=by subst z;exact cM F I
theorem amW{X:Cx}{K:Frag}{pos:Pos}{es:List Expr}{k:Nat}{t:TGs}{n:Nat}(F:X.K=K)(I:X.calm=true)(h:PGs X es t)
 (J:(assignEach es X.env).length=n:=by rfl) (z:(assignEach es X.env).findIdx? (·.1)=none:=by rfl):L2.PG X (.Tuple es k pos) (azQ K n t):=by subst F;exact Gz I h J z
inductive Mb where
 | bf | row | dN | dg | sent | rights | copies | ups | downs
 | rt (d:Nat) | cp (d:Nat) | up (d:Nat) | dn (d:Nat) | b8 (p:Nat) | jn (p:Nat) | kh (p:Nat)
 deriving DecidableEq
def Mb.ok(n m:Nat):Mb->Prop
 | .rt d=>d<n
 | .cp d=>d<n
 | .up d=>d<n
 | .dn d=>d<n
 | .b8 p=>p<m
 | .jn p=>p<m
 | .kh p=>p<m
 | _=>True
def ks(x:Str):Key:=Sum.inr x
def tkv(A:Mb->Addr):List (Key×V):=[(ks "row",.ref (A .row)),(ks "wishes",.ref (A .dN)),(ks "shelves",.ref (A .dg)),(ks "sent",.ref (A .sent)),(ks "rights",.ref (A .rights)),(ks "copies",.ref (A .copies)),(ks "ups",.ref (A .ups)),(ks "downs",.ref (A .downs))]
def wrI:Option Nat->Int
 | none => -1
 | some w=>w
def Ax(g:PG)(r q:Addr):List (Key×V):=[(ks "number",.int g.num),(ks "writer",.int (wrI g.wr)),(ks "readers",.ref r),(ks "asked",.ref q),(ks "missing",.int g.miss)]
section
variable{A:Mb->Addr}{g:PG}{r q:Addr}
theorem asV:gj (tkv A) (ks "row")=some (.ref (A .row)):=by kernel_rfl
theorem lz:gj (tkv A) (ks "wishes")=some (.ref (A .dN)):=by kernel_rfl
theorem lA:gj (tkv A) (ks "shelves")=some (.ref (A .dg)):=by kernel_rfl
theorem aiU:gj (tkv A) (ks "sent")=some (.ref (A .sent)):=by kernel_rfl
theorem m5:gj (tkv A) (ks "rights")=some (.ref (A .rights)):=by kernel_rfl
theorem uV:gj (tkv A) (ks "copies")=some (.ref (A .copies)):=by kernel_rfl
theorem JQ:gj (tkv A) (ks "ups")=some (.ref (A .ups)):=by kernel_rfl
theorem zE:gj (tkv A) (ks "downs")=some (.ref (A .downs)):=by kernel_rfl
theorem alC:gj (Ax g r q) (ks "number")=some (.int g.num):=by kernel_rfl
theorem uW:gj (Ax g r q) (ks "writer")=some (.int (wrI g.wr)):=by kernel_rfl
theorem wW:gj (Ax g r q) (ks "readers")=some (.ref r):=by kernel_rfl
theorem JR:gj (Ax g r q) (ks "asked")=some (.ref q):=by kernel_rfl
theorem wX:gj (Ax g r q) (ks "missing")=some (.int g.miss):=by kernel_rfl
theorem Kf{n:Int}:putK (Ax g r q) (ks "number") (.int n)=Ax {g with num:=n} r q:=by kernel_rfl
theorem GX:putK (Ax g r q) (ks "writer") (.int (-1))=Ax {g with wr:=none} r q:=by kernel_rfl
theorem ZP{w:Nat}:putK (Ax g r q) (ks "writer") (.int w)=Ax {g with wr:=some w} r q:=by kernel_rfl
theorem ZQ{z:Addr}{l:List Nat}:putK (Ax g r q) (ks "readers") (.ref z)=Ax {g with rd:=l} z q:=by kernel_rfl
theorem GZ{k:Int}:putK (Ax g r q) (ks "missing") (.int k)=Ax {g with miss:=k} r q:=by kernel_rfl
theorem wY:(Ax g r q).length<sizeLine:=by show 5<sizeLine;decide
end
def MG(A:Mb->Addr)(H:Hp)(n m:Nat)(S:TS)(se:List (Nat×Let)):Mb->HO->Prop
 | .bf,o=>o=.dK (tkv A)
 | .row,o=>∃vs,o=.lst vs/\aG H vs (S.row.map RE.d)
 | .dN,o=>∃vs,o=.lst vs/\vs.length=n/\∀d,d<n->∃v,vs[d]? = some v/\uR H v (S.ds d).ws
 | .dg,o=>o=.lst ((range m).map λp=>V.ref (A (.b8 p)))
 | .sent,o=>∃vs,o=.lst vs/\aG H vs (se.map pairD)
 | .rights,o=>o=.lst ((range n).map λd=>V.ref (A (.rt d)))
 | .copies,o=>o=.lst ((range n).map λd=>V.ref (A (.cp d)))
 | .ups,o=>o=.lst ((range n).map λd=>V.ref (A (.up d)))
 | .downs,o=>o=.lst ((range n).map λd=>V.ref (A (.dn d)))
 | .rt d,o=>o=.lst ((range m).map λp:Nat=>V.str ((S.ds d).rt p).s)
 | .cp d,o=>o=.lst ((range m).map λp:Nat=>V.int ((S.ds d).nm p))
 | .up d,o=>∃vs,o=.lst vs/\aG H vs ((S.up d).map UL.d)
 | .dn d,o=>∃vs,o=.lst vs/\aG H vs ((S.dn d).map Let.d)
 | .b8 p,o=>o=.dK (Ax (S.pg p) (A (.jn p)) (A (.kh p)))
 | .jn p,o=>o=.lst ((S.pg p).rd.map nV)
 | .kh p,o=>∃vs,o=.lst vs/\aG H vs ((S.pg p).ask.map uh)
theorem UL.flat(l:UL):l.d.flat:=by
 cases l with| ask p r=>simp[UL.d,D.flat,D.flats]| ans p o=>cases o<;>simp[UL.d,oD,D.flat,D.flats]| gave p n=>simp[UL.d,D.flat,D.flats]
theorem bc{α:Type}{f:α->D}(h:∀x,(f x).flat)(l:List α):D.flats (l.map f):=by
 induction l with| nil=>simp[D.flats]| cons x l z=>simp only[map_cons,D.flats];exact⟨h x,z⟩
theorem RE.flat(e:RE):e.d.flat:=by simp[RE.d,D.flat,D.flats]
theorem MG.mono{A:Mb->Addr}{H H':Hp}{n m:Nat}{S:TS}{se:List (Nat×Let)}(t:cz H H'){x:Mb}{o:HO}(h:MG A H n m S se x o):MG A H' n m S se x o:=by
 cases x with
 | row=>obtain⟨vs,e,r⟩:=h;exact⟨vs,e,r.aU t (bc RE.flat _)⟩
 | dN=>obtain⟨vs,e,l,k⟩:=h;exact⟨vs,e,l,λd hd=>by obtain⟨v,z,F⟩:=k d hd;exact⟨v,z,F.aU t⟩⟩
 | sent=>obtain⟨vs,e,r⟩:=h;exact⟨vs,e,r.aU t (dm _)⟩
 | up d=>obtain⟨vs,e,r⟩:=h;exact⟨vs,e,r.aU t (bc UL.flat _)⟩
 | dn d=>obtain⟨vs,e,r⟩:=h;exact⟨vs,e,r.aU t (bc Let.flat _)⟩
 | kh p=>obtain⟨vs,e,r⟩:=h;exact⟨vs,e,r.aU t (lQ _)⟩
 | _=>exact h
theorem MG.avC{A:Mb->Addr}{H:Hp}{n m:Nat}{S:TS}{se:List (Nat×Let)}{x:Mb}{o:HO}(h:MG A H n m S se x o):∀xs,o≠.tup xs:=by
 intro xs z;subst z;cases x<;>first
  | (obtain⟨vs,e,_⟩:=h;cases e)
  | cases h
structure bj(H:Hp)(A:Mb->Addr)(n m:Nat)(S:TS)(se:List (Nat×Let)):Prop where
 inj:∀x y:Mb,x.ok n m->y.ok n m->A x=A y->x=y
 at_:∀x:Mb,x.ok n m->∃o,H (A x)=some o/\MG A H n m S se x o
structure oN(H H':Hp)(A:Mb->Addr)(n m:Nat):Prop where
 kp:∀b o,H b=some o->(∀x:Mb,x.ok n m->b≠A x)->H' b=some o
 lv:Lv H H'
theorem oN.refl(H:Hp)(A:Mb->Addr)(n m:Nat):oN H H A n m:=⟨λ_ _ h _=>h,Lv.refl _⟩
def Mv(H:Hp)(A A1:Mb->Addr)(n m:Nat):Prop:=∀x:Mb,x.ok n m->A1 x=A x\/((∃p,x=.jn p)/\H (A1 x)=none)
theorem Mv.refl(H:Hp)(A:Mb->Addr)(n m:Nat):Mv H A A n m:=λ_ _=>.inl rfl
theorem oN.trans{H H1 H2:Hp}{A A1:Mb->Addr}{n m:Nat}(x:oN H H1 A n m)(y:oN H1 H2 A1 n m)(h:Mv H A A1 n m):oN H H2 A n m:=⟨λb o F I=>y.kp b o (x.kp b o F I) λz hz=>by
 rcases h z hz with e | ⟨_,e⟩
 ·rw[e];exact I z hz
 ·exact aF F e,x.lv.trans y.lv⟩
theorem Mv.trans{H H1:Hp}{A A1 A2:Mb->Addr}{n m:Nat}(x:Mv H A A1 n m)(l:Lv H H1)(y:Mv H1 A1 A2 n m):Mv H A A2 n m:=λz hz=>by
 rcases y z hz with e | ⟨i,e⟩
 ·rw[e];exact x z hz
 ·exact .inr ⟨i,l _ e⟩
theorem Mv.bf{H:Hp}{A A1:Mb->Addr}{n m:Nat}(x:Mv H A A1 n m):A1 .bf=A .bf:=(x .bf trivial).elim id λz=>by obtain⟨⟨p,e⟩,_⟩:=z;cases e
section
variable{H H':Hp}{A:Mb->Addr}{n m:Nat}{S S':TS}{se se':List (Nat×Let)}
theorem bj.keep(M:bj H A n m S se)(t:cz H H')(k:∀x:Mb,x.ok n m->∀o,H (A x)=some o->H' (A x)=some o):bj H' A n m S se:=
 ⟨M.inj,λx z=>by obtain⟨o,e,g⟩:=M.at_ x z;exact⟨o,k x z o e,g.mono t⟩⟩
theorem bj.same(M:bj H A n m S se)(s:bK H H'):bj H' A n m S se:=M.keep (aQ s) λx _ o e=>s _ o e
theorem bj.new{a:Addr}{o:HO}(M:bj H A n m S se)(h:H a=none):bj (upd H a o) A n m S se:=M.same (aq h)
theorem oN.of_same(s:bK H H'):oN H H' A n m:=⟨λb o e _=>s b o e,Lv.same s⟩
theorem oN.tups(M:bj H A n m S se)(f:oN H H' A n m):cz H H':=λb xs e=>f.kp b _ e λx I z=>by
 obtain⟨o,F,g⟩:=M.at_ x I
 rw[<-z,e]at F
 exact g.avC xs (Option.some.inj F).symm
theorem bj.tup_ne(M:bj H A n m S se){x:Mb}(I:x.ok n m){b:Addr}{xs:List V}(e:H b=some (.tup xs)):b≠A x:=λz=>by
 obtain⟨o,F,g⟩:=M.at_ x I
 rw[<-z,e]at F
 exact g.avC xs (Option.some.inj F).symm
theorem bj.set(M:bj H A n m S se){x:Mb}(F:x.ok n m){o':HO}(J:cz H (upd H (A x) o')->MG A (upd H (A x) o') n m S' se' x o')
 (L:∀y:Mb,y.ok n m->y≠x->∀o,MG A H n m S se y o->MG A H n m S' se' y o):bj (upd H (A x) o') A n m S' se'/\oN H (upd H (A x) o') A n m:=by
 have t:cz H (upd H (A x) o'):=λb xs e=>by{rw[az (M.tup_ne F e)];exact e};refine⟨⟨M.inj,λy I=>?_⟩,⟨λb o e O=>by rw[az (O x F)];exact e,Lv.upd⟩⟩;by_cases e:y=x;{subst e;exact⟨o',aj,J t⟩};{obtain⟨o,W,g⟩:=M.at_ y I;refine⟨o,?_,(L y I e o g).mono t⟩;rw[az λz=>e (M.inj y x I F z)];exact W}
theorem bj.yq{x:Mb}(M:bj H A n m S se)(I:x.ok n m){b:Addr}(h:H b=none):A x≠b:=λz=>by
 obtain⟨o,F,_⟩:=M.at_ x I
 rw[z,h]at F;cases F
theorem bj.bf(M:bj H A n m S se):H (A .bf)=some (.dK (tkv A)):=by obtain⟨o,e,g⟩:=M.at_ .bf trivial;rw[e,show o=_ from g]
theorem bj.dg(M:bj H A n m S se):H (A .dg)=some (.lst ((range m).map λp=>V.ref (A (.b8 p)))):=by obtain⟨o,e,g⟩:=M.at_ .dg trivial;rw[e,show o=_ from g]
theorem bj.rights(M:bj H A n m S se):H (A .rights)=some (.lst ((range n).map λp=>V.ref (A (.rt p)))):=by obtain⟨o,e,g⟩:=M.at_ .rights trivial;rw[e,show o=_ from g]
theorem bj.copies(M:bj H A n m S se):H (A .copies)=some (.lst ((range n).map λp=>V.ref (A (.cp p)))):=by obtain⟨o,e,g⟩:=M.at_ .copies trivial;rw[e,show o=_ from g]
theorem bj.ups(M:bj H A n m S se):H (A .ups)=some (.lst ((range n).map λp=>V.ref (A (.up p)))):=by obtain⟨o,e,g⟩:=M.at_ .ups trivial;rw[e,show o=_ from g]
theorem bj.downs(M:bj H A n m S se):H (A .downs)=some (.lst ((range n).map λp=>V.ref (A (.dn p)))):=by obtain⟨o,e,g⟩:=M.at_ .downs trivial;rw[e,show o=_ from g]
theorem bj.rt(M:bj H A n m S se){d:Nat}(h:d<n):H (A (.rt d))=some (.lst ((range m).map λp:Nat=>V.str ((S.ds d).rt p).s)):=by obtain⟨o,e,g⟩:=M.at_ (.rt d) h;rw[e,show o=_ from g]
theorem bj.cp(M:bj H A n m S se){d:Nat}(h:d<n):H (A (.cp d))=some (.lst ((range m).map λp:Nat=>V.int ((S.ds d).nm p))):=by obtain⟨o,e,g⟩:=M.at_ (.cp d) h;rw[e,show o=_ from g]
theorem bj.b8(M:bj H A n m S se){p:Nat}(h:p<m):H (A (.b8 p))=some (.dK (Ax (S.pg p) (A (.jn p)) (A (.kh p)))):=by obtain⟨o,e,g⟩:=M.at_ (.b8 p) h;rw[e,show o=_ from g]
theorem bj.jn(M:bj H A n m S se){p:Nat}(h:p<m):H (A (.jn p))=some (.lst ((S.pg p).rd.map nV)):=by obtain⟨o,e,g⟩:=M.at_ (.jn p) h;rw[e,show o=_ from g]
theorem bj.kh(M:bj H A n m S se){p:Nat}(h:p<m):∃vs,H (A (.kh p))=some (.lst vs)/\aG H vs ((S.pg p).ask.map uh):=by obtain⟨o,e,vs,g,r⟩:=M.at_ (.kh p) h;exact⟨vs,by rw[e,g],r⟩
theorem bj.up(M:bj H A n m S se){d:Nat}(h:d<n):∃vs,H (A (.up d))=some (.lst vs)/\aG H vs ((S.up d).map UL.d):=by obtain⟨o,e,vs,g,r⟩:=M.at_ (.up d) h;exact⟨vs,by rw[e,g],r⟩
theorem bj.dn(M:bj H A n m S se){d:Nat}(h:d<n):∃vs,H (A (.dn d))=some (.lst vs)/\aG H vs ((S.dn d).map Let.d):=by obtain⟨o,e,vs,g,r⟩:=M.at_ (.dn d) h;exact⟨vs,by rw[e,g],r⟩
theorem bj.row(M:bj H A n m S se):∃vs,H (A .row)=some (.lst vs)/\aG H vs (S.row.map RE.d):=by obtain⟨o,e,vs,g,r⟩:=M.at_ .row trivial;exact⟨vs,by rw[e,g],r⟩
theorem bj.sent(M:bj H A n m S se):∃vs,H (A .sent)=some (.lst vs)/\aG H vs (se.map pairD):=by obtain⟨o,e,vs,g,r⟩:=M.at_ .sent trivial;exact⟨vs,by rw[e,g],r⟩
theorem bj.dN(M:bj H A n m S se):∃vs,H (A .dN)=some (.lst vs)/\vs.length=n/\∀d,d<n->∃v,vs[d]? = some v/\uR H v (S.ds d).ws:=by obtain⟨o,e,vs,g,r⟩:=M.at_ .dN trivial;exact⟨vs,by rw[e,g],r⟩
theorem bj.aqc(M:bj H A n m S se){vs:List V}(r:aG H vs (se'.map pairD)):bj (upd H (A .sent) (.lst vs)) A n m S se'/\oN H (upd H (A .sent) (.lst vs)) A n m:=
 M.set (x:=.sent) trivial (λt=>⟨vs,rfl,r.aU t (dm _)⟩) λy _ z o h=>by cases y<;>first | exact h | exact absurd rfl z
theorem bj.aqd(M:bj H A n m S se){vs:List V}{l:List RE}(r:aG H vs (l.map RE.d)):bj (upd H (A .row) (.lst vs)) A n m {S with row:=l} se/\oN H (upd H (A .row) (.lst vs)) A n m:=
 M.set (x:=.row) trivial (λt=>⟨vs,rfl,r.aU t (bc RE.flat _)⟩) λy _ z o h=>by cases y<;>first | exact h | exact absurd rfl z
theorem bj.aiV(M:bj H A n m S se){d:Nat}(hd:d<n){vs:List V}{l:List UL}(r:aG H vs (l.map UL.d)):bj (upd H (A (.up d)) (.lst vs)) A n m {S with up:=aM S.up d l} se/\oN H (upd H (A (.up d)) (.lst vs)) A n m:=
 M.set (x:=.up d) hd (λt=>⟨vs,rfl,by dsimp only;rw[aJ];exact r.aU t (bc UL.flat _)⟩) λy _ I o h=>by
  cases y with
  | up e=>
    have F:e≠d:=λz=>I (by rw[z])
    show ∃vs,o=.lst vs/\aG H vs ((aM S.up d l e).map UL.d)
    rw[aX _ _ F]
    exact h
  | _=>exact h
theorem bj.aog(M:bj H A n m S se){d:Nat}(hd:d<n){vs:List V}{l:List Let}(r:aG H vs (l.map Let.d)):bj (upd H (A (.dn d)) (.lst vs)) A n m {S with dn:=aM S.dn d l} se/\oN H (upd H (A (.dn d)) (.lst vs)) A n m:=
 M.set (x:=.dn d) hd (λt=>⟨vs,rfl,by dsimp only;rw[aJ];exact r.aU t (bc Let.flat _)⟩) λy _ I o h=>by
  cases y with
  | dn e=>
    have F:e≠d:=λz=>I (by rw[z])
    show ∃vs,o=.lst vs/\aG H vs ((aM S.dn d l e).map Let.d)
    rw[aX _ _ F]
    exact h
  | _=>exact h
theorem bj.axe(M:bj H A n m S se){d:Nat}(hd:d<n){D':DS}(I:D'.nm=(S.ds d).nm)(J:D'.ws=(S.ds d).ws):bj (upd H (A (.rt d)) (.lst ((range m).map λp:Nat=>V.str (D'.rt p).s))) A n m {S with ds:=aM S.ds d D'} se/\oN H (upd H (A (.rt d)) (.lst ((range m).map λp:Nat=>V.str (D'.rt p).s))) A n m:=
 M.set (x:=.rt d) hd (λt=>by dsimp only[MG];rw[aJ]) λy W L o h=>by
  cases y with
  | rt e=>
    have F:e≠d:=λz=>L (by rw[z])
    show o=.lst ((range m).map λp:Nat=>V.str ((aM S.ds d D' e).rt p).s)
    rw[aX _ _ F]
    exact h
  | cp e=>
    show o=.lst ((range m).map λp:Nat=>V.int ((aM S.ds d D' e).nm p))
    by_cases z:e=d
    ·rw[z,aJ,I,<-z];exact h
    ·rw[aX _ _ z];exact h
  | dN=>
    obtain⟨vs,g,l,k⟩:=h
    refine⟨vs,g,l,λe O=>?_⟩
    obtain⟨v,k1,k2⟩:=k e O
    refine⟨v,k1,?_⟩
    show uR H v (aM S.ds d D' e).ws
    by_cases z:e=d
    ·rw[z,aJ,J,<-z];exact k2
    ·rw[aX _ _ z];exact k2
  | _=>exact h
theorem bj.aAp(M:bj H A n m S se){d:Nat}(hd:d<n){D':DS}(I:D'.rt=(S.ds d).rt)(J:D'.ws=(S.ds d).ws):bj (upd H (A (.cp d)) (.lst ((range m).map λp:Nat=>V.int (D'.nm p)))) A n m {S with ds:=aM S.ds d D'} se/\oN H (upd H (A (.cp d)) (.lst ((range m).map λp:Nat=>V.int (D'.nm p)))) A n m:=
 M.set (x:=.cp d) hd (λt=>by dsimp only[MG];rw[aJ]) λy W L o h=>by
  cases y with
  | cp e=>
    have F:e≠d:=λz=>L (by rw[z])
    show o=.lst ((range m).map λp:Nat=>V.int ((aM S.ds d D' e).nm p))
    rw[aX _ _ F]
    exact h
  | rt e=>
    show o=.lst ((range m).map λp:Nat=>V.str ((aM S.ds d D' e).rt p).s)
    by_cases z:e=d
    ·rw[z,aJ,I,<-z];exact h
    ·rw[aX _ _ z];exact h
  | dN=>
    obtain⟨vs,g,l,k⟩:=h
    refine⟨vs,g,l,λe O=>?_⟩
    obtain⟨v,k1,k2⟩:=k e O
    refine⟨v,k1,?_⟩
    show uR H v (aM S.ds d D' e).ws
    by_cases z:e=d
    ·rw[z,aJ,J,<-z];exact k2
    ·rw[aX _ _ z];exact k2
  | _=>exact h
theorem bj.aqe(M:bj H A n m S se){d:Nat}(hd:d<n){vs:List V}{v:V}{o:Option W}(I:H (A .dN)=some (.lst vs))(J:uR H v o) :
 bj (upd H (A .dN) (.lst (vs.set d v))) A n m {S with ds:=aM S.ds d {S.ds d with ws:=o}} se/\oN H (upd H (A .dN) (.lst (vs.set d v))) A n m:=by
 obtain⟨us,h1,h2,L⟩:=M.dN;rw[I]at h1;cases h1;refine M.set (x:=.dN) trivial (λt=>⟨_,rfl,by rw[length_set];exact h2,λe O=>?_⟩) λy Z Y o' h=>?_;{show ∃F,(vs.set d v)[e]? = some F/\uR _ F (aM S.ds d {S.ds d with ws:=o} e).ws;by_cases z:e=d;{subst z;exact⟨v,by rw[getElem?_set_self (by lia)],by rw[aJ];exact J.aU t⟩};{obtain⟨F,k1,k2⟩:=L e O;exact⟨F,by rw[getElem?_set_ne (Ne.symm z)];exact k1,by rw[aX _ _ z];exact k2.aU t⟩}}
 ·cases y with
  | dN=>exact absurd rfl Y
  | rt e=>show o'=.lst ((range m).map λp:Nat=>V.str ((aM S.ds d {S.ds d with ws:=o} e).rt p).s);by_cases z:e=d;{rw[z,aJ,<-z];exact h};{rw[aX _ _ z];exact h}
  | cp e=>show o'=.lst ((range m).map λp:Nat=>V.int ((aM S.ds d {S.ds d with ws:=o} e).nm p));by_cases z:e=d;{rw[z,aJ,<-z];exact h};{rw[aX _ _ z];exact h}
  | _=>exact h
theorem bj.Bk(M:bj H A n m S se){p:Nat}(hp:p<m){g:PG}(I:g.rd=(S.pg p).rd)(J:g.ask=(S.pg p).ask):bj (upd H (A (.b8 p)) (.dK (Ax g (A (.jn p)) (A (.kh p))))) A n m {S with pg:=aM S.pg p g} se/\oN H (upd H (A (.b8 p)) (.dK (Ax g (A (.jn p)) (A (.kh p))))) A n m:=
 M.set (x:=.b8 p) hp (λt=>by dsimp only[MG];rw[aJ]) λy O L o h=>by
  cases y with
  | b8 e=>
    have F:e≠p:=λz=>L (by rw[z])
    show o=.dK (Ax (aM S.pg p g e) _ _)
    rw[aX _ _ F];exact h
  | jn e=>
    show o=.lst ((aM S.pg p g e).rd.map nV)
    by_cases z:e=p
    ·rw[z,aJ,I,<-z];exact h
    ·rw[aX _ _ z];exact h
  | kh e=>
    show ∃vs,o=.lst vs/\aG H vs ((aM S.pg p g e).ask.map uh)
    by_cases z:e=p
    ·rw[z,aJ,J,<-z];exact h
    ·rw[aX _ _ z];exact h
  | _=>exact h
theorem bj.avD(M:bj H A n m S se){p:Nat}(hp:p<m){l:List Nat}:bj (upd H (A (.jn p)) (.lst (l.map nV))) A n m {S with pg:=aM S.pg p {S.pg p with rd:=l}} se/\oN H (upd H (A (.jn p)) (.lst (l.map nV))) A n m:=
 M.set (x:=.jn p) hp (λt=>by dsimp only[MG];rw[aJ]) λy J I o h=>by
  cases y with
  | jn e=>
    have F:e≠p:=λz=>I (by rw[z])
    show o=.lst ((aM S.pg p _ e).rd.map nV)
    rw[aX _ _ F];exact h
  | b8 e=>
    show o=.dK (Ax (aM S.pg p _ e) _ _)
    by_cases z:e=p
    ·rw[z,aJ,<-z];exact h
    ·rw[aX _ _ z];exact h
  | kh e=>
    show ∃vs,o=.lst vs/\aG H vs ((aM S.pg p _ e).ask.map uh)
    by_cases z:e=p
    ·rw[z,aJ,<-z];exact h
    ·rw[aX _ _ z];exact h
  | _=>exact h
theorem bj.avE(M:bj H A n m S se){p:Nat}(hp:p<m){vs:List V}{l:List (Nat×Rt)}(r:aG H vs (l.map uh)):bj (upd H (A (.kh p)) (.lst vs)) A n m {S with pg:=aM S.pg p {S.pg p with ask:=l}} se/\oN H (upd H (A (.kh p)) (.lst vs)) A n m:=
 M.set (x:=.kh p) hp (λt=>⟨vs,rfl,by dsimp only;rw[aJ];exact r.aU t (lQ _)⟩) λy J I o h=>by
  cases y with
  | kh e=>
    have F:e≠p:=λz=>I (by rw[z])
    show ∃vs,o=.lst vs/\aG H vs ((aM S.pg p _ e).ask.map uh)
    rw[aX _ _ F];exact h
  | b8 e=>
    show o=.dK (Ax (aM S.pg p _ e) _ _)
    by_cases z:e=p
    ·rw[z,aJ,<-z];exact h
    ·rw[aX _ _ z];exact h
  | jn e=>
    show o=.lst ((aM S.pg p _ e).rd.map nV)
    by_cases z:e=p
    ·rw[z,aJ,<-z];exact h
    ·rw[aX _ _ z];exact h
  | _=>exact h
theorem bj.move(M:bj H A n m S se){x y:Mb}(hx:x.ok n m)(I:y.ok n m)(W:x≠y){a:Addr}{o o':HO}(J:H a=none)
 (Y:MG (kI A x a) H n m S' se' x o) (Z:MG (kI A x a) H n m S' se' y o')
 (ho:∀z:Mb,z.ok n m->z≠x->z≠y->∀o,MG A H n m S se z o->MG (kI A x a) H n m S' se' z o) :
 bj (upd (upd H a o) (A y) o') (kI A x a) n m S' se'/\oN H (upd (upd H a o) (A y) o') A n m/\∀z:Mb,z.ok n m->kI A x a z=A z\/(z=x/\H (kI A x a z)=none):=by
 have na:∀z:Mb,z.ok n m->A z≠a:=λz hz=>M.yq hz J;have t1:cz H (upd H a o):=aQ (aq J);have L:cz H (upd (upd H a o) (A y) o'):=λb xs e=>by{rw[az (M.tup_ne I e)];exact t1 b xs e};refine⟨⟨Zb M.inj na λz hz=>.inr hz,λz hz=>?_⟩,⟨λb u e hn=>?_,Lv.upd.trans Lv.upd⟩,λz hz=>?_⟩;{by_cases F:z=x;{subst F;refine⟨o,?_,Y.mono L⟩;rw[di,az (na y I).symm,aj]};{rw[bO _ _ F];by_cases O:z=y;{subst O;exact⟨o',aj,Z.mono L⟩};{obtain⟨u,h1,h2⟩:=M.at_ z hz;refine⟨u,?_,(ho z hz F O u h2).mono L⟩;rw[az λq=>O (M.inj z y hz I q),az (na z hz)];exact h1}}};{rw[az (hn y I),az (aF e J)];exact e};{by_cases F:z=x;{rw[F,di];exact .inr ⟨rfl,J⟩};{rw[bO _ _ F];exact .inl rfl}}
theorem bj.axf(M:bj H A n m S se){p:Nat}(hp:p<m){a:Addr}(I:H a=none){l:List Nat} :
 bj (upd (upd H a (.lst (l.map nV))) (A (.b8 p)) (.dK (Ax {S.pg p with rd:=l} a (A (.kh p))))) (kI A (.jn p) a) n m {S with pg:=aM S.pg p {S.pg p with rd:=l}} se/\
 oN H (upd (upd H a (.lst (l.map nV))) (A (.b8 p)) (.dK (Ax {S.pg p with rd:=l} a (A (.kh p))))) A n m/\Mv H A (kI A (.jn p) a) n m:=by
 have q:=M.move (S':={S with pg:=aM S.pg p {S.pg p with rd:=l}}) (se':=se) (x:=.jn p) (y:=.b8 p) hp hp ⟨⟩ I (o:=.lst (l.map nV)) (o':=.dK (Ax {S.pg p with rd:=l} a (A (.kh p)))) ?_ ?_ λz hz J L o h=>?_;{exact⟨q.1,q.2.1,λz hz=>(q.2.2 z hz).imp id λe=>⟨⟨p,e.1⟩,e.2⟩⟩};{dsimp only[MG];rw[aJ]};{dsimp only[MG];rw[aJ,di,bO _ _ ⟨⟩]};{cases z with| jn e=>have F:e≠p:=λz=>J (by rw[z]);show o=.lst ((aM S.pg p _ e).rd.map nV);rw[aX _ _ F];exact h| b8 e=>have F:e≠p:=λz=>L (by rw[z]);show o=.dK (Ax (aM S.pg p _ e) _ _);rw[aX _ _ F,bO _ _ (by intro z;cases z;exact F rfl),bO _ _ ⟨⟩];exact h| kh e=>show ∃vs,o=.lst vs/\aG H vs ((aM S.pg p _ e).ask.map uh);by_cases z:e=p;{rw[z,aJ,<-z];exact h};{rw[aX _ _ z];exact h}| _=>exact h}
end
theorem aeF:∀(k:Nat) (g:PG) (p:Nat),(qD k g p).1.mu<=g.mu
 | 0,g,p=>Nat.le_refl _
 | k+1,g,p=>by rw[qD];split;{exact Nat.le_trans (aeF k g.lent p) g.um};{exact Nat.le_refl _}
theorem PG.aiW(g:PG)(p:Nat):(g.serve p).1.mu<=g.mu:=aeF _ g p
theorem alD(g:PG)(p d:Nat)(x:Rt):(oJ g p d x).length<=1:=by
 unfold oJ;split;{split<;>simp};{simp}
theorem aoh(g:PG)(p:Nat):(g.cL p).length<=g.rd.length+1:=by
 unfold PG.cL;split;{simp};{rename_i a r l _;rw[length_append];have h1:=alD g p a r;have h2:(oK g p a r).length<=g.rd.length:=by{unfold oK;split;{rw[length_map];exact length_filter_le _ _};{simp}};lia}
theorem ZR:∀(k:Nat) (g:PG) (p:Nat),(qD k g p).2.length<=k+g.mu+1
 | 0,g,p=>by simp[qD]
 | k+1,g,p=>by rw[qD];split;{have:=ZR k g.lent p;have h2:=g.um;have z:(g.dM p).length<=1:=by{unfold PG.dM;split<;>simp};simp only[length_append];lia};{have:=aoh g p;simp only;unfold PG.mu;lia}
theorem ZS(g:PG)(p:Nat):(g.serve p).2.length<=2*g.mu+1:=by
 have:=ZR g.ask.length g p;unfold PG.serve;have h2:g.ask.length<=g.mu:=by{unfold PG.mu;lia};lia
theorem PG.amY(g:PG)(p d:Nat)(l:UL):(g.take p d l).1.mu<=g.mu+2/\(g.take p d l).2.length<=2*g.mu+6:=by
 cases l with
 | ask q r=>simp only[PG.take];split;{rename_i e;have F:({g with ask:=[(d,r)]}:PG).mu=g.mu+2:=by{unfold PG.mu;rw[e];simp};have h1:=PG.aiW {g with ask:=[(d,r)]} p;have h2:=ZS {g with ask:=[(d,r)]} p;lia};{refine⟨?_,by simp⟩;unfold PG.mu;simp;lia}
 | ans q o=>simp only[PG.take];split;{generalize I:({g with num:=o.getD g.num,miss:=g.miss - 1}:PG)=z;have F:z.mu=g.mu:=by{rw[<-I];rfl};have h1:=PG.aiW z.lent p;have h2:=ZS z.lent p;have J:=z.um;have L:(z.dM p).length<=1:=by{unfold PG.dM;split<;>simp};simp only[length_append];lia};{refine⟨?_,by simp⟩;show g.mu<=_;lia}
 | gave q x=>simp only[PG.take];refine⟨?_,by simp⟩;show g.mu<=_;lia
def Bt(t:Nat):Nat:=4*(t*t)+20*t
theorem amZ(t:Nat):Bt (t+1)=Bt t+8*t+24:=by
 by_cases h:True;{unfold Bt;have e:(t+1)*(t+1)=t*t+2*t+1:=by{rw[Nat.add_mul,Nat.mul_add];lia};rw[e];lia};{exact absurd trivial h}
theorem avF{t:Nat}(h:t<=1500):Bt t<=9030000:=by
 unfold Bt;have:t*t<=1500*1500:=Nat.mul_le_mul h h;lia
structure Bd(t:Nat)(S:TS)(se:List (Nat×Let)):Prop where
 mu:∀p,(S.pg p).mu<=2*t
 up:∀d,(S.up d).length<=t
 row:S.row.length<=t
 dn:∀d,(S.dn d).length<=Bt t
 se:se.length<=Bt t
theorem Bd.more{t t':Nat}{S:TS}{se:List (Nat×Let)}(b:Bd t S se)(h:t<=t'):Bd t' S se:=by
 have z:Bt t<=Bt t':=by{unfold Bt;have:=Nat.mul_le_mul h h;lia};exact⟨λp=>Nat.le_trans (b.mu p) (by lia),λd=>Nat.le_trans (b.up d) h,Nat.le_trans b.row h,λd=>Nat.le_trans (b.dn d) z,Nat.le_trans b.se z⟩
def TS.lY(S:TS)(n:Nat):bG->List (Nat×Let)
 | .up d=>if inR d n then(match S.up d.toNat with | []=>[] | l::_=>((S.pg l.pg).take l.pg d.toNat l).2)else []
 | _=>[]
theorem Bd.jG{t d:Nat}{S:TS}{se:List (Nat×Let)}{z:DS×List Ev×List UL}(b:Bd t S se)(h1:z.2.1.length<=1)(h2:z.2.2.length<=1):Bd (t+1) (S.jG d z) se:=by
 have F:=b.more (le_succ t);refine⟨F.mu,λe=>?_,?_,F.dn,F.se⟩;{show(aM S.up d (S.up d++z.2.2) e).length<=_;by_cases y:e=d;{rw[y,aJ,length_append];have:=b.up d;lia};{rw[aX _ _ y];exact F.up e}};{show(cZ S.row d z.2.1).length<=_;unfold cZ;rw[length_append,length_map];have:=b.row;lia}
theorem DS.nR(S:DS)(w:W)(p:Nat):(S.il w p).2.1.length<=1/\(S.il w p).2.2.length<=1:=by unfold DS.il;split<;>simp
theorem DS.aoi(S:DS)(p:Int)(r:Rt)(x:Int):(S.lr p r x).2.length<=1:=by
 unfold DS.lr;split;{simp};{split<;>simp}
theorem DS.JS(S:DS)(l:Let):(S.nQ l).2.1.length<=1/\(S.nQ l).2.2.length<=1:=by
 cases l with| lend p r x=>exact⟨S.aoi p r x,by simp[DS.nQ]⟩| back p r=>simp[DS.nQ]
theorem Bd.step{t n m:Nat}{S:TS}{se:List (Nat×Let)}(b:Bd t S se)(x:bG):Bd (t+1) (S.step n m x).1 (se++S.lY n x):=by
 have z:=b.more (le_succ t);have I:∀{T:TS},Bd (t+1) T se->Bd (t+1) T (se++[]):=λ{T} h=>by{rw[append_nil];exact h};cases x with
 | up d=>simp only[TS.step,TS.lY];split;{unfold TS.upD;cases e:S.up d.toNat with| nil=>exact I z| cons l r=>obtain⟨h1,h2⟩:=(S.pg l.pg).amY l.pg d.toNat l;have O:=b.mu l.pg;refine⟨λp=>?_,λF=>?_,z.row,λF=>?_,?_⟩;{show(aM S.pg l.pg _ p).mu<=_;by_cases y:p=l.pg;{rw[y,aJ];lia};{rw[aX _ _ y];exact z.mu p}};{show(aM S.up d.toNat r F).length<=_;by_cases y:F=d.toNat;{rw[y,aJ];have:=b.up d.toNat;rw[e]at this;simp at this;lia};{rw[aX _ _ y];exact z.up F}};{show(post S.dn _ F).length<=_;have W:=Pg S.dn ((S.pg l.pg).take l.pg d.toNat l).2 F;have J:=b.dn F;rw[amZ];lia};{show(se++((S.pg l.pg).take l.pg d.toNat l).2).length<=_;rw[length_append];have J:=b.se;rw[amZ];lia}};{exact I z}
 | down d=>
   simp only[TS.step,TS.lY];split
   ·unfold TS.Kd;cases e:S.dn d.toNat with
    | nil=>exact I z
    | cons l r=>
      have L:Bd t {S with dn:=aM S.dn d.toNat r} se:=⟨b.mu,b.up,b.row,λF=>by
       show(aM S.dn d.toNat r F).length<=_
       by_cases y:F=d.toNat
       ·rw[y,aJ];have:=b.dn d.toNat;rw[e]at this;simp at this;lia
       ·rw[aX _ _ y];exact b.dn F,b.se⟩
      exact I (L.jG (DS.JS _ _).1 (DS.JS _ _).2)
   ·exact I z
 | rest d p=>simp only[TS.step,TS.lY];refine I ?_;split;{split;{split;{exact z};{exact b.jG (by simp) (by dsimp only;split<;>simp)}};{exact z}};{exact z}
 | look d p=>simp only[TS.step,TS.lY];refine I ?_;split;{split;{unfold TS.wish;split;{exact z};{exact b.jG (DS.nR _ _ _).1 (DS.nR _ _ _).2}};{exact z}};{exact z}
 | put d p y=>simp only[TS.step,TS.lY];refine I ?_;split;{split;{unfold TS.wish;split;{exact z};{exact b.jG (DS.nR _ _ _).1 (DS.nR _ _ _).2}};{exact z}};{exact z}
end fV
namespace L2
open List
open PySem.W (Frag emptyDict findIn fnOf hideAll instObj isFn keepIn kia_one kia_tup kitAny kitOne lookIn nsIn)
open PySem.F (plainAttrs_list slot_list_pop type_list_pop)
open Nat (le_succ lt_of_lt_of_le ne_of_lt zero_le)
open PySem
variable{X:Cx}
end L2
namespace fV
open List
open PySem.W (Frag emptyDict findIn fnOf hideAll instObj isFn keepIn kia_one kia_tup kitAny kitOne lookIn nsIn)
open PySem.F (plainAttrs_list slot_list_pop type_list_pop)
open Nat (le_succ lt_of_lt_of_le ne_of_lt zero_le)
open PySem L2
theorem asW{us:List Value}(h:us.length=1):∃a0,us=[a0]:=by
 match us,h with| [_],_=>exact⟨_,rfl⟩
theorem aDG{us:List Value}(h:us.length=2):∃a0 z,us=[a0,z]:=by
 match us,h with| [_,_],_=>exact⟨_,_,rfl⟩
theorem aDH{us:List Value}(h:us.length=3):∃a0 z F,us=[a0,z,F]:=by
 match us,h with| [_,_,_],_=>exact⟨_,_,_,rfl⟩
theorem aDI{us:List Value}(h:us.length=4):∃a0 z F I,us=[a0,z,F,I]:=by
 match us,h with| [_,_,_,_],_=>exact⟨_,_,_,_,rfl⟩
section
variable{K:Frag}{i j:Nat}{x y v:V}{σ:St}{H:Hp}{Q:VK}{a b:Addr}{xs:List V}{k:Int}
theorem zt(h:σ[i]? = some (some (.ref b)))(z:cW K H b xs)(F:S6 xs k=some v)(q:Q v H):Zn (ali K) (jE i) (tC (.int k)) σ H Q:=⟨_,h,b,xs,k,v,rfl,rfl,z,F,q⟩
theorem zd(h:σ[i]? = some (some (.ref a)))(hd:J5 H a y (some v))(q:Q v H):Zz (jE i) (tC y) σ H Q:=⟨_,h,a,v,rfl,hd,q⟩
theorem WM(h:σ[i]? = some (some (.ref a)))(hd:J5 H a y (some (.ref b)))(z:σ[j]? = some (some (.int k)))(hl:bU K H b xs)(F:S6 xs k=some v)(q:Q v H):Zn (an4 K) (Zz (jE i) (tC y)) (jE j) σ H Q:=⟨_,h,a,_,rfl,hd,_,z,b,xs,k,v,rfl,rfl,hl,F,q⟩
theorem zl(z:σ[j]? = some (some (.int k)))(hl:bU K H b xs)(F:S6 xs k=some v)(q:Q v H):jE j σ H (λy H2=>an4 K (.ref b) y H2 Q):=⟨_,z,b,xs,k,v,rfl,rfl,hl,F,q⟩
end
def asY(C X:Addr):Sp:=λvs H Q E=>∃p d S c a w,vs=[.ref p,.ref a]/\cC C H p d S c/\c<=900000/\H a=some (.tup (W.vs w))/\
 match S.ws with
 | none=>∀v H',cC C H' p d (S.want w).1 (c+2)->DF H H' p d->Rep (nw H H') v (S.want w).2->Q v H'
 | some _=>E (.ref X) none H
def asZ(C X:Addr):Sp:=λvs H Q E=>∃p d S c n,vs=[.ref p,.int n]/\cC C H p d S c/\c<=900000/\
 if S.rt n=.no then E (.ref X) none H else ∀v H',cC C H' p d (S.rest n).1 (c+2)->DF H H' p d->Rep (nw H H') v (S.rest n).2->Q v H'
theorem cC.congr{C:Addr}{H:Hp}{p d:Addr}{S S':DS}{c:Nat}(D:cC C H p d S c)(z:∀n,S'.rt n=S.rt n)(F:∀n,S.rt n≠.no->S'.nm n=S.nm n)(I:S'.ws=S.ws):cC C H p d S' c:=by
 obtain⟨⟨dx,v,h1,h2⟩,⟨kvs,J,L,O⟩⟩:=D;refine⟨⟨dx,v,h1,by rw[I];exact h2⟩,⟨kvs,J,L,λn=>?_⟩⟩;have:=O n;unfold uT at this ⊢;rw[z];split;{rename_i e;rw[if_pos e]at this;exact this};{rename_i e;rw[if_neg e]at this;rw[F n e];exact this}
theorem Kept.lv{H H':Hp}(h:Kept H H'):Lv H H':=λ_ e=>h.free e
inductive Tb where
 | bf | mD | ups | downs | row | up (d:Nat) | dn (d:Nat) | dk (d:Nat) | cp (d:Nat) | h (x:Hb)
 deriving DecidableEq
def Tb.ok(n m:Nat):Tb->Prop
 | .up d=>d<n
 | .dn d=>d<n
 | .dk d=>d<n
 | .cp d=>d<n
 | .h x=>x.ok m
 | _=>True
def WN(m:Nat)(h d u o r:Addr):List (Str×V):=[("page_count",.int m),("hall",.ref h),("desks",.ref d),("roads_up",.ref u),("roads_down",.ref o),("row",.ref r)]
section
variable{m:Nat}{h d u o r:Addr}
theorem aqf:gJ "row" (.ref r) (gJ "roads_down" (.ref o) (gJ "roads_up" (.ref u) (gJ "desks" (.ref d) (gJ "hall" (.ref h) (gJ "page_count" (.int m) [])))))=WN m h d u o r:=by kernel_rfl
theorem aoj:(WN m h d u o r).lookup ("page_count":Str)=some (.int m):=by kernel_rfl
theorem aqg:(WN m h d u o r).lookup ("hall":Str)=some (.ref h):=by kernel_rfl
theorem uM:(WN m h d u o r).lookup ("desks":Str)=some (.ref d):=by kernel_rfl
theorem Zd:(WN m h d u o r).lookup ("roads_up":Str)=some (.ref u):=by kernel_rfl
theorem Th:(WN m h d u o r).lookup ("roads_down":Str)=some (.ref o):=by kernel_rfl
theorem am0:(WN m h d u o r).lookup ("row":Str)=some (.ref r):=by kernel_rfl
theorem axg:(WN m h d u o r).lookup ("check_desk":Str)=none:=by kernel_rfl
theorem alE:(WN m h d u o r).lookup ("check_page":Str)=none:=by kernel_rfl
theorem axh:(WN m h d u o r).lookup ("do_deed":Str)=none:=by kernel_rfl
theorem axi:(WN m h d u o r).lookup ("look_at":Str)=none:=by kernel_rfl
theorem axj:(WN m h d u o r).lookup ("put_on":Str)=none:=by kernel_rfl
theorem axk:(WN m h d u o r).lookup ("give_up":Str)=none:=by kernel_rfl
theorem axl:(WN m h d u o r).lookup ("bring_up":Str)=none:=by kernel_rfl
theorem axm:(WN m h d u o r).lookup ("bring_down":Str)=none:=by kernel_rfl
theorem aqh:(WN m h d u o r).lookup ("first_letter":Str)=none:=by kernel_rfl
theorem alF:(WN m h d u o r).lookup ("carry_out":Str)=none:=by kernel_rfl
end
structure C4 where
 T:Addr
 D:Addr
 H:Addr
 P:Addr
structure cH(c:C4)(H:Hp)(B:Tb->Addr)(n m:Nat)(S:TS)(k:Nat):Prop where
 inj:∀x y:Tb,x.ok n m->y.ok n m->B x=B y->x=y
 ob:∃dx,H (B .bf)=some (.ins c.T dx (WN m (B (.h .hall)) (B .mD) (B .ups) (B .downs) (B .row)))
 ds:H (B .mD)=some (.lst ((range n).map λd=>V.ref (B (.dk d))))
 us:H (B .ups)=some (.lst ((range n).map λd=>V.ref (B (.up d))))
 os:H (B .downs)=some (.lst ((range n).map λd=>V.ref (B (.dn d))))
 row:∃vs,H (B .row)=some (.lst vs)/\aG H vs (S.row.map RE.d)
 up:∀d,d<n->∃vs,H (B (.up d))=some (.lst vs)/\aG H vs ((S.up d).map UL.d)
 dn:∀d,d<n->∃vs,H (B (.dn d))=some (.lst vs)/\aG H vs ((S.dn d).map Let.d)
 dk:∀d,d<n->cC c.D H (B (.dk d)) (B (.cp d)) (S.ds d) k
 hl:mZ c.H c.P H (λx=>B (.h x)) m S.pg
structure TF(H H':Hp)(B:Tb->Addr)(n m:Nat):Prop where
 kp:∀b o,H b=some o->(∀x:Tb,x.ok n m->b≠B x)->H' b=some o
 lv:Lv H H'
theorem TF.refl(H:Hp)(B:Tb->Addr)(n m:Nat):TF H H B n m:=⟨λ_ _ h _=>h,Lv.refl _⟩
def Tv(H:Hp)(B B1:Tb->Addr)(n m:Nat):Prop:=∀x:Tb,x.ok n m->B1 x=B x\/H (B1 x)=none
theorem Tv.refl(H:Hp)(B:Tb->Addr)(n m:Nat):Tv H B B n m:=λ_ _=>.inl rfl
theorem TF.trans{H H1 H2:Hp}{B F:Tb->Addr}{n m:Nat}(x:TF H H1 B n m)(y:TF H1 H2 F n m)(h:Tv H B F n m):TF H H2 B n m:=⟨λb o I J=>y.kp b o (x.kp b o I J) λz hz=>by
 rcases h z hz with e | e
 ·rw[e];exact J z hz
 ·exact aF I e,x.lv.trans y.lv⟩
section
variable{c:C4}{H H':Hp}{B:Tb->Addr}{n m:Nat}{S S':TS}{k k':Nat}
theorem cH.live(T:cH c H B n m S k)(x:Tb)(F:x.ok n m):∃o,H (B x)=some o/\∀xs,o≠.tup xs:=by
 cases x with
 | bf=>obtain⟨dx,e⟩:=T.ob;exact⟨_,e,λ_ z=>by cases z⟩
 | mD=>exact⟨_,T.ds,λ_ z=>by cases z⟩
 | ups=>exact⟨_,T.us,λ_ z=>by cases z⟩
 | downs=>exact⟨_,T.os,λ_ z=>by cases z⟩
 | row=>obtain⟨vs,e,_⟩:=T.row;exact⟨_,e,λ_ z=>by cases z⟩
 | up d=>obtain⟨vs,e,_⟩:=T.up d F;exact⟨_,e,λ_ z=>by cases z⟩
 | dn d=>obtain⟨vs,e,_⟩:=T.dn d F;exact⟨_,e,λ_ z=>by cases z⟩
 | dk d=>obtain⟨⟨dx,v,e,_⟩,_⟩:=T.dk d F;exact⟨_,e,λ_ z=>by cases z⟩
 | cp d=>obtain⟨_,⟨kvs,e,_⟩⟩:=T.dk d F;exact⟨_,e,λ_ z=>by cases z⟩
 | h x=>exact T.hl.live x F
theorem cH.ne(T:cH c H B n m S k){x:Tb}(F:x.ok n m){b:Addr}(h:H b=none):B x≠b:=λz=>by
 obtain⟨o,e,_⟩:=T.live x F
 rw[z,h]at e;cases e
theorem cH.tne(T:cH c H B n m S k){x:Tb}(F:x.ok n m){b:Addr}{xs:List V}(h:H b=some (.tup xs)):b≠B x:=λz=>by
 obtain⟨o,e,g⟩:=T.live x F
 rw[<-z,h]at e;exact g xs (Option.some.inj e).symm
theorem TF.tups(T:cH c H B n m S k)(f:TF H H' B n m):cz H H':=λb xs e=>f.kp b _ e λ_ z=>T.tne z e
theorem TF.of_same(s:bK H H'):TF H H' B n m:=⟨λb o e _=>s b o e,Lv.same s⟩
theorem cH.but(T:cH c H B n m S k)(t:cz H H')(ch:Tb->Prop)(kp:∀x:Tb,x.ok n m->¬ch x->∀o,H (B x)=some o->H' (B x)=some o)(hk:k<=k')
 (c1:¬ch .bf) (F:¬ch .mD) (c3:¬ch .ups) (c4:¬ch .downs)
 (row:(¬ch .row/\S'.row=S.row)\/∃vs,H' (B .row)=some (.lst vs)/\aG H' vs (S'.row.map RE.d))
 (up:∀d,d<n->(¬ch (.up d)/\S'.up d=S.up d)\/∃vs,H' (B (.up d))=some (.lst vs)/\aG H' vs ((S'.up d).map UL.d))
 (dn:∀d,d<n->(¬ch (.dn d)/\S'.dn d=S.dn d)\/∃vs,H' (B (.dn d))=some (.lst vs)/\aG H' vs ((S'.dn d).map Let.d))
 (dk:∀d,d<n->(¬ch (.dk d)/\¬ch (.cp d)/\S'.ds d=S.ds d)\/cC c.D H' (B (.dk d)) (B (.cp d)) (S'.ds d) k')
 (hl:((∀x:Hb,¬ch (.h x))/\S'.pg=S.pg)\/mZ c.H c.P H' (λx=>B (.h x)) m S'.pg):cH c H' B n m S' k':=by
 refine⟨T.inj,?_,kp .mD trivial F _ T.ds,kp .ups trivial c3 _ T.us,kp .downs trivial c4 _ T.os,?_,λd hd=>?_,λd hd=>?_,λd hd=>?_,?_⟩;{obtain⟨dx,e⟩:=T.ob;exact⟨dx,kp .bf trivial c1 _ e⟩};{rcases row with ⟨a,b⟩ | z;{obtain⟨vs,e,r⟩:=T.row;exact⟨vs,kp .row trivial a _ e,by rw[b];exact r.aU t (bc RE.flat _)⟩};{exact z}};{rcases up d hd with ⟨a,b⟩ | z;{obtain⟨vs,e,r⟩:=T.up d hd;exact⟨vs,kp (.up d) hd a _ e,by rw[b];exact r.aU t (bc UL.flat _)⟩};{exact z}};{rcases dn d hd with ⟨a,b⟩ | z;{obtain⟨vs,e,r⟩:=T.dn d hd;exact⟨vs,kp (.dn d) hd a _ e,by rw[b];exact r.aU t (bc Let.flat _)⟩};{exact z}};{rcases dk d hd with ⟨a,I,b⟩ | z;{rw[b];exact((T.dk d hd).keep t (kp (.dk d) hd a) (kp (.cp d) hd I)).mono hk};{exact z}};{rcases hl with ⟨a,b⟩ | z;{rw[b];exact T.hl.keep t λx J=>kp (.h x) J (a x)};{exact z}}
theorem cH.keep(T:cH c H B n m S k)(t:cz H H')(kp:∀x:Tb,x.ok n m->∀o,H (B x)=some o->H' (B x)=some o):cH c H' B n m S k:=
 T.but t (λ_=>False) (λx z _=>kp x z) (Nat.le_refl _) id id id id (.inl ⟨id,rfl⟩) (λ_ _=>.inl ⟨id,rfl⟩) (λ_ _=>.inl ⟨id,rfl⟩) (λ_ _=>.inl ⟨id,id,rfl⟩) (.inl ⟨λ_=>id,rfl⟩)
theorem cH.same(T:cH c H B n m S k)(s:bK H H'):cH c H' B n m S k:=T.keep (aQ s) λx _ o e=>s _ o e
theorem cH.new{a:Addr}{o:HO}(T:cH c H B n m S k)(h:H a=none):cH c (upd H a o) B n m S k:=T.same (aq h)
theorem cH.more(T:cH c H B n m S k)(h:k<=k'):cH c H B n m S k':={T with dk:=λd hd=>(T.dk d hd).mono h}
theorem TF.wr{x:Tb}(z:x.ok n m){o:HO}:TF H (upd H (B x) o) B n m:=⟨λb u e F=>by rw[az (F x z)];exact e,Lv.upd⟩
theorem cH.axn(T:cH c H B n m S k){x:Tb}(z:x.ok n m){o:HO}:cz H (upd H (B x) o):=λb xs e=>by rw[az (T.tne z e)];exact e
theorem cH.kp1(T:cH c H B n m S k){x:Tb}(F:x.ok n m){o:HO}:∀y:Tb,y.ok n m->¬y=x->∀u,H (B y)=some u->upd H (B x) o (B y)=some u:=λy I J u e=>by
 rw[az λz=>J (T.inj y x I F z)];exact e
theorem cH.aqd(T:cH c H B n m S k){vs:List V}{l:List RE}(r:aG H vs (l.map RE.d)):cH c (upd H (B .row) (.lst vs)) B n m {S with row:=l} k:=
 have t:=T.axn (x:=.row) trivial
 T.but t (·=.row) (T.kp1 (x:=.row) trivial) (Nat.le_refl _) nofun nofun nofun nofun (.inr ⟨vs,aj,r.aU t (bc RE.flat _)⟩)
  (λd _=>.inl ⟨nofun,rfl⟩) (λd _=>.inl ⟨nofun,rfl⟩) (λd _=>.inl ⟨nofun,nofun,rfl⟩) (.inl ⟨λ_=>nofun,rfl⟩)
theorem cH.aiV(T:cH c H B n m S k){d:Nat}(hd:d<n){vs:List V}{l:List UL}(r:aG H vs (l.map UL.d)):cH c (upd H (B (.up d)) (.lst vs)) B n m {S with up:=aM S.up d l} k:=
 have t:=T.axn (x:=.up d) hd
 T.but t (·=.up d) (T.kp1 (x:=.up d) hd) (Nat.le_refl _) nofun nofun nofun nofun (.inl ⟨nofun,rfl⟩)
  (λe _=>by
    by_cases y:e=d
    ·subst y;exact .inr ⟨vs,aj,by dsimp only;rw[aJ];exact r.aU t (bc UL.flat _)⟩
    ·exact .inl ⟨λz=>y (by cases z;rfl),aX _ _ y⟩)
  (λd _=>.inl ⟨nofun,rfl⟩) (λd _=>.inl ⟨nofun,nofun,rfl⟩) (.inl ⟨λ_=>nofun,rfl⟩)
theorem cH.aog(T:cH c H B n m S k){d:Nat}(hd:d<n){vs:List V}{l:List Let}(r:aG H vs (l.map Let.d)):cH c (upd H (B (.dn d)) (.lst vs)) B n m {S with dn:=aM S.dn d l} k:=
 have t:=T.axn (x:=.dn d) hd
 T.but t (·=.dn d) (T.kp1 (x:=.dn d) hd) (Nat.le_refl _) nofun nofun nofun nofun (.inl ⟨nofun,rfl⟩)
  (λd _=>.inl ⟨nofun,rfl⟩)
  (λe _=>by
    by_cases y:e=d
    ·subst y;exact .inr ⟨vs,aj,by dsimp only;rw[aJ];exact r.aU t (bc Let.flat _)⟩
    ·exact .inl ⟨λz=>y (by cases z;rfl),aX _ _ y⟩)
  (λd _=>.inl ⟨nofun,nofun,rfl⟩) (.inl ⟨λ_=>nofun,rfl⟩)
theorem cH.jG(T:cH c H B n m S k){d:Nat}(hd:d<n){D':DS}(I:cC c.D H' (B (.dk d)) (B (.cp d)) D' k')(f:DF H H' (B (.dk d)) (B (.cp d)))(hk:k<=k') :
 cH c H' B n m {S with ds:=aM S.ds d D'} k'/\TF H H' B n m:=by
 have t:=f.tups (T.dk d hd);refine⟨T.but t (λx=>x=.dk d\/x=.cp d) (λx J F o e=>f _ o e (λz=>F (.inl (T.inj x (.dk d) J hd z))) λz=>F (.inr (T.inj x (.cp d) J hd z))) hk (λz=>z.elim nofun nofun) (λz=>z.elim nofun nofun) (λz=>z.elim nofun nofun) (λz=>z.elim nofun nofun)
  (.inl ⟨λz=>z.elim nofun nofun,rfl⟩) (λe _=>.inl ⟨λz=>z.elim nofun nofun,rfl⟩) (λe _=>.inl ⟨λz=>z.elim nofun nofun,rfl⟩) (λe L=>?_) (.inl ⟨λ_ z=>z.elim nofun nofun,rfl⟩),⟨λb o e F=>f b o e (F (.dk d) hd) (F (.cp d) hd),((f.kept (T.dk d hd) I)).lv⟩⟩
 by_cases y:e=d;{subst y;exact .inr (by dsimp only;rw[aJ];exact I)};{exact .inl ⟨λz=>z.elim (λz=>y (Tb.dk.inj z)) nofun,λz=>z.elim nofun (λz=>y (Tb.cp.inj z)),aX _ _ y⟩}
def mvB(B:Tb->Addr)(A:Hb->Addr):Tb->Addr
 | .h x=>A x
 | x=>B x
theorem cH.hall(T:cH c H B n m S k){A:Hb->Addr}{G:Nat->PG}(W:mZ c.H c.P H' A m G)(f:HF H H' (λx=>B (.h x)) m)(Y:∀x:Hb,x.ok m->A x=B (.h x)\/H (A x)=none)(eh:A .hall=B (.h .hall)) :
 cH c H' (mvB B A) n m {S with pg:=G} k/\TF H H' B n m/\Tv H B (mvB B A) n m:=by
 have t:cz H H':=f.tups T.hl;have kp:∀x:Tb,x.ok n m->(∀y:Hb,x≠.h y)->∀o,H (B x)=some o->H' (B x)=some o:=λx F J o e=>f.kp _ o e λy I z=>J y (T.inj x (.h y) F I z);refine⟨⟨λx y F I e=>?_,?_,kp .mD trivial (by intro y z;cases z) _ T.ds,kp .ups trivial (by intro y z;cases z) _ T.us,kp .downs trivial (by intro y z;cases z) _ T.os,?_,λd hd=>?_,λd hd=>?_,λd hd=>?_,W⟩,⟨λb o e J=>f.kp b o e λy I=>J (.h y) I,f.lv⟩,λx F=>?_⟩
 ·have L:∀(u:Tb) (v:Hb),u.ok n m->(∀y:Hb,u≠.h y)->v.ok m->B u≠A v:=λu v Z J hv z=>by{rcases Y v hv with q | q;{rw[q]at z;exact J v (T.inj u (.h v) Z hv z)};{rw[<-z]at q;obtain⟨o,e,_⟩:=T.live u Z;rw[q]at e;cases e}};cases x with
  | h x'=>cases y with
    | h O=>rw[W.inj x' O F I e]
    | _=>exact absurd e.symm (L _ x' I (by intro y z;cases z) F)
  | _=>cases y with
    | h O=>exact absurd e (L _ O F (by intro y z;cases z) I)
    | _=>exact T.inj _ _ F I e
 ·obtain⟨dx,e⟩:=T.ob;refine⟨dx,?_⟩;have:=kp .bf trivial (by intro y z;cases z) _ e;rw[<-eh]at this;exact this
 ·obtain⟨vs,e,r⟩:=T.row;exact⟨vs,kp .row trivial (by intro y z;cases z) _ e,r.aU t (bc RE.flat _)⟩
 ·obtain⟨vs,e,r⟩:=T.up d hd;exact⟨vs,kp (.up d) hd (by intro y z;cases z) _ e,r.aU t (bc UL.flat _)⟩
 ·obtain⟨vs,e,r⟩:=T.dn d hd;exact⟨vs,kp (.dn d) hd (by intro y z;cases z) _ e,r.aU t (bc Let.flat _)⟩
 ·exact(T.dk d hd).keep t (kp (.dk d) hd (by intro y z;cases z)) (kp (.cp d) hd (by intro y z;cases z))
 ·cases x with| h y=>exact Y y F| _=>exact .inl rfl
end
end fV
namespace PV
open List
open PySem.W (Frag emptyDict findIn fnOf hideAll instObj isFn keepIn kia_one kia_tup kitAny kitOne lookIn nsIn)
open PySem.F (plainAttrs_list slot_list_pop type_list_pop)
open Nat (le_succ lt_of_lt_of_le ne_of_lt zero_le)
open fV (aM aX Rt)
@[simp] theorem aJ {α:Type} (f:Nat->α) (i:Nat) (v:α):aM f i v i=v:=fV.aJ f i v
inductive Up where
 | ask (w:Bool) | ans (o:Option Int) | gave (x:Int)
 deriving DecidableEq
inductive Dn where
 | lend (w:Bool) (x:Int) | back (r:Bool)
 deriving DecidableEq
def Up.lB:Up->Bool | .ask _=>true | _=>false
def Up.lC:Up->Bool | .ans _=>true | _=>false
def Up.ZV:Up->Bool | .gave _=>true | _=>false
def Up.isVal:Up->Bool | .gave _=>true | .ans (some _)=>true | _=>false
def Dn.ir:Dn->Bool | .lend _ _=>true | _=>false
def Dn.jj:Dn->Bool | .back _=>true | _=>false
structure St where
 rt:Nat->Rt
 cp:Nat->Int
 U:Nat->List Up
 D:Nat->List Dn
 wt:Nat->Option Bool
 num:Int
 wr:Option Nat
 rs:List Nat
 q:List (Nat×Bool)
 ms:Nat
 cur:Int
def okU(x y:Up):Prop:=(x.lC=true->y.ZV=false)/\(x.lB=true->y.isVal=false)
def okD(x y:Dn):Prop:=x.jj=true->y.ir=false
def fu(v:St)(i:Nat):Prop:=v.rt i≠.no\/∃w x,Dn.lend w x∈v.D i
def Vr(v:St)(i:Nat):Prop:=v.rt i=.wr\/∃x,Dn.lend true x∈v.D i
def Val(v:St)(i:Nat):Prop:=∃x∈v.U i,x.isVal=true
structure Inv(v:St)(b:List Nat):Prop where
 nd:b.Nodup
 len:b.length=v.ms
 c1:∀i,(v.D i).countP Dn.jj+(v.U i).countP Up.lC=if i∈b then 1 else 0
 c3:∀i,(v.U i).countP Up.lB+v.q.countP (λx=>x.1 == i)+(v.D i).countP Dn.ir=if(v.wt i).isSome then 1 else 0
 ask:∀i w,Up.ask w∈v.U i->v.wt i=some w
 que:∀i w,(i,w)∈v.q->v.wt i=some w
 lnd:∀i w x,Dn.lend w x∈v.D i->v.wt i=some w/\x=v.cur
 pu:∀i,(v.U i).Pairwise okU
 pd:∀i,(v.D i).Pairwise okD
 hold:∀i,fu v i->v.wr=some i\/i∈v.rs
 wri:∀i,Vr v i->v.wr=some i
 ex:v.wr≠none->v.rs=[]
 rnd:v.rs.Nodup
 s0:v.ms=0->v.q=[]
 s1:v.ms≠0->v.q≠[]
 sa:∀a w r,v.q=(a,w)::r->a∉b
 sw:∀a r,v.q=(a,true)::r->∀i,i≠a->fu v i->∃x,Dn.back x∈v.D i
 sr:∀a r,v.q=(a,false)::r->∀i,i≠a->Vr v i->∃x,Dn.back x∈v.D i
 sv:∀a w r,v.q=(a,w)::r->∀i,i≠a->Val v i->i∈b
 sb:∀a w r,v.q=(a,w)::r->∀i x,Dn.back x∈v.D i->x = !w
 gv:∀i x,Up.gave x∈v.U i->x=v.cur/\v.wr=some i/\v.rt i=.no
 av:∀i x,Up.ans (some x)∈v.U i->x=v.cur/\v.wr=some i/\v.rt i≠.wr
 an:∀i o,Up.ans o∈v.U i->v.rt i≠.wr/\∀w x,Dn.lend w x∉v.D i
 vl:∀i,Val v i->(∀w x,Dn.lend w x∉v.D i)/\∀w,(i,w)∉v.q
 v1:∀i,(v.U i).countP Up.isVal<=1
 nm:(∀i,v.rt i≠.wr)->(∀i,¬Val v i)->v.num=v.cur
 cop:∀i,v.rt i≠.no->v.cp i=v.cur
 wt0:∀i,v.wt i=some false->v.rt i=.no
 wt1:∀i,v.wt i=some true->v.rt i≠.wr
def aok(v:St)(i:Nat)(w:Bool):St:={v with wt:=aM v.wt i (some w),U:=aM v.U i (v.U i++[.ask w])}
def aeH(v:St)(i:Nat):St:={v with rt:=aM v.rt i .no,U:=aM v.U i (if v.rt i=.wr then v.U i++[.gave (v.cp i)]else v.U i)}
def aAq(v:St)(i:Nat)(x:Int):St:={v with cp:=aM v.cp i x,cur:=x}
def oO(v:St)(i:Nat)(w:Bool)(x:Int)(r:List Dn)(y:Option Int):St:=
 {v with D:=aM v.D i r,rt:=aM v.rt i (if w then .wr else .rd),wt:=aM v.wt i none,cp:=aM v.cp i (y.getD x),cur:=y.getD v.cur}
def mF(v:St)(i:Nat)(l:Bool)(r:List Dn):St:=
 {v with D:=aM v.D i r,U:=aM v.U i (v.U i++[.ans (if v.rt i=.wr then some (v.cp i)else none)]),rt:=aM v.rt i (if v.rt i=.wr then(if l then .rd else .no)else if l then v.rt i else .no)}
section
variable{v:St}{b:List Nat}{i:Nat}
theorem gk{α:Type}{p:α->Bool}{l:List α}(h:l.countP p=0):∀x∈l,p x=false:=by
 intro x z;have:=countP_eq_zero.mp h x z;simpa using this
theorem Inv.axo(I:Inv v b)(h:v.wt i=none):(v.U i).countP Up.lB=0/\v.q.countP (λx=>x.1 == i)=0/\(v.D i).countP Dn.ir=0:=by
 have:=I.c3 i;rw[h]at this;simp only[Option.isSome_none,Bool.false_eq_true,if_false]at this;lia
theorem Inv.put(I:Inv v b)(h:v.rt i=.wr)(x:Int):Inv (aAq v i x) b:=by
 have J:v.wr=some i:=I.wri i (.inl h);have hr:v.rs=[]:=I.ex (by rw[J];simp);have only:∀j,fu v j->j=i:=λj L=>by{rcases I.hold j L with z | z;{rw[J]at z;exact(Option.some.inj z).symm};{rw[hr]at z;simp at z}};have O:∀j w y,Dn.lend w y∉v.D j:=λj w y hl=>by{have e:=only j (.inr ⟨w,y,hl⟩);subst e;have h1:=I.lnd j w y hl;cases w with| false=>have:=I.wt0 j h1.1;rw[h]at this;cases this| true=>exact I.wt1 j h1.1 h};have F:∀j,¬Val v j:=λj ⟨u,Y,Z⟩=>by{cases u with| ask w=>simp[Up.isVal]at Z| gave y=>have:=I.gv j y Y;have e:j=i:=by{have:=this.2.1;rw[J]at this;exact(Option.some.inj this).symm};subst e;rw[h]at this;exact absurd this.2.2 (by simp)| ans o=>cases o with| none=>simp[Up.isVal]at Z| some y=>have:=I.av j y Y;have e:j=i:=by{have:=this.2.1;rw[J]at this;exact(Option.some.inj this).symm};subst e;exact absurd h this.2.2};exact {I with
  lnd:=λj w y hl=>absurd hl (O j w y)
  gv:=λj y W=>absurd ⟨_,W,rfl⟩ (F j)
  av:=λj y W=>absurd ⟨_,W,rfl⟩ (F j)
  nm:=λz _=>absurd h (z i)
  cop:=λj L=>by
   have e:=only j (.inl L)
   subst e
   simp[aAq]}
theorem avG(h:(v.U i).countP Up.lB=0)(w:Bool):Up.ask w∉v.U i:=λz=>by simpa[Up.lB] using gk h _ z
theorem am1(h:(v.D i).countP Dn.ir=0)(w:Bool)(x:Int):Dn.lend w x∉v.D i:=λz=>by simpa[Dn.ir] using gk h _ z
theorem noQ(h:v.q.countP (λx=>x.1 == i)=0)(w:Bool):(i,w)∉v.q:=λz=>by simpa using gk h _ z
local macro_rules | `(tactic| done) => `(tactic| (dsimp only [aok,aeH,oO,mF,aM] at *; grind [Up.lB,Up.lC,Up.ZV,Up.isVal,Dn.ir,Dn.jj,pairwise_append,okU]))
theorem Inv.aAr(I:Inv v b)(h:v.wt i=none)(w:Bool)(h0:w=false->v.rt i=.no)(h1:w=true->v.rt i≠.wr):Inv (aok v i w) b:=by
 obtain⟨W,Y,Z⟩:=I.axo h;have n1:=avG W;have n2:=am1 Z;have n3:=noQ Y;have L:∀j,Val (aok v i w) j↔Val v j:=λj=>by{unfold Val aok aM;by_cases e:j=i<;>simp[e,Up.isVal]};have hh:∀j,fu (aok v i w) j↔fu v j:=λj=>Iff.rfl;have hw:∀j,Vr (aok v i w) j↔Vr v j:=λj=>Iff.rfl;refine⟨I.nd,I.len,λj=>?_,λj=>?_,λj J F=>?_,λj J F=>?_,λj J x F=>?_,λj=>?_,I.pd,I.hold,I.wri,I.ex,I.rnd,I.s0,I.s1,I.sa,I.sw,I.sr,λa J r e j F O=>I.sv a J r e j F ((L j).mp O),I.sb,λj x F=>?_,λj x F=>?_,λj o F=>?_,λj F=>I.vl j ((L j).mp F),λj=>?_,λa c=>I.nm a λj z=>c j ((L j).mpr z),I.cop,λj F=>?_,λj F=>?_⟩;{have:=I.c1 j;done};{have:=I.c3 j;done};{have:=I.ask j J;done};{have:=I.que j J;done};{have:=I.lnd j J x;done};{have:=I.pu j;done};{have:=I.gv j x;done};{have:=I.av j x;done};{have:=I.an j o;done};{have:=I.v1 j;done};{have:=I.wt0 j;done};{have:=I.wt1 j;done}
theorem am2{l:List Up}{x:Up}(h:l.Pairwise okU)(F:∀a∈l,okU a x):(l++[x]).Pairwise okU:=by
 rw[pairwise_append];exact⟨h,pairwise_singleton _ _,λa I y z=>by rw[mem_singleton]at z;subst z;exact F a I⟩
theorem Pj{x:Int}(h:Up.gave x∈v.U i):Val v i:=⟨_,h,rfl⟩
theorem am3{x:Int}(h:Up.ans (some x)∈v.U i):Val v i:=⟨_,h,rfl⟩
theorem Inv.aiX(I:Inv v b)(h:v.rt i=.wr):(v.U i).countP Up.isVal=0:=by
 rw[countP_eq_zero];intro u z F;cases u with| ask w=>simp[Up.isVal]at F| gave y=>have:=(I.gv i y z).2.2;rw[h]at this;cases this| ans o=>cases o with| none=>simp[Up.isVal]at F| some y=>exact(I.av i y z).2.2 h
theorem Inv.aiY(I:Inv v b)(h:v.rt i=.wr)(w:Bool):Up.ask w∉v.U i:=λz=>by
 have:=I.ask i w z
 cases w with
 | false=>have:=I.wt0 i this;rw[h]at this;cases this
 | true=>exact I.wt1 i this h
theorem Inv.aqi(I:Inv v b)(h:v.rt i=.wr)(w:Bool):(i,w)∉v.q:=λz=>by
 have:=I.que i w z
 cases w with
 | false=>have:=I.wt0 i this;rw[h]at this;cases this
 | true=>exact I.wt1 i this h
theorem Inv.axp(I:Inv v b)(h:v.rt i=.wr)(w:Bool)(x:Int):Dn.lend w x∉v.D i:=λz=>by
 have:=(I.lnd i w x z).1
 cases w with
 | false=>have:=I.wt0 i this;rw[h]at this;cases this
 | true=>exact I.wt1 i this h
theorem Inv.lu(I:Inv v b)(h:v.rt i≠.no):Inv (aeH v i) b:=by
 by_cases J:v.rt i=.wr;{have a1:=I.aiY J;have a2:=I.aqi J;have a3:=I.axp J;have a4:=I.aiX J;have a5:=I.cop i h;have a6:=I.wri i (.inl J);have a7:∀o,Up.ans o∉v.U i:=λo z=>(I.an i o z).1 J;have e:aeH v i={v with rt:=aM v.rt i .no,U:=aM v.U i (v.U i++[.gave (v.cp i)])}:=by{simp[aeH,J]};rw[e];have Z:∀j,Val {v with rt:=aM v.rt i .no,U:=aM v.U i (v.U i++[.gave (v.cp i)])} j↔(Val v j\/j=i):=λj=>by{unfold Val aM;by_cases e:j=i;{simp[e,Up.isVal]};{simp[e]}};have O:∀j,fu {v with rt:=aM v.rt i .no,U:=aM v.U i (v.U i++[.gave (v.cp i)])} j->fu v j:=λj=>by{unfold fu aM;dsimp only;by_cases e:j=i;{simp[e,J]};{simp[e]}};have L:∀j,Vr {v with rt:=aM v.rt i .no,U:=aM v.U i (v.U i++[.gave (v.cp i)])} j->Vr v j:=λj=>by{unfold Vr aM;dsimp only;by_cases e:j=i;{simp[e,J]};{simp[e]}};refine⟨I.nd,I.len,λj=>?_,λj=>?_,λj Y F=>?_,I.que,I.lnd,λj=>?_,I.pd,λj F=>I.hold j (O j F),λj F=>I.wri j (L j F),I.ex,I.rnd,I.s0,I.s1,I.sa,λa r e j F z=>I.sw a r e j F (O j z),λa r e j F z=>I.sr a r e j F (L j z),λa Y r e j F z=>?_,I.sb,λj x F=>?_,λj x F=>?_,λj o F=>?_,λj F=>?_,λj=>?_,λz1 W=>?_,λj F=>?_,λj F=>?_,λj F=>?_⟩;{have:=I.c1 j;done};{have:=I.c3 j;done};{have:=I.ask j Y;done};{by_cases ej:j=i;{subst ej;simp only[aJ];refine am2 (I.pu j) λa ha=>?_;cases a with| ask w=>exact absurd ha (a1 w)| ans o=>exact absurd ha (a7 o)| gave y=>exact⟨λz=>by simp[Up.lC]at z,λz=>by simp[Up.lB]at z⟩};{simp only[aX _ _ ej];exact I.pu j}};{rcases (Z j).mp z with q | q;{exact I.sv a Y r e j F q};{subst q;have W:∃x,Dn.back x∈v.D j:=by{cases Y with| true=>exact I.sw a r e j F (.inl h)| false=>exact I.sr a r e j F (.inl J)};obtain⟨x,hx⟩:=W;have h1:=I.c1 j;have h2:0<(v.D j).countP Dn.jj:=countP_pos_iff.mpr ⟨_,hx,rfl⟩;by_cases q:j∈b;{exact q};{rw[if_neg q]at h1;lia}}};{have:=I.gv j x;done};{have:=I.av j x;done};{have:=I.an j o;done};{rcases (Z j).mp F with q | q;{exact I.vl j q};{subst q;exact⟨a3,a2⟩}};{have:=I.v1 j;done};{exact absurd ((Z i).mpr (.inr rfl)) (W i)};{have:=I.cop j;done};{have:=I.wt0 j;done};{have:=I.wt1 j;done}}
 ·have e:aeH v i={v with rt:=aM v.rt i .no}:=by{simp only[aeH,if_neg J];congr 1;funext j;by_cases e:j=i<;>simp[aM,e]};rw[e];have O:∀j,fu {v with rt:=aM v.rt i .no} j->fu v j:=λj=>by{unfold fu aM;dsimp only;by_cases e:j=i;{subst e;simp only[if_true];rintro(z | z);{exact absurd rfl z};{exact .inr z}};{simp[e]}};have L:∀j,Vr {v with rt:=aM v.rt i .no} j->Vr v j:=λj=>by{unfold Vr aM;dsimp only;by_cases e:j=i;{subst e;simp only[if_true];rintro(z | z);{cases z};{exact .inr z}};{simp[e]}};exact {I with
   hold:=λj F=>I.hold j (O j F)
   wri:=λj F=>I.wri j (L j F)
   sw:=λa r e j F z=>I.sw a r e j F (O j z)
   sr:=λa r e j F z=>I.sr a r e j F (L j z)
   gv:=λj x F=>by have:=I.gv j x F;dsimp only[aM];grind
   av:=λj x F=>by have:=I.av j x F;dsimp only[aM];grind
   an:=λj o F=>by have:=I.an j o F;dsimp only[aM];grind
   nm:=λz1 W=>I.nm (λj F=>by have:=z1 j;dsimp only[aM]at this;grind) W
   cop:=λj F=>by have:=I.cop j;dsimp only[aM]at F;grind
   wt0:=λj F=>by have:=I.wt0 j F;dsimp only[aM];grind
   wt1:=λj F=>by have:=I.wt1 j F;dsimp only[aM];grind}
theorem Inv.aeI(I:Inv v b){w:Bool}{x:Int}{r:List Dn}(J:v.D i=.lend w x::r):(∀F L,Dn.lend F L∉r)/\v.wt i=some w/\x=v.cur/\(∀F,Up.ask F∉v.U i)/\(∀F,(i,F)∉v.q):=by
 have m:Dn.lend w x∈v.D i:=by{rw[J];simp};have h1:=I.lnd i w x m;have O:=I.c3 i;rw[h1.1,J,countP_cons]at O;simp only[Option.isSome_some,if_true,Dn.ir]at O;have W:r.countP Dn.ir=0:=by{lia};have Y:(v.U i).countP Up.lB=0:=by{lia};have Z:v.q.countP (λx=>x.1 == i)=0:=by{lia};exact⟨λF L z=>by simpa[Dn.ir] using gk W _ z,h1.1,h1.2,avG Y,noQ Z⟩
theorem Inv.aqj(I:Inv v b){w:Bool}{x:Int}{r:List Dn}(hD:v.D i=.lend w x::r)(y:Option Int)(hy:y.isSome->w=true):Inv (oO v i w x r y) b:=by
 obtain⟨n1,n2,n3,n4,n5⟩:=I.aeI hD;have m:Dn.lend w x∈v.D i:=by{rw[hD];simp};have hH:fu v i:=.inr ⟨w,x,m⟩;have ae:¬Val v i:=λz=>(I.vl i z).1 w x m;have ap:∀o,Up.ans o∉v.U i:=λo z=>(I.an i o z).2 w x m;have only:w=true->∀j,fu v j->j=i:=λW j F=>by{subst W;have h1:=I.wri i (.inr ⟨x,m⟩);have h2:=I.ex (by rw[h1];simp);rcases I.hold j F with z | z;{rw[h1]at z;exact(Option.some.inj z).symm};{rw[h2]at z;simp at z}};have af:w=true->∀j,¬Val v j:=λW j F=>by{subst W;have h1:=I.wri i (.inr ⟨x,m⟩);obtain⟨u,hu,hv⟩:=id F;have e:j=i:=by{cases u with| ask w=>simp[Up.isVal]at hv| gave z=>have:=(I.gv j z hu).2.1;rw[h1]at this;exact(Option.some.inj this).symm| ans o=>cases o with| none=>simp[Up.isVal]at hv| some z=>have:=(I.av j z hu).2.1;rw[h1]at this;exact(Option.some.inj this).symm};subst e;exact ae F};have L:y.isSome->∀j,(∀O J,Dn.lend O J∈v.D j->j=i)/\¬Val v j:=λq j=>⟨λO J z=>only (hy q) j (.inr ⟨O,J,z⟩),af (hy q) j⟩;have hv:∀j,Val (oO v i w x r y) j↔Val v j:=λj=>Iff.rfl;have hh:∀j,fu (oO v i w x r y) j->fu v j:=λj F=>by{by_cases e:j=i;{subst e;exact hH};{unfold fu oO at F;simp only[aX _ _ e]at F;exact F}};have Y:∀j,Vr (oO v i w x r y) j->Vr v j:=λj F=>by{by_cases e:j=i;{subst e;unfold Vr oO at F;simp only[aJ]at F;cases w with| true=>exact .inr ⟨x,m⟩| false=>rcases F with z | ⟨J,z⟩;{simp at z};{exact absurd z (n1 _ _)}};{unfold Vr oO at F;simp only[aX _ _ e]at F;exact F}};have Z:∀j,(∃l,Dn.back l∈v.D j)->∃l,Dn.back l∈(oO v i w x r y).D j:=λj ⟨z,hz⟩=>by{by_cases e:j=i;{subst e;rw[hD]at hz;refine⟨z,?_⟩;simp only[oO,aJ];simpa using hz};{exact⟨z,by simpa only[oO,aX _ _ e] using hz⟩}};refine⟨I.nd,I.len,λj=>?_,λj=>?_,λj O F=>?_,λj O F=>?_,λj O J F=>?_,I.pu,λj=>?_,λj F=>I.hold j (hh j F),λj F=>I.wri j (Y j F),I.ex,I.rnd,I.s0,I.s1,I.sa,
  λa r' e j F z=>Z j (I.sw a r' e j F (hh j z)),λa r' e j F z=>Z j (I.sr a r' e j F (Y j z)),I.sv,λa O r' e j J F=>?_,λj J F=>?_,λj J F=>?_,λj o F=>?_,λj F=>?_,I.v1,λz1 z2=>?_,λj F=>?_,λj F=>?_,λj F=>?_⟩
 ·have:=I.c1 j;done
 ·have:=I.c3 j;done
 ·have:=I.ask j O;done
 ·have:=I.que j O;done
 ·have:=I.lnd j O J;have:=L;dsimp only[oO,aM]at *;cases y<;>grind
 ·have:=I.pd j;done
 ·have:=I.sb a O r' e j J;done
 ·have:=I.gv j J F;have:=Pj F;have:=L;dsimp only[oO,aM]at *;cases y<;>grind
 ·have:=I.av j J F;have:=am3 F;have:=L;dsimp only[oO,aM]at *;cases y<;>grind
 ·have:=I.an j o F;done
 ·have:=I.vl j F;done
 ·cases y with
  | none=>refine I.nm (λj F=>?_) z2;have:=z1 j;dsimp only[oO,aM]at this;by_cases e:j=i;{subst e;cases w with| false=>have:=I.wt0 j n2;rw[F]at this;cases this| true=>exact I.wt1 j n2 F};{rw[if_neg e]at this;exact this F}
  | some z=>have:=hy rfl;have:=z1 i;dsimp only[oO,aM]at this;simp_all
 ·have h1:=I.cop j;have:=only;dsimp only[oO,aM]at *;cases y with| none=>grind| some z=>have W:=hy rfl;by_cases e:j=i;{simp[e]};{rw[if_neg e]at F;exact absurd (only W j (.inl F)) e}
 ·have:=I.wt0 j;done
 ·have:=I.wt1 j;done
theorem Inv.axr(I:Inv v b){l:Bool}{r:List Dn}(hD:v.D i=.back l::r):Inv (mF v i l r) b:=by
 have m:Dn.back l∈v.D i:=by{rw[hD];simp};have h1:=I.c1 i;have ib:i∈b:=by{by_cases q:i∈b;{exact q};{rw[if_neg q,hD,countP_cons]at h1;simp[Dn.jj]at h1}};have ag:r.countP Dn.jj=0/\(v.U i).countP Up.lC=0:=by{rw[if_pos ib,hD,countP_cons]at h1;simp only[Dn.jj,if_true]at h1;lia};have nL:∀w x,Dn.lend w x∉r:=λw x z=>by{have:=I.pd i;rw[hD,pairwise_cons]at this;have:=this.1 _ z rfl;simp[Dn.ir]at this};have hq:v.q≠[]:=I.s1 λz=>by{have:=I.len;rw[z]at this;rw[length_eq_zero_iff.mp this]at ib;simp at ib};obtain⟨⟨a,w⟩,rest,eq⟩:=exists_cons_of_ne_nil hq;have ia:i≠a:=λz=>I.sa a w rest eq (z▸ib);have el:l = !w:=I.sb a w rest eq i l m;have nA:=λo=>(λz=>by simpa[Up.lC] using gk ag.2 _ z:Up.ans o∉v.U i);have hh:∀j,fu (mF v i l r) j->fu v j/\(j=i->l=true):=λj F=>by{unfold fu mF at F;dsimp only[aM]at F;unfold fu;grind};have Y:∀j,Vr (mF v i l r) j->Vr v j/\j≠i:=λj F=>by{unfold Vr mF at F;dsimp only[aM]at F;unfold Vr;grind};have J:∀j,Val (mF v i l r) j->Val v j\/(j=i/\v.rt i=.wr):=λj ⟨u,L,J⟩=>by{unfold mF at L;dsimp only[aM]at L;by_cases e:j=i;{subst e;rw[if_pos rfl,mem_append]at L;rcases L with z | z;{exact .inl ⟨u,z,J⟩};{rw[mem_singleton]at z;subst z;by_cases q:v.rt j=.wr;{exact .inr ⟨rfl,q⟩};{rw[if_neg q]at J;simp[Up.isVal]at J}}};{rw[if_neg e]at L;exact .inl ⟨u,L,J⟩}};have ai:∀j,Val v j->Val (mF v i l r) j:=λj ⟨u,L,J⟩=>⟨u,by
  unfold mF
  dsimp only[aM]
  by_cases e:j=i
  ·subst e;rw[if_pos rfl];exact mem_append_left _ L
  ·rw[if_neg e];exact L,J⟩
 have ad:∀j,j≠i->(∃l,Dn.back l∈v.D j)->∃l',Dn.back l'∈(mF v i l r).D j:=λj e ⟨z,hz⟩=>⟨z,by simpa only[mF,aX _ _ e] using hz⟩;have wv:=I.aiX (i:=i);have wq:=I.aqi (i:=i);have wa:=I.aiY (i:=i);have wc:=I.cop i;have ww:=I.wri i;refine⟨I.nd,I.len,λj=>?_,λj=>?_,λj O F=>?_,I.que,λj O W F=>?_,λj=>?_,λj=>?_,λj F=>I.hold j (hh j F).1,λj F=>I.wri j (Y j F).1,I.ex,I.rnd,I.s0,I.s1,I.sa,
  λZ r' e j F z=>?_,λZ r' e j F z=>ad j (Y j z).2 (I.sr Z r' e j F (Y j z).1),λZ O r' e j F z=>?_,λZ O r' e j W F=>?_,λj W F=>?_,λj W F=>?_,λj o F=>?_,λj F=>?_,λj=>?_,λz1 z2=>?_,λj F=>?_,λj F=>?_,λj F=>?_⟩
 ·have:=I.c1 j;done
 ·have:=I.c3 j;done
 ·have:=I.ask j O;done
 ·have:=I.lnd j O W;done
 ·by_cases ej:j=i;{subst ej;simp only[mF,aJ];refine am2 (I.pu j) λy hy=>⟨λ_=>rfl,λz=>?_⟩;cases y with| ask w=>by_cases q:v.rt j=.wr;{exact absurd hy (wa q w)};{rw[if_neg q];rfl}| ans o=>simp[Up.lB]at z| gave o=>simp[Up.lB]at z};{simp only[mF,aX _ _ ej];exact I.pu j}
 ·have:=I.pd j;done
 ·have e':=e;rw[show(mF v i l r).q=v.q from rfl,eq]at e';injection e' with e1 e2;injection e1 with e1 e3;have aj:j≠i:=λq=>by{have:=(hh j z).2 q;rw[el,e3]at this;simp at this};exact ad j aj (I.sw Z r' e j F (hh j z).1)
 ·rcases J j z with q | ⟨q,_⟩;{exact I.sv Z O r' e j F q};{rw[q];exact ib}
 ·have:=I.sb Z O r' e j W;done
 ·have:=I.gv j W;done
 ·have:=I.av j W;have:=wc;have:=ww;dsimp only[mF,aM]at *;unfold Vr at ww;grind
 ·have:=I.an j o;done
 ·rcases J j F with q | ⟨q,q2⟩;{have:=I.vl j q;done};{subst q;refine⟨λO W z=>?_,wq q2⟩;simp only[mF,aJ]at z;exact nL O W z}
 ·by_cases ej:j=i;{subst ej;simp only[mF,aJ,countP_append];by_cases q:v.rt j=.wr;{rw[wv q];simp[countP_cons,q,Up.isVal]};{have:=I.v1 j;rw[if_neg q];simpa[countP_cons,Up.isVal] using this}};{simp only[mF,aX _ _ ej];exact I.v1 j}
 ·have ak:v.rt i≠.wr:=λq=>z2 i ⟨.ans (some (v.cp i)),by simp[mF,q],rfl⟩;refine I.nm (λj F=>?_) λj z=>z2 j (ai j z);by_cases e:j=i;{subst e;exact ak F};{have:=z1 j;simp only[mF,aX _ _ e]at this;exact this F}
 ·have:=I.cop j;done
 ·have:=I.wt0 j;done
 ·have:=I.wt1 j;done
end
structure Pre(v:St):Prop where
 ms:v.ms=0
 c1:∀i,(∀x,Dn.back x∉v.D i)/\∀o,Up.ans o∉v.U i
 c3:∀i,(v.U i).countP Up.lB+v.q.countP (λx=>x.1 == i)+(v.D i).countP Dn.ir=if(v.wt i).isSome then 1 else 0
 ask:∀i w,Up.ask w∈v.U i->v.wt i=some w
 que:∀i w,(i,w)∈v.q->v.wt i=some w
 lnd:∀i w x,Dn.lend w x∈v.D i->v.wt i=some w/\x=v.cur
 pu:∀i,(v.U i).Pairwise okU
 hold:∀i,fu v i->v.wr=some i\/i∈v.rs
 wri:∀i,Vr v i->v.wr=some i
 ex:v.wr≠none->v.rs=[]
 rnd:v.rs.Nodup
 gv:∀i x,Up.gave x∈v.U i->x=v.cur/\v.wr=some i/\v.rt i=.no
 vl:∀i,Val v i->(∀w x,Dn.lend w x∉v.D i)/\∀w,(i,w)∉v.q
 v1:∀i,(v.U i).countP Up.isVal<=1
 nm:(∀i,v.rt i≠.wr)->(∀i,¬Val v i)->v.num=v.cur
 cop:∀i,v.rt i≠.no->v.cp i=v.cur
 wt0:∀i,v.wt i=some false->v.rt i=.no
 wt1:∀i,v.wt i=some true->v.rt i≠.wr
section
variable{v:St}{b:List Nat}{i a:Nat}{w:Bool}{rest:List (Nat×Bool)}
theorem oR{α:Type}{p:α->Bool}{l:List α}(h:∀x∈l,p x=false):l.countP p=0:=by
 rw[countP_eq_zero];intro x z;simp[h x z]
theorem Pre.inv(I:Pre v)(J:v.q=[]):Inv v []:=by
 have O:∀i,(v.D i).countP Dn.jj=0:=λi=>oR λx F=>by{cases x with| lend w x=>rfl| back r=>exact absurd F ((I.c1 i).1 r)};have W:∀i,(v.U i).countP Up.lC=0:=λi=>oR λx F=>by{cases x with| ans o=>exact absurd F ((I.c1 i).2 o)| ask w=>rfl| gave x=>rfl};refine⟨nodup_nil,I.ms.symm,λi=>by rw[O,W];simp,I.c3,I.ask,I.que,I.lnd,I.pu,λi=>?_,I.hold,I.wri,I.ex,I.rnd,λ_=>J,λz=>absurd I.ms z,λa w r e=>(by rw[J]at e;cases e),λa r e=>(by rw[J]at e;cases e),λa r e=>(by rw[J]at e;cases e),λa w r e=>(by rw[J]at e;cases e),λa w r e=>(by rw[J]at e;cases e),
  I.gv,λi x F=>absurd F ((I.c1 i).2 _),λi o F=>absurd F ((I.c1 i).2 _),I.vl,I.v1,I.nm,I.cop,I.wt0,I.wt1⟩
 rw[pairwise_iff_forall_sublist];intro x y L Y;cases x with| lend w x=>simp[Dn.jj]at Y| back r=>exact absurd (L.subset (by simp)) ((I.c1 i).1 r)
def lR(v:St)(a:Nat)(w:Bool)(rest:List (Nat×Bool)):St:=
 {v with q:=rest,D:=aM v.D a (v.D a++[.lend w v.num]),wr:=if w then some a else none,rs:=if w then []else(let r:=v.rs++v.wr.toList;if a∈r then r else r++[a])}
local macro_rules | `(tactic| done) => `(tactic| (dsimp only [lR,aM] at *; grind [Up.lB,Up.lC,Up.ZV,Up.isVal,Dn.ir,Dn.jj]))
theorem Pre.lend(I:Pre v)(W:v.q=(a,w)::rest)(h1:w=true->∀i,i≠a->¬fu v i)(h0:w=false->∀i,i≠a->¬Vr v i)(hv:∀i,i≠a->¬Val v i):Pre (lR v a w rest):=by
 have ma:(a,w)∈v.q:=by{rw[W];simp};have Y:=I.que a w ma;have nV:∀i,¬Val v i:=λi z=>by{by_cases e:i=a;{subst e;exact(I.vl i z).2 w ma};{exact hv i e z}};have ra:v.rt a≠.wr:=by{cases w with| false=>rw[I.wt0 a Y];simp| true=>exact I.wt1 a Y};have cnt:=I.c3 a;have cq:v.q.countP (λx=>x.1 == a)=1+rest.countP (λx=>x.1 == a):=by{rw[W,countP_cons];simp;lia};rw[Y,cq]at cnt;simp only[Option.isSome_some,if_true]at cnt;have nL:∀w x,Dn.lend w x∉v.D a:=am1 (by lia);have O:∀i,v.rt i≠.wr:=λi z=>by{by_cases e:i=a;{subst e;exact ra z};{cases w with| true=>exact h1 rfl i e (.inl (by rw[z];simp))| false=>exact h0 rfl i e (.inl z)}};have num:v.num=v.cur:=I.nm O nV;have Z:∀i x,Dn.lend true x∉v.D i:=λi x z=>by{by_cases e:i=a;{subst e;exact nL _ _ z};{cases w with| true=>exact h1 rfl i e (.inr ⟨true,x,z⟩)| false=>exact h0 rfl i e (.inr ⟨x,z⟩)}};have mem:∀j L J,Dn.lend L J∈(lR v a w rest).D j->Dn.lend L J∈v.D j\/(j=a/\L=w/\J=v.num):=λj L J z=>by{dsimp only[lR,aM]at z;grind};have hh:∀j,fu (lR v a w rest) j->fu v j\/j=a:=λj F=>by{rcases F with z | ⟨L,J,z⟩;{exact .inl (.inl z)};{rcases mem j L J z with q | q;{exact .inl (.inr ⟨L,J,q⟩)};{exact .inr q.1}}};have aa:∀j,(v.wr=some j\/j∈v.rs)\/j=a->w=false->j∈(lR v a w rest).rs:=λj F hw=>by{subst hw;dsimp only[lR];rcases F with (z | z) | z<;>grind};refine⟨I.ms,λj=>?_,λj=>?_,I.ask,λj L F=>I.que j L (by rw[W];exact mem_cons_of_mem _ F),λj L J F=>?_,I.pu,λj F=>?_,λj F=>?_,λz=>?_,?_,λj x F=>?_,λj F=>absurd F (nV j),I.v1,λ_ _=>num,I.cop,I.wt0,I.wt1⟩;{have:=I.c1 j;done};{have:=I.c3 j;have:v.q.countP (λx=>x.1 == j)=(if a=j then 1 else 0)+rest.countP (λx=>x.1 == j):=by{rw[W,countP_cons];by_cases e:a=j<;>simp[e];lia};dsimp only[lR,aM]at *;grind[Dn.ir]};{rcases mem j L J F with q | ⟨q1,q2,q3⟩;{exact I.lnd j L J q};{subst q1 q2 q3;exact⟨Y,num⟩}}
 ·cases w with
  | true=>left;rcases hh j F with z | z;{by_cases e:j=a;{subst e;rfl};{exact absurd z (h1 rfl j e)}};{subst z;rfl}
  | false=>right;refine aa j ?_ rfl;rcases hh j F with z | z;{exact .inl (I.hold j z)};{exact .inr z}
 ·rcases F with z | ⟨J,z⟩;{exact absurd z (O j)};{rcases mem j true J z with q | ⟨q1,q2,q3⟩;{exact absurd q (Z j J)};{subst q1 q2;rfl}}
 ·cases w with| true=>rfl| false=>exact absurd rfl z
 ·cases w with| true=>exact nodup_nil| false=>dsimp only[lR];have:=I.rnd;have:=I.ex;cases hw:v.wr with| none=>simp;split<;>grind| some j=>have e:=I.ex (by rw[hw];simp);rw[e];simp only[nil_append,Option.toList_some,Bool.false_eq_true,if_false];by_cases q:a=j;{simp[q]};{have q':¬j=a:=λz=>q z.symm;simp[q,q']}
 ·exact absurd (Pj F) (nV j)
def cL(v:St)(a:Nat)(w:Bool):List Nat:=(v.wr.toList.filter λd=>decide (d≠a))++(if w then v.rs.filter λd=>decide (d≠a)else [])
def mQ(v:St)(a:Nat)(w:Bool):St:={v with ms:=(cL v a w).length,D:=λi=>if i∈cL v a w then v.D i++[.back (!w)]else v.D i}
theorem aiZ{j:Nat}:j∈cL v a w↔j≠a/\(v.wr=some j\/(w=true/\j∈v.rs)):=by
 unfold cL;cases w<;>simp<;>grind
theorem Pre.ZW(I:Pre v):(cL v a w).Nodup:=by
 unfold cL;have h1:=I.rnd;cases z:v.wr with
 | none=>cases w with| false=>simp| true=>simpa using h1.sublist filter_sublist
 | some j=>have e:=I.ex (by rw[z];simp);rw[e];cases w<;>simp<;>(by_cases q:j=a<;>simp[q,filter_cons])
theorem Pre.bid(I:Pre v)(hq:v.q=(a,w)::rest)(hb:cL v a w≠[]):Inv (mQ v a w) (cL v a w):=by
 have bm:=λj => @aiZ v a w j;have nd:=I.ZW (a:=a) (w:=w);have aa:(cL v a w).length≠0:=λz=>hb (length_eq_zero_iff.mp z);generalize hB:cL v a w=B at *;have eD:∀j,(mQ v a w).D j=if j∈B then v.D j++[.back (!w)]else v.D j:=λj=>by{simp[mQ,hB]};have mL:∀j F L,Dn.lend F L∈(mQ v a w).D j↔Dn.lend F L∈v.D j:=λj F L=>by{rw[eD];split<;>simp};have mB:∀j L,Dn.back L∈(mQ v a w).D j↔j∈B/\L = !w:=λj L=>by{have:=(I.c1 j).1 L;rw[eD];by_cases e:j∈B<;>simp[e,this]};have hh:∀j,fu (mQ v a w) j↔fu v j:=λj=>by{unfold fu;simp only[mL];rfl};have ad:∀j,Vr (mQ v a w) j↔Vr v j:=λj=>by{unfold Vr;simp only[mL];rfl};have z1:∀i,(v.D i).countP Dn.jj=0:=λi=>oR λx hx=>by{cases x with| lend w x=>rfl| back r=>exact absurd hx ((I.c1 i).1 r)};have z2:∀i,(v.U i).countP Up.lC=0:=λi=>oR λx hx=>by{cases x with| ans o=>exact absurd hx ((I.c1 i).2 o)| ask w=>rfl| gave x=>rfl};have qe:∀O F W,v.q=(O,F)::W->O=a/\F=w:=λO F W e=>by{rw[hq]at e;injection e with e _;injection e with Y Z;exact⟨Y.symm,Z.symm⟩};have em:(mQ v a w).ms=B.length:=by{simp[mQ,hB]};refine⟨nd,em.symm,λj=>?_,λj=>?_,I.ask,I.que,λj F L J=>I.lnd j F L ((mL j F L).mp J),I.pu,λj=>?_,λj J=>I.hold j ((hh j).mp J),λj J=>I.wri j ((ad j).mp J),I.ex,I.rnd,λz=>absurd (em.symm.trans z) aa,λ_=>by rw[show(mQ v a w).q=v.q from rfl,hq];simp,λO F W e=>?_,
  λO W e j J z=>?_,λO W e j J z=>?_,λO F W e j J z=>?_,λO F W e j L J=>?_,I.gv,λj L J=>absurd J ((I.c1 j).2 _),λj o J=>absurd J ((I.c1 j).2 _),λj J=>?_,I.v1,I.nm,I.cop,I.wt0,I.wt1⟩
 ·rw[eD];show _+(v.U j).countP _=_;rw[z2];by_cases e:j∈B<;>simp[e,z1,Dn.jj]
 ·have:=I.c3 j;rw[eD];show(v.U j).countP _+v.q.countP _+_=if(v.wt j).isSome then 1 else 0;rw[<-this];by_cases e:j∈B<;>simp[e,Dn.ir]
 ·rw[eD];have p:(v.D j).Pairwise okD:=by{rw[pairwise_iff_forall_sublist];intro x y aj hb;cases x with| lend w x=>simp[Dn.jj]at hb| back r=>exact absurd (aj.subset (by simp)) ((I.c1 j).1 r)};split;{rw[pairwise_append];exact⟨p,pairwise_singleton _ _,λx _ y hy _=>by rw[mem_singleton]at hy;subst hy;rfl⟩};{exact p}
 ·obtain⟨Y,Z⟩:=qe O F W e;subst Y;intro z;exact((bm O).mp z).1 rfl
 ·obtain⟨Y,Z⟩:=qe O true W e;subst Y Z;exact⟨_,(mB j _).mpr ⟨(bm j).mpr ⟨J,by rcases I.hold j ((hh j).mp z)with q | q;exact .inl q;exact .inr ⟨rfl,q⟩⟩,rfl⟩⟩
 ·obtain⟨Y,Z⟩:=qe O false W e;subst Y Z;exact⟨_,(mB j _).mpr ⟨(bm j).mpr ⟨J,.inl (I.wri j ((ad j).mp z))⟩,rfl⟩⟩
 ·obtain⟨Y,Z⟩:=qe O F W e;subst Y;obtain⟨u,hu,hv⟩:=z;refine(bm j).mpr ⟨J,.inl ?_⟩;cases u with| ask w=>simp[Up.isVal]at hv| gave y=>exact(I.gv j y hu).2.1| ans o=>exact absurd hu ((I.c1 j).2 o)
 ·obtain⟨Y,Z⟩:=qe O F W e;rw[Z];exact((mB j L).mp J).2
 ·have:=I.vl j J;exact⟨λF L z=>this.1 F L ((mL j F L).mp z),this.2⟩
theorem Pre.aAs(I:Pre v)(e:v.q=(a,w)::rest)(O:cL v a w=[]):Pre (lR v a w rest):=by
 have none:∀j,j≠a->¬(v.wr=some j\/(w=true/\j∈v.rs)):=λj F z=>by{have:j∈cL v a w:=aiZ.mpr ⟨F,z⟩;rw[O]at this;simp at this};refine I.lend e (λJ j F z=>none j F ?_) (λJ j F z=>none j F (.inl (I.wri j z))) (λj F z=>none j F (.inl ?_));{rcases I.hold j z with q | q;{exact .inl q};{exact .inr ⟨J,q⟩}};{obtain⟨u,L,W⟩:=z;cases u with| ask w=>simp[Up.isVal]at W| gave y=>exact(I.gv j y L).2.1| ans o=>exact absurd L ((I.c1 j).2 o)}
def aeJ(v:St)(i:Nat)(x:Int)(r:List Up):St:={v with num:=x,wr:=if v.wr=some i then none else v.wr,U:=aM v.U i r}
def uh(v:St)(i:Nat)(w:Bool)(r:List Up):St:={v with q:=v.q++[(i,w)],U:=aM v.U i r}
def J6(v:St)(i:Nat)(o:Option Int)(r:List Up):St:={v with num:=o.getD v.num,ms:=v.ms - 1,U:=aM v.U i r}
local macro_rules | `(tactic| done) => `(tactic| (dsimp only [aeJ,J6,aM] at *; grind [Up.lB,Up.lC,Up.ZV,Up.isVal,Dn.ir,Dn.jj]))
theorem Inv.gave(I:Inv v b){x:Int}{r:List Up}(hU:v.U i=.gave x::r):Inv (aeJ v i x r) b:=by
 have m:Up.gave x∈v.U i:=by{rw[hU];simp};obtain⟨g1,O,g3⟩:=I.gv i x m;have hV:=Pj m;have g4:=I.vl i hV;have W:=I.ex (by rw[O];simp);have Y:∀j,¬fu v j:=λj F=>by{have:j=i:=by{rcases I.hold j F with z | z;{rw[O]at z;exact(Option.some.inj z).symm};{rw[W]at z;simp at z}};subst this;rcases F with z | ⟨w,y,z⟩;{exact z g3};{exact g4.1 w y z}};have nW:∀j,¬Vr v j:=λj F=>Y j (by
  rcases F with z | ⟨y,z⟩
  ·exact .inl (by rw[z];simp)
  ·exact .inr ⟨true,y,z⟩)
 have v1:=I.v1 i;rw[hU,countP_cons]at v1;simp only[Up.isVal,if_true]at v1;have Z:∀y∈r,y.isVal=false:=gk (by lia);have aa:∀j,Val v j->j=i:=λj ⟨u,J,L⟩=>by{cases u with| ask w=>simp[Up.isVal]at L| gave z=>have:=(I.gv j z J).2.1;rw[O]at this;exact(Option.some.inj this).symm| ans o=>cases o with| none=>simp[Up.isVal]at L| some z=>have:=(I.av j z J).2.1;rw[O]at this;exact(Option.some.inj this).symm};have nV:∀j,¬Val (aeJ v i x r) j:=λj ⟨u,J,L⟩=>by{by_cases e:j=i;{subst e;simp only[aeJ,aJ]at J;rw[Z u J]at L;cases L};{simp only[aeJ,aX _ _ e]at J;exact e (aa j ⟨u,J,L⟩)}};refine⟨I.nd,I.len,λj=>?_,λj=>?_,λj w' F=>?_,I.que,I.lnd,λj=>?_,I.pd,λj F=>absurd F (Y j),λj F=>absurd F (nW j),λz=>?_,I.rnd,I.s0,I.s1,I.sa,λa r e j F z=>absurd z (Y j),λa r e j F z=>absurd z (nW j),λa w' r' e j F z=>absurd z (nV j),I.sb,λj x' F=>absurd (Pj F) (nV j),λj x' F=>absurd (am3 F) (nV j),λj o F=>?_,λj F=>absurd F (nV j),λj=>?_,λ_ _=>g1,I.cop,I.wt0,I.wt1⟩;{have:=I.c1 j;done};{have:=I.c3 j;done};{have:=I.ask j w';done};{have:=I.pu j;done};{simp only[aeJ,O,if_true]at z;exact absurd rfl z};{have:=I.an j o;done};{have:=I.v1 j;done}
theorem Inv.pre(I:Inv v b)(h:v.ms=0):Pre v:=by
 have z:b=[]:=length_eq_zero_iff.mp (I.len.trans h);subst z;refine⟨h,λi=>⟨λx F=>?_,λo J=>?_⟩,I.c3,I.ask,I.que,I.lnd,I.pu,I.hold,I.wri,I.ex,I.rnd,I.gv,I.vl,I.v1,I.nm,I.cop,I.wt0,I.wt1⟩;{have h1:=I.c1 i;have h2:0<(v.D i).countP Dn.jj:=countP_pos_iff.mpr ⟨_,F,rfl⟩;rw[if_neg (by simp)]at h1;lia};{have h1:=I.c1 i;have h2:0<(v.U i).countP Up.lC:=countP_pos_iff.mpr ⟨_,J,rfl⟩;rw[if_neg (by simp)]at h1;lia}
theorem Inv.asked(I:Inv v b){r:List Up}(hU:v.U i=.ask w::r):(v.ms=0->Pre (uh v i w r))/\(v.ms≠0->Inv (uh v i w r) b):=by
 unfold uh;have m:Up.ask w∈v.U i:=by{rw[hU];simp};have wi:=I.ask i w m;have ac:=I.pu i;rw[hU,pairwise_cons]at ac;have af:∀y∈r,y.isVal=false:=λy hy=>(ac.1 y hy).2 rfl;have Z:¬Val v i:=λ⟨u,hu,Y⟩=>by{rw[hU,mem_cons]at hu;rcases hu with z | z;{subst z;simp[Up.isVal]at Y};{rw[af u z]at Y;cases Y}};have Y:∀j,Val {v with q:=v.q++[(i,w)],U:=aM v.U i r} j↔Val v j:=λj=>by{unfold Val;dsimp only[aM];by_cases e:j=i;{subst e;simp only[if_true];constructor;{rintro⟨u,hu,Y⟩;exact⟨u,by rw[hU];exact mem_cons_of_mem _ hu,Y⟩};{intro z;exact absurd z Z}};{simp[e]}};refine⟨λh0=>?_,λh0=>?_⟩;{have P:=I.pre h0;have hq:=I.s0 h0;{refine⟨h0,λj=>?_,λj=>?_,λj F O=>?_,λj F O=>?_,P.lnd,λj=>?_,P.hold,P.wri,P.ex,P.rnd,λj x O=>?_,λj O=>?_,λj=>?_,λa c=>P.nm a λj z=>c j ((Y j).mpr z),P.cop,P.wt0,P.wt1⟩;{have:=P.c1 j;done};{have:=P.c3 j;done};{have:=P.ask j F;done};{have:=P.que j F;done};{have:=P.pu j;done};{have:=P.gv j x;done};{have L:=(Y j).mp O;refine⟨(P.vl j L).1,λF z=>?_⟩;have:=(P.vl j L).2 F;dsimp only at z;rw[mem_append]at z;rcases z with z | z;{exact this z};{rw[mem_singleton]at z;injection z with z1 z2;subst z1;exact Z L}};{have:=P.v1 j;done}}};{have hq:=I.s1 h0;obtain⟨⟨a,w0⟩,rest,eq⟩:=exists_cons_of_ne_nil hq;have hd:∀J F W,v.q++[(i,w)]=(J,F)::W->v.q=(J,F)::rest:=λJ F W e=>by{rw[eq,cons_append]at e;injection e with e1 e2;rw[eq,e1]};refine⟨I.nd,I.len,λj=>?_,λj=>?_,λj F O=>?_,λj F O=>?_,I.lnd,λj=>?_,I.pd,I.hold,I.wri,I.ex,I.rnd,λz=>absurd z h0,λ_=>by simp,λJ F W e=>I.sa J F rest (hd J F W e),λJ W e=>I.sw J rest (hd J true W e),λJ W e=>I.sr J rest (hd J false W e),λJ F W e j O z=>I.sv J F rest (hd J F W e) j O ((Y j).mp z),λJ F W e=>I.sb J F rest (hd J F W e),λj x O=>?_,λj x O=>?_,λj o O=>?_,λj O=>?_,λj=>?_,λa c=>I.nm a λj z=>c j ((Y j).mpr z),I.cop,I.wt0,I.wt1⟩;{have:=I.c1 j;done};{have:=I.c3 j;done};{have:=I.ask j F;done};{have:=I.que j F;done};{have:=I.pu j;done};{have:=I.gv j x;done};{have:=I.av j x;done};{have:=I.an j o;done};{have L:=(Y j).mp O;refine⟨(I.vl j L).1,λF z=>?_⟩;have:=(I.vl j L).2 F;dsimp only at z;rw[mem_append]at z;rcases z with z | z;{exact this z};{rw[mem_singleton]at z;injection z with z1 z2;subst z1;exact Z L}};{have:=I.v1 j;done}}
theorem Inv.answered(I:Inv v b){o:Option Int}{r:List Up}(hU:v.U i=.ans o::r):(v.ms - 1=0->∃a w rest,v.q=(a,w)::rest/\Pre (lR (J6 v i o r) a w rest))/\(v.ms - 1≠0->∃b',Inv (J6 v i o r) b'):=by
 have m:Up.ans o∈v.U i:=by{rw[hU];simp};have h1:=I.c1 i;have ib:i∈b:=by{by_cases q:i∈b;{exact q};{rw[if_neg q,hU,countP_cons]at h1;simp[Up.lC]at h1}};have h2:(v.D i).countP Dn.jj=0/\r.countP Up.lC=0:=by{rw[if_pos ib,hU,countP_cons]at h1;simp only[Up.lC,if_true]at h1;lia};have nB:∀x,Dn.back x∉v.D i:=λx z=>by{simpa[Dn.jj] using gk h2.1 _ z};have nA:∀o,Up.ans o∉r:=λo z=>by{simpa[Up.lC] using gk h2.2 _ z};obtain⟨a1,a2⟩:=I.an i o m;have ae:=I.pu i;rw[hU,pairwise_cons]at ae;have nG:∀y∈r,y.isVal=false:=λy hy=>by{have:=(ae.1 y hy).1 rfl;cases y with| ask w=>rfl| gave x=>simp[Up.ZV]at this| ans o=>exact absurd hy (nA o)};have af:=I.len;have ay:0<b.length:=length_pos_iff.mpr λz=>by{rw[z]at ib;simp at ib};have ag:v.ms≠0:=by{lia};obtain⟨⟨a,w⟩,rest,eq⟩:=exists_cons_of_ne_nil (I.s1 ag);have ia:i≠a:=λz=>I.sa a w rest eq (z▸ib);have el:(b.erase i).length=v.ms - 1:=by{rw[length_erase_of_mem ib,af]};have ak:(b.erase i).Nodup:=I.nd.sublist erase_sublist;have me:∀j,j∈b.erase i↔j≠i/\j∈b:=λj=>by{rw[I.nd.mem_erase_iff]};have al:∀x,o=some x->x=v.cur/\v.wr=some i:=λx e=>by{subst e;exact⟨(I.av i x m).1,(I.av i x m).2.1⟩};have L:∀j,Val (J6 v i o r) j↔Val v j/\j≠i:=λj=>by{unfold Val;dsimp only[J6,aM];by_cases e:j=i;{subst e;simp only[if_true];constructor;{rintro⟨u,hu,L⟩;rw[nG u hu]at L;cases L};{rintro⟨_,z⟩;exact absurd rfl z}};{simp[e]}};have O:(∀j,v.rt j≠.wr)->(∀j,¬Val (J6 v i o r) j)->(J6 v i o r).num=v.cur:=λz1 z2=>by{cases o with| some x=>exact(al x rfl).1| none=>refine I.nm z1 λj F=>?_;by_cases e:j=i;{subst e;obtain⟨u,hu,W⟩:=F;rw[hU,mem_cons]at hu;rcases hu with q | q;{subst q;simp[Up.isVal]at W};{rw[nG u q]at W;cases W}};{exact z2 j ((L j).mpr ⟨F,e⟩)}};have J:v.ms - 1≠0->Inv (J6 v i o r) (b.erase i):=λhm=>by{refine⟨ak,el,λj=>?_,λj=>?_,λj Y F=>?_,I.que,I.lnd,λj=>?_,I.pd,I.hold,I.wri,I.ex,I.rnd,λz=>absurd z hm,λ_=>I.s1 ag,λa' Y r' e z=>I.sa a' Y r' e ((me a').mp z).2,I.sw,I.sr,λa' Y r' e j F z=>(me j).mpr ⟨((L j).mp z).2,I.sv a' Y r' e j F ((L j).mp z).1⟩,I.sb,λj x F=>?_,λj x F=>?_,λj o' F=>?_,λj F=>I.vl j ((L j).mp F).1,λj=>?_,O,I.cop,I.wt0,I.wt1⟩;{have:=I.c1 j;have:=me j;dsimp only[J6,aM]at *;grind[Up.lC]};{have:=I.c3 j;done};{have:=I.ask j Y;done};{have:=I.pu j;done};{have:=I.gv j x;done};{have:=I.av j x;done};{have:=I.an j o';done};{have:=I.v1 j;done}};refine⟨λhm=>?_,λhm=>⟨_,J hm⟩⟩;{have hb:b.erase i=[]:=length_eq_zero_iff.mp (el.trans hm);have only:∀j,j∈b->j=i:=λj F=>by{by_cases e:j=i;{exact e};{have:=(me j).mpr ⟨e,F⟩;rw[hb]at this;simp at this}};have Z:∀j x,Dn.back x∉v.D j:=λj x z=>by{by_cases e:j=i;{subst e;exact nB x z};{have h3:=I.c1 j;have h4:0<(v.D j).countP Dn.jj:=countP_pos_iff.mpr ⟨_,z,rfl⟩;rw[if_neg λq=>e (only j q)]at h3;lia}};have ap:∀j o',Up.ans o'∉(J6 v i o r).U j:=λj o' z=>by{by_cases e:j=i;{subst e;simp only[J6,aJ]at z;exact nA o' z};{simp only[J6,aX _ _ e]at z;have h3:=I.c1 j;have h4:0<(v.U j).countP Up.lC:=countP_pos_iff.mpr ⟨_,z,rfl⟩;rw[if_neg λq=>e (only j q)]at h3;lia}};have P:Pre (J6 v i o r):=by{refine⟨hm,λj=>⟨Z j,ap j⟩,λj=>?_,λj Y F=>?_,I.que,I.lnd,λj=>?_,I.hold,I.wri,I.ex,I.rnd,λj x F=>?_,λj F=>I.vl j ((L j).mp F).1,λj=>?_,O,I.cop,I.wt0,I.wt1⟩;{have:=I.c3 j;done};{have:=I.ask j Y;done};{have:=I.pu j;done};{have:=I.gv j x;done};{have:=I.v1 j;done}};have aq:(J6 v i o r).q=(a,w)::rest:=eq;refine⟨a,w,rest,eq,P.lend aq (λhw j F z=>?_) (λhw j F z=>?_) λj F z=>?_⟩;{subst hw;obtain⟨x,hx⟩:=I.sw a rest eq j F z;exact Z j x hx};{subst hw;obtain⟨x,hx⟩:=I.sr a rest eq j F z;exact Z j x hx};{have:=(L j).mp z;exact this.2 (only j (I.sv a w rest eq j F this.1))}}
theorem start(x:Int):Inv ⟨λ_=>.no,λ_=>x,λ_=>[],λ_=>[],λ_=>none,x,none,[],[],0,x⟩ []:=by
 refine⟨nodup_nil,rfl,λi=>by simp,λi=>by simp,?_,?_,?_,?_,?_,?_,?_,?_,?_,?_,?_,?_,?_,?_,?_,?_,?_,?_,?_,?_,?_,?_,?_,?_,?_⟩;all_goals (try simp[fu,Vr,Val])
end
end PV
namespace fV
open List
open PySem.W (Frag emptyDict findIn fnOf hideAll instObj isFn keepIn kia_one kia_tup kitAny kitOne lookIn nsIn)
open PySem.F (plainAttrs_list slot_list_pop type_list_pop)
open Nat (le_succ lt_of_lt_of_le ne_of_lt zero_le)
open PV (St Up Dn)
def wZ(p:Nat):UL->Option Up
 | .ask q r=>if q=p then some (.ask (decide (r=.wr)))else none
 | .ans q o=>if q=p then some (.ans o)else none
 | .gave q x=>if q=p then some (.gave x)else none
def Ay(p:Nat):Let->Option Dn
 | .lend q r x=>if q=(p:Int)then some (.lend (decide (r=.wr)) x)else none
 | .back q r=>if q=(p:Int)then some (.back (decide (r=.rd)))else none
def Pk(p:Nat):Option W->Option Bool
 | some w=>if w.pg=(p:Int)then some w.mC else none
 | none=>none
def qP(q:List (Nat×Rt)):List (Nat×Bool):=q.map λx=>(x.1,decide (x.2=.wr))
def pj(ds:Nat->DS)(up:Nat->List UL)(dn:Nat->List Let)(g:PG)(p:Nat)(c:Int):St:=
 ⟨λi=>(ds i).rt p,λi=>(ds i).nm p,λi=>(up i).filterMap (wZ p),λi=>(dn i).filterMap (Ay p),λi=>Pk p (ds i).ws,g.num,g.wr,g.rd,qP g.ask,g.miss.toNat,c⟩
theorem oU{α β:Type}(f:Nat->α)(i:Nat)(v:α)(F:α->β):(λj=>F (aM f i v j))=aM (λj=>F (f j)) i (F v):=by funext j;unfold aM;split<;>rfl
theorem afw{p:Nat}{l:UL}(h:l.pg≠p):wZ p l=none:=by cases l<;>exact if_neg h
theorem alG{p:Nat}{l:Let}(h:l.pg≠(p:Int)):Ay p l=none:=by cases l<;>exact if_neg h
theorem am4{p:Nat}:∀(z:List (Nat×Let)) (dn:Nat->List Let),(∀q∈z,q.2.pg≠(p:Int))->(λi=>(post dn z i).filterMap (Ay p))=λi=>(dn i).filterMap (Ay p)
 | [],_,_=>rfl
 | x::z,dn,h=>by rw[qG,am4 z _ λq F=>h q (mem_cons_of_mem _ F),oU];rw[filterMap_append,filterMap_cons,alG (h x (by simp)),filterMap_nil,append_nil];exact eF _ _
section
variable{ds:Nat->DS}{up:Nat->List UL}{dn:Nat->List Let}{g:PG}{p:Nat}{c:Int}
theorem am5{a:Nat}{r:Rt}{q:List (Nat×Rt)}(h:g.ask=(a,r)::q):PV.lR (pj ds up dn g p c) a (decide (r=.wr)) (qP q)=pj ds up (post dn (g.dM p)) g.lent p c:=by
 unfold PV.lR pj PG.dM PG.lent;rw[h];dsimp only;rw[qG];unfold post;simp only[foldl_nil];rw[oU,filterMap_append];by_cases e:r=.wr;{simp[e,jQ,Ay]};{simp[e,jF,Ay]}
theorem ZX{a:Nat}{r:Rt}{q:List (Nat×Rt)}(h:g.ask=(a,r)::q)(z:r=.rd\/r=.wr):g.cL p=(PV.cL (pj ds up dn g p c) a (decide (r=.wr))).map λd=>(d,.back p (low r)):=by
 unfold PG.cL PV.cL pj oJ oK;rw[h];dsimp only;rw[map_append];congr 1;{cases F:g.wr with| none=>rfl| some w=>by_cases e:w=a;{simp[e]};{simp[e]}};{by_cases e:r=.wr;{simp[e,low]};{simp[e]}}
theorem ZZ(l:Rt):∀(b:List Nat) (dn:Nat->List Let),b.Nodup->(λi=>(post dn (b.map λd=>(d,Let.back p l)) i).filterMap (Ay p))=λi=>if i∈b then(dn i).filterMap (Ay p)++[.back (decide (l=.rd))]else(dn i).filterMap (Ay p)
 | [],dn,_=>by funext i;simp[post]
 | x::b,dn,h=>by rw[nodup_cons]at h;rw[map_cons,qG,ZZ l b _ h.2];funext i;by_cases e:i=x;{subst e;rw[if_neg h.1,aJ,if_pos (by simp),filterMap_append];simp[Ay]};{rw[aX _ _ e];simp[e]}
theorem axs{a:Nat}{r:Rt}{q:List (Nat×Rt)}(h:g.ask=(a,r)::q)(z:r=.rd\/r=.wr)(nd:(PV.cL (pj ds up dn g p c) a (decide (r=.wr))).Nodup):PV.mQ (pj ds up dn g p c) a (decide (r=.wr))=pj ds up (post dn (g.cL p)) {g with miss:=(g.cL p).length} p c:=by
 rw[ZX (ds:=ds) (up:=up) (dn:=dn) (c:=c) h z];unfold PV.mQ;generalize PV.cL (pj ds up dn g p c) a (decide (r=.wr))=b at nd;have hl:decide (low r=.rd) = !decide (r=.wr):=by{rcases z with e | e<;>subst e<;>rfl};unfold pj;rw[ZZ _ b dn nd,hl];simp
theorem Z0:∀(k:Nat) (g:PG) (dn:Nat->List Let),g.ask.length=k->(∀x∈g.ask,x.2=.rd\/x.2=.wr)->PV.Pre (pj ds up dn g p c)->∃b,PV.Inv (pj ds up (post dn (g.serve p).2) (g.serve p).1 p c) b
 | 0,g,dn,h,W,I=>by have e:g.ask=[]:=length_eq_zero_iff.mp h;rw[uJ e];exact⟨[],I.inv (by show qP g.ask=[];rw[e];rfl)⟩
 | k+1,g,dn,h,W,I=>by have e:g.ask≠[]:=λz=>by{rw[z]at h;simp at h};obtain⟨⟨a,r⟩,q,F⟩:=exists_cons_of_ne_nil e;have h1:=W (a,r) (by rw[F];simp);have Y:(pj ds up dn g p c).q=(a,decide (r=.wr))::qP q:=by{show qP g.ask=_;rw[F];rfl};by_cases O:g.cL p=[];{rw[qF e O];have J:=I.aAs Y (map_eq_nil_iff.mp ((ZX (ds:=ds) (up:=up) (dn:=dn) (c:=c) F h1).symm.trans O));rw[am5 F]at J;dsimp only;rw[lq];refine Z0 k g.lent _ (by rw[PG.zz,h];rfl) (λx L=>W x ?_) J;unfold PG.lent at L;rw[F]at L ⊢;dsimp only at L;split at L<;>exact mem_cons_of_mem _ L};{rw[uK e O];have J:=I.bid Y λz=>O (by rw[ZX (ds:=ds) (up:=up) (dn:=dn) (c:=c) F h1,z];rfl);rw[axs F h1 I.ZW]at J;exact⟨_,J⟩}
end
def ai0(x:Int->Int)(e:RE):Int->Int:=if e.put then λq=>if q=e.pg then e.num else x q else x
def mG(x:Int->Int)(row:List RE):Int->Int:=row.foldl ai0 x
def Bl:(Int->Int)->List RE->Prop
 | _,[]=>True
 | x,e::r=>(e.put=false->e.num=x e.pg)/\Bl (ai0 x e) r
theorem w6{e:RE}:∀(row:List RE) (x:Int->Int),Bl x row->(e.put=false->e.num=mG x row e.pg)->Bl x (row++[e])
 | [],_,_,h=>⟨h,trivial⟩
 | y::r,x,h,h'=>⟨h.1,w6 r _ h.2 h'⟩
theorem nT(x:Int->Int)(row:List RE)(e:RE):mG x (row++[e])=ai0 (mG x row) e:=by unfold mG;rw[foldl_append];rfl
def TS.pv(S:TS)(x:Int->Int)(p:Nat):St:=pj S.ds S.up S.dn (S.pg p) p (mG x S.row p)
structure Kg(n m:Nat)(x:Int->Int)(S:TS):Prop where
 pv:∀p,p<m->∃b,PV.Inv (S.pv x p) b
 wk:Bl x S.row
 rg:∀e∈S.row,e.dk<n/\∃q:Nat,q<m/\e.pg=(q:Int)
section
variable{n m d p:Nat}{x:Int->Int}{S:TS}
theorem Bm(S:TS)(d:Nat)(z:DS×List Ev×List UL)(x:Int->Int)(p:Nat):(S.jG d z).pv x p={S.pv x p with rt:=aM (S.pv x p).rt d (z.1.rt p),cp:=aM (S.pv x p).cp d (z.1.nm p),U:=aM (S.pv x p).U d ((S.pv x p).U d++z.2.2.filterMap (wZ p)),wt:=aM (S.pv x p).wt d (Pk p z.1.ws),cur:=mG x (cZ S.row d z.2.1) p}:=by
 unfold TS.jG TS.pv pj;dsimp only;rw[oU S.ds d z.1 (λy=>y.rt p),oU S.ds d z.1 (λy=>y.nm p),oU S.ds d z.1 (λy=>Pk p y.ws),oU,filterMap_append]
theorem JT{z:DS×List Ev×List UL}(h1:z.1.rt p=(S.ds d).rt p)(h2:z.1.nm p=(S.ds d).nm p)(F:z.2.2.filterMap (wZ p)=[])(I:Pk p z.1.ws=Pk p (S.ds d).ws)(J:mG x (cZ S.row d z.2.1) p=mG x S.row p):(S.jG d z).pv x p=S.pv x p:=by
 rw[Bm,h1,h2,F,I,J,append_nil];show({S.pv x p with rt:=aM (S.pv x p).rt d ((S.pv x p).rt d),cp:=aM (S.pv x p).cp d ((S.pv x p).cp d),U:=aM (S.pv x p).U d ((S.pv x p).U d),wt:=aM (S.pv x p).wt d ((S.pv x p).wt d),cur:=(S.pv x p).cur}:St)=_;rw[eF,eF,eF,eF]
theorem aql{w:W}(h:w.pg≠(p:Int)):Pk p (some w)=none:=if_neg h
theorem afx{row:List RE}{e:RE}(h:∀e∈row,e.dk<n/\∃q:Nat,q<m/\e.pg=(q:Int))(h1:e.dk<n)(h2:∃q:Nat,q<m/\e.pg=(q:Int)):∀y∈row++[e],y.dk<n/\∃q:Nat,q<m/\y.pg=(q:Int):=λy F=>by
 rcases mem_append.mp F with z | z
 ·exact h y z
 ·rw[mem_singleton.mp z];exact⟨h1,h2⟩
theorem am6{e:RE}{y:Int->Int}{q:Int}(h:q≠e.pg):ai0 y e q=y q:=by unfold ai0;split<;>simp[h]
theorem Kg.want{w:W}(C:Kg n m x S)(hd:d<n)(hp:p<m)(hw:w.pg=(p:Int))(h0:(S.ds d).ws=none):Kg n m x (S.jG d ((S.ds d).il w p)):=by
 obtain⟨b,I⟩:=C.pv p hp;have L:∀F,F≠p->((F:Int)≠(p:Int)):=λF h z=>h (by lia);unfold DS.il;split;{rename_i hok;cases w with| look q=>have Y:q=(p:Int):=hw;subst Y;have Z:(S.ds d).rt p≠.no:=λz=>by{simp[DS.ok,W.need,W.pg,Rt.k,z]at hok};refine⟨λF O=>?_,w6 _ _ C.wk λ_=>?_,afx C.rg hd ⟨p,hp,rfl⟩⟩;{rw[JT rfl rfl rfl rfl (by unfold cZ;rw[map_singleton,nT];rfl)];exact C.pv F O};{exact I.cop d Z}| put q y=>have Y:q=(p:Int):=hw;subst Y;have Z:(S.ds d).rt p=.wr:=by{cases e:(S.ds d).rt p<;>simp[DS.ok,W.need,W.pg,Rt.k,e]at hok ⊢};refine⟨λF O=>?_,w6 _ _ C.wk λz=>(by cases z),afx C.rg hd ⟨p,hp,rfl⟩⟩;by_cases e:F=p;{subst e;refine⟨b,?_⟩;have J:=I.put (i:=d) Z y;rw[Bm];dsimp only;unfold cZ;rw[map_singleton,nT];show PV.Inv {S.pv x F with rt:=aM (S.pv x F).rt d (((S.ds d).hold F ((S.ds d).rt F) y).rt F),cp:=aM (S.pv x F).cp d (((S.ds d).hold F ((S.ds d).rt F) y).nm F),U:=aM (S.pv x F).U d ((S.pv x F).U d++[]),wt:=aM (S.pv x F).wt d ((S.pv x F).wt d),cur:=if(F:Int)=F then y else mG x S.row F} b;rw[DS.rB,DS.wM,append_nil,eF,eF,if_pos rfl];show PV.Inv {S.pv x F with rt:=aM (S.pv x F).rt d ((S.pv x F).rt d),cp:=aM (S.pv x F).cp d y,cur:=y} b;rw[eF];exact J};{rw[JT (DS.rH _ _ _ (L F e)) (DS.rJ _ _ _ (L F e)) rfl rfl (by unfold cZ;rw[map_singleton,nT];exact am6 (L F e))];exact C.pv F O}};{rename_i hok;refine⟨λF O=>?_,by show Bl x (S.row++[]);rw[append_nil];exact C.wk,by show ∀e∈S.row++[],_;rw[append_nil];exact C.rg⟩;by_cases e:F=p;{subst e;have ac:(S.pv x F).wt d=none:=by{show Pk F (S.ds d).ws=none;rw[h0];rfl};have J:=I.aAr (i:=d) ac w.mC (λz=>?_) (λz=>?_);{refine⟨b,?_⟩;rw[Bm];dsimp only;unfold cZ;rw[map_nil,append_nil];show PV.Inv {S.pv x F with rt:=aM (S.pv x F).rt d ((S.pv x F).rt d),cp:=aM (S.pv x F).cp d ((S.pv x F).cp d),U:=aM (S.pv x F).U d ((S.pv x F).U d++[UL.ask F w.need].filterMap (wZ F)),wt:=aM (S.pv x F).wt d (Pk F (some w))} b;rw[eF,eF];have e1:[UL.ask F w.need].filterMap (wZ F)=[.ask w.mC]:=by{cases w<;>simp[wZ,W.need,W.mC]};have e2:Pk F (some w)=some w.mC:=if_pos hw;rw[e1,e2];exact J};{cases w with| put q y=>cases z| look q=>have Y:q=(F:Int):=hw;subst Y;show(S.ds d).rt F=.no;cases e:(S.ds d).rt F<;>simp[DS.ok,W.need,W.pg,Rt.k,e]at hok ⊢};{cases w with| look q=>cases z| put q y=>have Y:q=(F:Int):=hw;subst Y;intro (e:(S.ds d).rt F=.wr);simp[DS.ok,W.need,W.pg,Rt.k,e]at hok}};{rw[JT rfl rfl (by rw[filterMap_cons,afw (Ne.symm e)];rfl) (by show Pk F (some w)=Pk F (S.ds d).ws;rw[h0,aql (by rw[hw];exact(L F e).symm)];rfl) (by unfold cZ;rw[map_nil,append_nil])];exact C.pv F O}}
theorem Kg.lu(C:Kg n m x S)(hd:d<n)(hp:p<m)(W:(S.ds d).rt p≠.no):Kg n m x (S.lu d p):=by
 obtain⟨b,I⟩:=C.pv p hp;have L:∀F,F≠p->((F:Int)≠(p:Int)):=λF h z=>h (by lia);unfold TS.lu;refine⟨λF O=>?_,by show Bl x (S.row++[]);rw[append_nil];exact C.wk,by show ∀e∈S.row++[],_;rw[append_nil];exact C.rg⟩;by_cases e:F=p;{subst e;have J:=I.lu (i:=d) W;refine⟨b,?_⟩;rw[Bm];dsimp only;unfold cZ;rw[map_nil,append_nil,DS.rB,DS.wM];show PV.Inv {S.pv x F with rt:=aM (S.pv x F).rt d .no,cp:=aM (S.pv x F).cp d ((S.pv x F).cp d),U:=aM (S.pv x F).U d ((S.pv x F).U d++(if(S.ds d).rt F=.wr then [UL.gave F ((S.ds d).nm F)]else []).filterMap (wZ F)),wt:=aM (S.pv x F).wt d ((S.pv x F).wt d)} b;rw[eF,eF];have Y:(S.pv x F).U d++(if(S.ds d).rt F=.wr then [UL.gave F ((S.ds d).nm F)]else []).filterMap (wZ F)=if(S.pv x F).rt d=.wr then(S.pv x F).U d++[.gave ((S.pv x F).cp d)]else(S.pv x F).U d:=by{show _=if(S.ds d).rt F=.wr then(S.pv x F).U d++[.gave ((S.ds d).nm F)]else _;split<;>simp[wZ]};rw[Y];exact J};{rw[JT (DS.rH _ _ _ (L F e)) (DS.rJ _ _ _ (L F e)) (by dsimp only;split<;>simp[wZ,Ne.symm e]) rfl (by unfold cZ;rw[map_nil,append_nil])];exact C.pv F O}
theorem am7(S:TS)(d:Nat)(r:List Let)(x:Int->Int)(p:Nat):({S with dn:=aM S.dn d r}:TS).pv x p={S.pv x p with D:=aM (S.pv x p).D d (r.filterMap (Ay p))}:=by
 unfold TS.pv pj;dsimp only;rw[oU]
theorem avI{r:List Let}{l:Let}(e:S.dn d=l::r)(h:l.pg≠(p:Int)):({S with dn:=aM S.dn d r}:TS).pv x p=S.pv x p:=by
 rw[am7];have:r.filterMap (Ay p)=(S.pv x p).D d:=by{show _=(S.dn d).filterMap (Ay p);rw[e,filterMap_cons,alG h]};rw[this,eF]
theorem Kg.Bj{l:Let}{r:List Let}(C:Kg n m x S)(hd:d<n)(e:S.dn d=l::r)(hp:p<m)(hl:l.pg=(p:Int))(hn:l.nice):Kg n m x (S.Bj d l r):=by
 obtain⟨b,I⟩:=C.pv p hp;have Y:∀F,F≠p->((F:Int)≠(p:Int)):=λF h z=>h (by lia);unfold TS.Bj;cases l with
 | lend q y k=>
   have Z:q=(p:Int):=hl;subst Z;have hD:(S.pv x p).D d=.lend (decide (y=.wr)) k::r.filterMap (Ay p):=by{show(S.dn d).filterMap (Ay p)=_;rw[e,filterMap_cons];simp[Ay]};obtain⟨_,ah,hk,_,_⟩:=I.aeI hD;obtain⟨w,ae,L,af⟩:∃w,(S.ds d).ws=some w/\w.pg=(p:Int)/\w.mC=decide (y=.wr):=by{have O:Pk p (S.ds d).ws=some (decide (y=.wr)):=ah;cases h:(S.ds d).ws with| none=>rw[h]at O;cases O| some w=>rw[h]at O;unfold Pk at O;dsimp only at O;split at O;{rename_i h2;exact⟨w,rfl,h2,Option.some.inj O⟩};{cases O}};have hok:((S.ds d).hold p y k).ok w:=by{show w.need.k<=(((S.ds d).hold p y k).rt w.pg).k;rw[L,DS.rB];cases w<;>rcases hn with z | z<;>subst z<;>simp[W.need,Rt.k,W.mC]at af ⊢};have ez:(S.ds d).nQ (.lend p y k)=(({(S.ds d).hold p y k with ws:=none}:DS).done w,[(w.mC,w.pg,((S.ds d).hold p y k).num w)],[]):=by{show(((S.ds d).lr p y k).1,((S.ds d).lr p y k).2,([]:List UL))=_;unfold DS.lr;rw[ae];dsimp only;rw[if_pos ⟨L,hok⟩]};rw[ez];have hc:k=mG x S.row p:=hk;refine⟨λF aa=>?_,w6 _ _ C.wk λz=>?_,afx C.rg hd ⟨p,hp,L⟩⟩
   ·by_cases e':F=p
    ·subst e';refine⟨b,?_⟩;cases w with
     | look q=>have J:=I.aqj hD none (λz=>by cases z);rw[Bm,am7];have er:y=if decide (y=.wr)=true then Rt.wr else Rt.rd:=by{rcases hn with z | z<;>subst z<;>rfl};dsimp only;unfold cZ;rw[map_singleton,nT];show PV.Inv {S.pv x F with D:=aM (S.pv x F).D d (r.filterMap (Ay F)),rt:=aM (S.pv x F).rt d (((S.ds d).hold F y k).rt F),cp:=aM (S.pv x F).cp d (((S.ds d).hold F y k).nm F),U:=aM (S.pv x F).U d ((S.pv x F).U d++[]),wt:=aM (S.pv x F).wt d none,cur:=mG x S.row F} b;rw[DS.rB,DS.wM,append_nil,eF];unfold PV.oO at J;rw[<-er]at J;exact J
     | put q u=>have Z:q=(F:Int):=L;subst Z;have J:=I.aqj hD (some u) (λ_=>af.symm);rw[Bm,am7];have er:y=if decide (y=.wr)=true then Rt.wr else Rt.rd:=by{rcases hn with z | z<;>subst z<;>rfl};dsimp only;unfold cZ;rw[map_singleton,nT];show PV.Inv {S.pv x F with D:=aM (S.pv x F).D d (r.filterMap (Ay F)),rt:=aM (S.pv x F).rt d ((((S.ds d).hold F y k).hold F (((S.ds d).hold F y k).rt F) u).rt F),cp:=aM (S.pv x F).cp d ((((S.ds d).hold F y k).hold F (((S.ds d).hold F y k).rt F) u).nm F),U:=aM (S.pv x F).U d ((S.pv x F).U d++[]),wt:=aM (S.pv x F).wt d none,cur:=if(F:Int)=F then u else mG x S.row F} b;rw[DS.rB,DS.wM,DS.rB,append_nil,eF,if_pos rfl];unfold PV.oO at J;rw[<-er]at J;exact J
    ·have o:=Y F e';rw[JT (S:={S with dn:=aM S.dn d r}) ?_ ?_ rfl ?_ ?_,avI e (Ne.symm o)];{exact C.pv F aa};{cases w with| look q=>exact DS.rH (S.ds d) y k o| put q u=>exact(DS.rH _ _ _ (by rw[show q=(p:Int)from L];exact o)).trans (DS.rH (S.ds d) y k o)};{cases w with| look q=>exact DS.rJ (S.ds d) y k o| put q u=>exact(DS.rJ _ _ _ (by rw[show q=(p:Int)from L];exact o)).trans (DS.rJ (S.ds d) y k o)};{show Pk F (({(S.ds d).hold p y k with ws:=none}:DS).done w).ws=Pk F (S.ds d).ws;rw[ae,aql (by rw[L];exact Ne.symm o)];cases w<;>rfl};{unfold cZ;rw[map_singleton,nT];exact am6 (by show(F:Int)≠w.pg;rw[L];exact o)}
   ·cases w with| put q u=>cases z| look q=>have Z:q=(p:Int):=L;subst Z;show((S.ds d).hold p y k).nm p=_;rw[DS.wM];exact hc
 | back q y=>have Z:q=(p:Int):=hl;subst Z;have hD:(S.pv x p).D d=.back (decide (y=.rd))::r.filterMap (Ay p):=by{show(S.dn d).filterMap (Ay p)=_;rw[e,filterMap_cons];simp[Ay]};have ez:(S.ds d).nQ (.back p y)=((S.ds d).down p y,[],[.ans p ((S.ds d).lX p)]):=rfl;rw[ez];refine⟨λF aa=>?_,by show Bl x (S.row++[]);rw[append_nil];exact C.wk,by show ∀e∈S.row++[],_;rw[append_nil];exact C.rg⟩;by_cases e':F=p;{subst e';refine⟨b,?_⟩;have J:=I.axr hD;rw[Bm,am7];dsimp only;unfold cZ;rw[map_nil,append_nil];have e1:((S.ds d).down F y).rt F=if(S.ds d).rt F=.wr then(if decide (y=.rd)=true then Rt.rd else .no)else if decide (y=.rd)=true then(S.ds d).rt F else .no:=by{unfold DS.down;split<;>rename_i h<;>rcases hn with z | z<;>subst z<;>cases e:(S.ds d).rt F<;>simp[e,Rt.k,DS.rB]at h ⊢};have e2:((S.ds d).down F y).nm F=(S.ds d).nm F:=by{unfold DS.down;split<;>simp[DS.wM]};have e3:((S.ds d).down F y).ws=(S.ds d).ws:=by{unfold DS.down;split<;>rfl};rw[e1,e2,e3];show PV.Inv {S.pv x F with D:=aM (S.pv x F).D d (r.filterMap (Ay F)),rt:=aM (S.pv x F).rt d (if(S.pv x F).rt d=.wr then(if decide (y=.rd)=true then Rt.rd else .no)else if decide (y=.rd)=true then(S.pv x F).rt d else .no),cp:=aM (S.pv x F).cp d ((S.pv x F).cp d),U:=aM (S.pv x F).U d ((S.pv x F).U d++[UL.ans F ((S.ds d).lX F)].filterMap (wZ F)),wt:=aM (S.pv x F).wt d ((S.pv x F).wt d)} b;rw[eF,eF];have e4:[UL.ans F ((S.ds d).lX F)].filterMap (wZ F)=[.ans (if(S.pv x F).rt d=.wr then some ((S.pv x F).cp d)else none)]:=by{simp[wZ];rfl};rw[e4];exact J};{have o:=Y F e';rw[JT (S:={S with dn:=aM S.dn d r}) ?_ ?_ ?_ ?_ ?_,avI e (Ne.symm o)];{exact C.pv F aa};{show((S.ds d).down p y).rt F=(S.ds d).rt F;unfold DS.down;split;{rfl};{exact DS.rH _ _ _ o}};{show((S.ds d).down p y).nm F=(S.ds d).nm F;unfold DS.down;split;{rfl};{exact DS.rJ _ _ _ o}};{rw[filterMap_cons,afw (Ne.symm e')];rfl};{show Pk F ((S.ds d).down p y).ws=Pk F (S.ds d).ws;unfold DS.down;split<;>rfl};{unfold cZ;rw[map_nil,append_nil]}}
theorem aAv(S:TS)(d q:Nat)(r:List UL)(g:PG)(dn:Nat->List Let)(x:Int->Int)(p:Nat):({S with up:=aM S.up d r,pg:=aM S.pg q g,dn:=dn}:TS).pv x p=pj S.ds (aM S.up d r) dn (aM S.pg q g p) p (mG x S.row p):=rfl
theorem Kg.Ph{l:UL}{r:List UL}(C:Kg n m x S)(e:S.up d=l::r)(hp:l.pg<m)(hr:∀q y,l=.ask q y->y=.rd\/y=.wr)(hq:∀y∈(S.pg l.pg).ask,y.2=.rd\/y.2=.wr)(hm:0<=(S.pg l.pg).miss)(hs:∀y∈((S.pg l.pg).take l.pg d l).2,y.2.pg=(l.pg:Int)):Kg n m x (S.Ph d l r):=by
 refine⟨λL ah=>?_,C.wk,C.rg⟩;unfold TS.Ph;rw[aAv];by_cases e':L=l.pg
 ·subst e';rw[aJ];obtain⟨b,I⟩:=C.pv l.pg hp;generalize hg:S.pg l.pg=g at hq hm hs;have eI:S.pv x l.pg=pj S.ds S.up S.dn g l.pg (mG x S.row l.pg):=by{unfold TS.pv;rw[hg]};rw[eI]at I;have eU:∀u,wZ l.pg l=some u->(pj S.ds S.up S.dn g l.pg (mG x S.row l.pg)).U d=u::r.filterMap (wZ l.pg):=λu hu=>by{show(S.up d).filterMap _=_;rw[e,filterMap_cons,hu]};have eP:∀g',pj S.ds (aM S.up d r) S.dn g' l.pg (mG x S.row l.pg)={pj S.ds S.up S.dn g' l.pg (mG x S.row l.pg)with U:=aM (pj S.ds S.up S.dn g' l.pg (mG x S.row l.pg)).U d (r.filterMap (wZ l.pg))}:=λg'=>by{unfold pj;dsimp only;rw[oU]};have m0:(pj S.ds S.up S.dn g l.pg (mG x S.row l.pg)).ms=g.miss.toNat:=rfl;cases l with
  | ask p y=>obtain⟨J1,J2⟩:=I.asked (eU (.ask (decide (y=.wr))) (by simp[wZ,UL.pg]));have hy:=hr p y rfl;have ea:PV.uh (pj S.ds S.up S.dn g p (mG x S.row p)) d (decide (y=.wr)) (r.filterMap (wZ p))=pj S.ds (aM S.up d r) S.dn {g with ask:=g.ask++[(d,y)]} p (mG x S.row p):=by{rw[show(p:Nat)=(UL.ask p y).pg from rfl,eP];unfold PV.uh pj qP;simp};show ∃b,PV.Inv (pj S.ds (aM S.up d r) (post S.dn (if g.ask=[]then PG.serve {g with ask:=[(d,y)]} p else({g with ask:=g.ask++[(d,y)]},[])).2) (if g.ask=[]then PG.serve {g with ask:=[(d,y)]} p else({g with ask:=g.ask++[(d,y)]},[])).1 p (mG x S.row p)) b;by_cases O:g.ask=[];{rw[if_pos O];refine Z0 _ _ _ rfl (λz W=>by rw[mem_singleton.mp W];exact hy) ?_;have:(pj S.ds S.up S.dn g p (mG x S.row p)).ms=0:=Classical.byContradiction λz=>I.s1 z (by show qP g.ask=[];rw[O];rfl);have J:=J1 this;rw[show(UL.ask p y).pg=p from rfl,ea,O]at J;exact J};{rw[if_neg O];have:(pj S.ds S.up S.dn g p (mG x S.row p)).ms≠0:=λz=>O (map_eq_nil_iff.mp (I.s0 z));have J:=J2 this;rw[show(UL.ask p y).pg=p from rfl,ea]at J;exact⟨_,J⟩}
  | ans p o=>obtain⟨J1,J2⟩:=I.answered (eU (.ans o) (by simp[wZ,UL.pg]));have ea:PV.J6 (pj S.ds S.up S.dn g p (mG x S.row p)) d o (r.filterMap (wZ p))=pj S.ds (aM S.up d r) S.dn {g with num:=o.getD g.num,miss:=g.miss - 1} p (mG x S.row p):=by{rw[show(p:Nat)=(UL.ans p o).pg from rfl,eP];unfold PV.J6 pj;have:(g.miss - 1).toNat=g.miss.toNat - 1:=by{lia};simp[this]};rw[show(UL.ans p o).pg=p from rfl]at *;rw[ea]at J1 J2;generalize Z:({g with num:=o.getD g.num,miss:=g.miss - 1}:PG)=g2 at *;have ao:g.miss≠0:=λz=>by{have h1:=I.c1 d;have h2:=I.len;rw[m0,z]at h2;rw[length_eq_zero_iff.mp h2,eU (.ans o) (by simp[wZ,UL.pg]),countP_cons]at h1;simp[PV.Up.lC]at h1};show ∃b,PV.Inv (pj S.ds (aM S.up d r) (post S.dn (g.take p d (.ans p o)).2) (g.take p d (.ans p o)).1 p (mG x S.row p)) b;unfold PG.take;dsimp only;rw[Z];by_cases O:g.miss - 1=0;{rw[if_pos O];obtain⟨a,w,rest,e1,J⟩:=J1 (by rw[m0];lia);have Y:g2.ask=g.ask:=by{rw[<-Z]};obtain⟨⟨a',y⟩,q,e2⟩:∃z q,g2.ask=z::q:=by{have F:qP g.ask=(a,w)::rest:=e1;rw[<-Y]at F;cases h:g2.ask with| nil=>rw[h]at F;cases F| cons z q=>exact⟨z,q,rfl⟩};have e3:(a',decide (y=Rt.wr))::qP q=(a,w)::rest:=by{have F:qP g.ask=(a,w)::rest:=e1;rw[<-Y,e2]at F;exact F};injection e3 with e4 e5;injection e4 with e6 e7;subst e6 e7 e5;rw[am5 e2]at J;dsimp only;rw[lq];refine Z0 _ _ _ rfl (λz W=>hq z ?_) J;rw[<-Y];unfold PG.lent at W;rw[e2]at W ⊢;dsimp only at W;split at W<;>exact mem_cons_of_mem _ W};{rw[if_neg O];exact J2 (by rw[m0];lia)}
  | gave p y=>have J:=I.gave (eU (.gave y) (by simp[wZ,UL.pg]));refine⟨b,?_⟩;rw[show(UL.gave p y).pg=p from rfl]at *;show PV.Inv (pj S.ds (aM S.up d r) S.dn {g with num:=y,wr:=if g.wr=some d then none else g.wr} p (mG x S.row p)) b;rw[eP];exact J
 ·rw[aX _ _ e'];have o:∀y∈((S.pg l.pg).take l.pg d l).2,y.2.pg≠(L:Int):=λy hy z=>e' (by have:=hs y hy;lia);have:pj S.ds (aM S.up d r) (post S.dn ((S.pg l.pg).take l.pg d l).2) (S.pg L) L (mG x S.row L)=S.pv x L:=by{unfold TS.pv pj;rw[am4 _ _ o,oU];have:r.filterMap (wZ L)=(S.up d).filterMap (wZ L):=by{rw[e,filterMap_cons,afw (Ne.symm e')]};rw[this,eF (λj=>(S.up j).filterMap (wZ L))]};rw[this];exact C.pv L ah
theorem Kg.step(C:Kg n m x S)(I:ik n m S)(y:bG):Kg n m x (S.step n m y).1:=by
 cases y with
 | up d=>simp only[TS.step];split;{rename_i h;have hd:d.toNat<n:=by{unfold inR at h;lia};unfold TS.upD;cases e:S.up d.toNat with| nil=>exact C| cons l r=>obtain⟨_,hp,_,L⟩:=I.take hd e;have W:=I.ct l.pg hp;exact C.Ph e hp (I.up _ hd l (by rw[e];simp)).2 (λz J=>((I.pn l.pg hp).q z J).2) (by lia) λz J=>(L z J).2.1};{exact C}
 | down d=>simp only[TS.step];split;{rename_i h;have hd:d.toNat<n:=by{unfold inR at h;lia};unfold TS.Kd;cases e:S.dn d.toNat with| nil=>exact C| cons l r=>obtain⟨p,hp,h1,h2⟩:=I.dn _ hd l (by rw[e];simp);exact C.Bj hd e hp h1 h2};{exact C}
 | rest d p=>simp only[TS.step];split;{rename_i h;split;{rename_i h2;split;{exact C};{rename_i F;have O:((p.toNat:Nat):Int)=p:=by{unfold inR at h2;lia};exact C.lu (by unfold inR at h;lia) (by unfold inR at h2;lia) (by rw[O];exact F)}};{exact C}};{exact C}
 | look d p=>simp only[TS.step];split;{rename_i h;split;{rename_i h2;unfold TS.wish;split;{exact C};{rename_i F;exact C.want (by unfold inR at h;lia) (by unfold inR at h2;lia) (by show p=_;unfold inR at h2;lia) F}};{exact C}};{exact C}
 | put d p x=>simp only[TS.step];split;{rename_i h;split;{rename_i h2;unfold TS.wish;split;{exact C};{rename_i F;exact C.want (by unfold inR at h;lia) (by unfold inR at h2;lia) (by show p=_;unfold inR at h2;lia) F}};{exact C}};{exact C}
end
end fV
namespace fV
open List
open PySem.W (Frag emptyDict findIn fnOf hideAll instObj isFn keepIn kia_one kia_tup kitAny kitOne lookIn nsIn)
open PySem.F (plainAttrs_list slot_list_pop type_list_pop)
open Nat (le_succ lt_of_lt_of_le ne_of_lt zero_le)
open PySem L2
def PG.next(g:PG)(a:Nat)(r:Rt)(q:List (Nat×Rt)):PG:=if r=.wr then jQ {g with ask:=q} a else jF {g with ask:=q} a
theorem aeK{g:PG}{a:Nat}{r:Rt}{q:List (Nat×Rt)}(h:g.ask=(a,r)::q):g.lent=g.next a r q:=by unfold PG.lent PG.next;rw[h]
theorem Pn(g:PG)(a:Nat)(r:Rt)(q:List (Nat×Rt)):(g.next a r q).ask=q:=by unfold PG.next;split<;>rfl
theorem JV(g:PG)(a:Nat)(r:Rt)(q:List (Nat×Rt)):(g.next a r q).miss=g.miss:=by unfold PG.next;split<;>rfl
theorem as4{g:PG}{n a:Nat}{r:Rt}{q:List (Nat×Rt)}(z:a<n)(wn:∀w,g.wr=some w->w<n)(rn:∀d,d∈g.rd->d<n)(ex:g.wr≠none->g.rd=[])(nd:g.rd.Nodup) :
 (∀w,(g.next a r q).wr=some w->w<n)/\(∀d,d∈(g.next a r q).rd->d<n)/\((g.next a r q).wr≠none->(g.next a r q).rd=[])/\(g.next a r q).rd.Nodup:=by
 by_cases e:r=.wr;{subst e;simp only[PG.next,jQ,if_true];refine⟨λw h=>?_,λd h=>by simp at h,λ_=>trivial,nodup_nil⟩;injection h with h;lia};{simp only[PG.next,jF,if_neg e];cases e:g.wr with| none=>grind| some w=>have:=ex (by rw[e];simp);grind}
def Vs(g:PG)(a:Nat)(r:Rt):List Nat:=(g.wr.toList.filter λd=>decide (d≠a))++(if r=.wr then g.rd.filter λd=>decide (d≠a)else [])
theorem ai2{g:PG}{p a:Nat}{r:Rt}{q:List (Nat×Rt)}(h:g.ask=(a,r)::q):g.cL p=(Vs g a r).map λd=>(d,.back p (low r)):=by
 unfold PG.cL Vs oJ oK;rw[h];cases e:g.wr with| none=>by_cases z:r=.wr<;>simp[z,low]| some w=>by_cases F:w=a<;>by_cases z:r=.wr<;>simp[z,F,low]
theorem aeL{g:PG}{a d:Nat}{r:Rt}:d∈Vs g a r↔d≠a/\(g.wr=some d\/r=.wr/\d∈g.rd):=by
 unfold Vs;by_cases z:r=.wr<;>simp[z]<;>grind
theorem ai3{g:PG}{a:Nat}{r:Rt}(ex:g.wr≠none->g.rd=[])(nd:g.rd.Nodup):(Vs g a r).Nodup:=by
 unfold Vs;cases e:g.wr with| none=>by_cases z:r=.wr<;>simp[z];exact nd.filter _| some w=>rw[ex (by rw[e];simp)];by_cases z:r=.wr<;>by_cases F:w=a<;>simp[z,F]
theorem aqm{n:Nat}{l:List Nat}(h:l.Nodup)(hl:∀x∈l,x<n):l.length<=n:=by
 have:=Nodup.length_le_of_subset (l₁:=l) (l₂:=range n) h λx z=>mem_range.mpr (hl x z);simpa using this
structure GOk(n:Nat)(g:PG):Prop where
 wn:∀w,g.wr=some w->w<n
 rn:∀d,d∈g.rd->d<n
 ex:g.wr≠none->g.rd=[]
 nd:g.rd.Nodup
 an:∀x∈g.ask,x.1<n
theorem GOk.next{n a:Nat}{g:PG}{r:Rt}{q:List (Nat×Rt)}(h:GOk n g)(e:g.ask=(a,r)::q):GOk n (g.next a r q):=by
 have:=as4 (r:=r) (q:=q) (h.an (a,r) (by rw[e];simp)) h.wn h.rn h.ex h.nd;exact⟨this.1,this.2.1,this.2.2.1,this.2.2.2,λx z=>h.an x (by rw[Pn]at z;rw[e];exact mem_cons_of_mem _ z)⟩
def wU(n:Nat):UL->Nat
 | .ask _ _=>2*n
 | _=>1
def wL:Let->Nat
 | .lend _ _ _=>1
 | .back _ _=>2
def sU(n:Nat)(l:List UL):Nat:=(l.map (wU n)).sum
def sL(l:List Let):Nat:=(l.map wL).sum
def sP(l:List (Nat×Let)):Nat:=(l.map λx=>wL x.2).sum
def wQ(n:Nat)(g:PG):Nat:=if g.miss=0 then(2*n - 1)*g.ask.length else 1+(2*n - 1)*(g.ask.length - 1)
def TS.phi(n m:Nat)(S:TS):Nat:=dX n (λd=>sU n (S.up d))+dX n (λd=>sL (S.dn d))+dX m (λp=>wQ n (S.pg p))
theorem JW{n a:Nat}{r:Rt}{q:List (Nat×Rt)}{g:PG}(h:g.ask=(a,r)::q):wQ n g=if g.miss=0 then(2*n - 1)*q.length+(2*n - 1)else 1+(2*n - 1)*q.length:=by
 unfold wQ;rw[h,length_cons,Nat.mul_succ];rfl
theorem aeM(a b:List (Nat×Let)):sP (a++b)=sP a+sP b:=by unfold sP;rw[map_append,sum_append]
theorem as6{g:PG}{p a:Nat}{r:Rt}{q:List (Nat×Rt)}(h:g.ask=(a,r)::q):sP (g.cL p)=2*(g.cL p).length:=by
 rw[ai2 h];unfold sP;rw[map_map,length_map];generalize Vs g a r=l;induction l with| nil=>rfl| cons x l z=>rw[map_cons,sum_cons,z,length_cons];show 2+_=_;lia
theorem as7{n a p:Nat}{g:PG}{r:Rt}{q:List (Nat×Rt)}(h:GOk n g)(F:g.ask=(a,r)::q):(g.cL p).length+1<=n:=by
 have hl:(a::Vs g a r).length<=n:=aqm (nodup_cons.mpr ⟨λz=>(aeL.mp z).1 rfl,ai3 h.ex h.nd⟩) λx I=>by{rw[mem_cons]at I;rcases I with e | e;{rw[e];exact h.an (a,r) (by rw[F];simp)};{rcases (aeL.mp e).2 with z | z;{exact h.wn x z};{exact h.rn x z.2}}};rw[ai2 F,length_map];simpa using hl
theorem aaa{n p:Nat}:∀(k:Nat) (g:PG),g.ask.length<=k->GOk n g->g.miss=0->sP (g.serve p).2+wQ n (g.serve p).1<=wQ n g
 | k,g,hk,h,z=>by cases ha:g.ask with| nil=>rw[uJ ha];simp[sP]| cons y q=>obtain⟨a,r⟩:=y;have J:a<n:=h.an (a,r) (by rw[ha];simp);have I:=JW (n:=n) ha;rw[if_pos z]at I;by_cases F:g.cL p=[];{have L:g.dM p=[(a,.lend p r g.num)]:=by{unfold PG.dM;rw[ha]};rw[qF (by rw[ha];simp) F,aeK ha,L];cases k with| zero=>rw[ha]at hk;simp at hk| succ k=>have:=aaa (p:=p) k _ (by rw[Pn];rw[ha]at hk;simpa using hk) (h.next ha) (by rw[JV];exact z);have W:wQ n (g.next a r q)=(2*n - 1)*q.length:=by{unfold wQ;rw[Pn,JV,if_pos z]};dsimp only;rw[aeM];have Y:sP [(a,Let.lend p r g.num)]=1:=rfl;lia};{rw[uK (by rw[ha];simp) F];dsimp only;have hl:=as7 (p:=p) h ha;have Z:0<(g.cL p).length:=length_pos_iff.mpr F;have O:wQ n {g with miss:=((g.cL p).length:Nat)}=1+(2*n - 1)*q.length:=by{rw[JW (g:={g with miss:=((g.cL p).length:Nat)}) ha,if_neg (by dsimp only;lia)]};rw[O,I,as6 ha];lia}
theorem as8{n p d:Nat}{g:PG}{l:UL}(h:GOk n g)(hd:d<n)(am:g.ask=[]↔g.miss=0)(hm:0<=g.miss)(W:∀q o,l=.ans q o->g.miss≠0):sP (g.take p d l).2+wQ n (g.take p d l).1+1<=wQ n g+wU n l:=by
 cases l with
 | ask q r=>simp only[PG.take,wU];by_cases e:g.ask=[];{rw[if_pos e];have:=aaa (n:=n) (p:=p) _ {g with ask:=[(d,r)]} (Nat.le_refl _) ⟨h.wn,h.rn,h.ex,h.nd,λx Y=>by rw[mem_singleton.mp Y];exact hd⟩ (am.mp e);have L:wQ n {g with ask:=[(d,r)]}=2*n - 1:=by{unfold wQ;rw[if_pos (am.mp e)];simp};lia};{rw[if_neg e];obtain⟨⟨a,Z⟩,I,J⟩:=exists_cons_of_ne_nil e;have F:¬g.miss=0:=λz=>e (am.mpr z);have L:=JW (n:=n) J;have O:wQ n {g with ask:=g.ask++[(d,r)]}=1+((2*n - 1)*I.length+(2*n - 1)):=by{rw[JW (g:={g with ask:=g.ask++[(d,r)]}) (a:=a) (r:=Z) (q:=I++[(d,r)]) (by dsimp only;rw[J];rfl),if_neg F,length_append,Nat.mul_add];simp};rw[if_neg F]at L;rw[O,L];show 0+_+1<=_;lia}
 | ans q o=>have F:=W q o rfl;obtain⟨⟨a,r⟩,I,J⟩:=exists_cons_of_ne_nil (λz=>F (am.mp z));have L:=JW (n:=n) J;rw[if_neg F]at L;simp only[PG.take,wU];by_cases z:g.miss - 1=0;{rw[if_pos z];have e6:PG.dM {g with num:=o.getD g.num,miss:=g.miss - 1} p=[(a,.lend p r (o.getD g.num))]:=by{unfold PG.dM;dsimp only;rw[J]};have e7:PG.lent {g with num:=o.getD g.num,miss:=g.miss - 1}=PG.next {g with num:=o.getD g.num,miss:=g.miss - 1} a r I:=aeK (by exact J);have hg:GOk n {g with num:=o.getD g.num,miss:=g.miss - 1}:=⟨h.wn,h.rn,h.ex,h.nd,h.an⟩;have:=aaa (n:=n) (p:=p) _ _ (Nat.le_refl _) (hg.next (q:=I) (a:=a) (r:=r) J) (by rw[JV];exact z);have O:wQ n (PG.next {g with num:=o.getD g.num,miss:=g.miss - 1} a r I)=(2*n - 1)*I.length:=by{unfold wQ;rw[Pn,JV,if_pos z]};have e4:sP [(a,Let.lend p r (o.getD g.num))]=1:=rfl;dsimp only;rw[e6,e7,aeM];lia};{rw[if_neg z];have:wQ n {g with num:=o.getD g.num,miss:=g.miss - 1}=wQ n g:=by{unfold wQ;dsimp only;rw[if_neg z,if_neg F]};rw[this];show 0+_+1<=_;lia}
 | gave q x=>simp only[PG.take,wU];show 0+wQ n g+1<=_;lia
theorem am8{n:Nat}:∀(z:List (Nat×Let)) {dn:Nat->List Let},(∀q∈z,q.1<n)->dX n (λd=>sL (post dn z d))=dX n (λd=>sL (dn d))+sP z
 | [],dn,_=>rfl
 | x::z,dn,h=>by rw[qG,am8 z λq F=>h q (mem_cons_of_mem _ F)];have:=oM (n:=n) (d:=x.1) (f:=λd=>sL (dn d)) (g:=λd=>sL (aM dn x.1 (dn x.1++[x.2]) d)) (h x (by simp)) λe I=>by{simp only[aX _ _ I]};simp only[aJ]at this;have J:sL (dn x.1++[x.2])=sL (dn x.1)+wL x.2:=by{unfold sL;simp};have L:sP (x::z)=wL x.2+sP z:=rfl;lia
theorem axt{n m d:Nat}{S:TS}{l:UL}{r:List UL}(I:ik n m S)(L:GOk n (S.pg l.pg))(hd:d<n)(e:S.up d=l::r):(S.Ph d l r).phi n m+1<=S.phi n m:=by
 obtain⟨_,hp,_,O⟩:=I.take hd e;have J:=I.ct l.pg hp;have t:=as8 (p:=l.pg) (l:=l) L hd (I.am l.pg hp) (by lia) λq o z w=>by{have h1:(S.up d).countP (UL.an l.pg)+(S.dn d).countP (Let.bk l.pg)<=cnt n l.pg S.up S.dn:=asS (f:=λd=>(S.up d).countP (UL.an l.pg)+(S.dn d).countP (Let.bk l.pg)) hd;rw[e,countP_cons,z]at h1;simp[UL.an,UL.pg]at h1;rw[z]at J w;simp only[UL.pg]at J w h1;lia};unfold TS.phi TS.Ph;dsimp only;rw[am8 _ λq W=>(O q W).1];have h1:=oM (n:=n) (d:=d) (f:=λd=>sU n (S.up d)) (g:=λe=>sU n (aM S.up d r e)) hd λe F=>by{simp only[aX _ _ F]};have h2:=oM (n:=m) (d:=l.pg) (f:=λp=>wQ n (S.pg p)) (g:=λp=>wQ n (aM S.pg l.pg ((S.pg l.pg).take l.pg d l).1 p)) hp λe F=>by{simp only[aX _ _ F]};simp only[aJ]at h1 h2;have Y:sU n (S.up d)=wU n l+sU n r:=by{rw[e];rfl};lia
theorem axu{n m d:Nat}{S:TS}{l:Let}{r:List Let}(hd:d<n)(e:S.dn d=l::r):(S.Bj d l r).phi n m+1<=S.phi n m:=by
 unfold TS.phi TS.Bj TS.jG;dsimp only;have h1:=oM (n:=n) (d:=d) (f:=λd=>sU n (S.up d)) (g:=λe=>sU n (aM S.up d (S.up d++((S.ds d).nQ l).2.2) e)) hd λe z=>by{simp only[aX _ _ z]};have h2:=oM (n:=n) (d:=d) (f:=λd=>sL (S.dn d)) (g:=λe=>sL (aM S.dn d r e)) hd λe z=>by{simp only[aX _ _ z]};simp only[aJ]at h1 h2;have F:sL (S.dn d)=wL l+sL r:=by{rw[e];rfl};have I:sU n (S.up d++((S.ds d).nQ l).2.2)+1<=sU n (S.up d)+wL l:=by{cases l with| lend p x k=>simp[DS.nQ,wL,sU]| back p x=>simp[DS.nQ,wL,wU,sU]};lia
theorem Kg.gok{n m p:Nat}{x:Int->Int}{S:TS}(C:Kg n m x S)(I:ik n m S)(hp:p<m):GOk n (S.pg p):=by
 obtain⟨b,J⟩:=C.pv p hp;exact⟨(I.pn p hp).w,(I.pn p hp).r,J.ex,J.rnd,λy z=>((I.pn p hp).q y z).1⟩
theorem iM(f g:Nat->Nat):∀n,dX n (λd=>f d+g d)=dX n f+dX n g
 | 0=>rfl
 | n+1=>by rw[eO,eO,eO,iM f g n];lia
theorem Pq(c:Nat)(f:Nat->Nat):∀n,dX n (λd=>c*f d)=c*dX n f
 | 0=>rfl
 | n+1=>by rw[eO,eO,Pq c f n,Nat.mul_add]
theorem Pr{f g:Nat->Nat}:∀{n:Nat},(∀d,d<n->f d<=g d)->dX n f<=dX n g
 | 0,_=>Nat.le_refl _
 | n+1,h=>by have h1:=Pr (n:=n) λd hd=>h d (Nat.lt_succ_of_lt hd);have h2:=h n (Nat.lt_succ_self n);rw[eO,eO];lia
theorem fX(c:Nat):∀n,dX n (λ_=>c)=n*c
 | 0=>by simp[dX]
 | n+1=>by rw[eO,fX c n,Nat.succ_mul]
theorem JX(F:Nat->Nat->Nat)(m:Nat):∀n,dX n (λd=>dX m (F d))=dX m (λp=>dX n (λd=>F d p))
 | 0=>by rw[show(λp=>dX 0 (λd=>F d p))=λ_=>0 from rfl,fX];simp[dX]
 | n+1=>by rw[eO,JX F m n,<-iM];exact fW λp _=>by rw[eO]
theorem Ze{q c:Nat}:∀{m:Nat},q<m->dX m (λp=>if q=p then c else 0)=c:=λ{m} h=>by
 have:=oM (n:=m) (d:=q) (f:=λ_=>0) (g:=λp=>if q=p then c else 0) h λe z=>if_neg (Ne.symm z)
 rw[fX]at this
 simpa using this
def vU(n:Nat):PV.Up->Nat
 | .ask _=>2*n
 | _=>1
def vD:PV.Dn->Nat
 | .lend _ _=>1
 | .back _=>2
theorem ai4{n m:Nat}:∀{l:List UL},(∀x∈l,x.pg<m)->sU n l=dX m (λp=>((l.filterMap (wZ p)).map (vU n)).sum)
 | [],_=>by rw[show(λp=>((([]:List UL).filterMap (wZ p)).map (vU n)).sum)=λ_=>0 from rfl,fX];rfl
 | x::l,h=>by have e:∀p,(((x::l).filterMap (wZ p)).map (vU n)).sum=(if x.pg=p then wU n x else 0)+((l.filterMap (wZ p)).map (vU n)).sum:=λp=>by{rw[filterMap_cons];by_cases z:x.pg=p;{subst z;cases x<;>simp[wZ,UL.pg,vU,wU]};{rw[afw z,if_neg z];simp}};rw[fW λp _=>e p,iM,Ze (h x (by simp)),<-ai4 λy F=>h y (mem_cons_of_mem _ F)];rfl
theorem ai5{m:Nat}:∀{l:List Let},(∀x∈l,∃p:Nat,p<m/\x.pg=(p:Int))->sL l=dX m (λp=>((l.filterMap (Ay p)).map vD).sum)
 | [],_=>by rw[show(λp=>((([]:List Let).filterMap (Ay p)).map vD).sum)=λ_=>0 from rfl,fX];rfl
 | x::l,h=>by obtain⟨q,I,F⟩:=h x (by simp);have e:∀p,(((x::l).filterMap (Ay p)).map vD).sum=(if q=p then wL x else 0)+((l.filterMap (Ay p)).map vD).sum:=λp=>by{rw[filterMap_cons];by_cases z:q=p;{subst z;cases x with| lend a b c=>have:a=(q:Int):=F;subst this;simp[Ay,vD,wL]| back a b=>have:a=(q:Int):=F;subst this;simp[Ay,vD,wL]};{rw[alG (by rw[F];lia),if_neg z];simp}};rw[fW λp _=>e p,iM,Ze I,<-ai5 λy J=>h y (mem_cons_of_mem _ J)];rfl
theorem aqn(n:Nat):∀l:List PV.Up,(l.map (vU n)).sum<=2*n*l.countP PV.Up.lB+l.countP PV.Up.lC+l.countP PV.Up.isVal
 | []=>by simp
 | x::l=>by have:=aqn n l;rw[map_cons,sum_cons,countP_cons,countP_cons,countP_cons];cases x with| ask w=>simp[vU,PV.Up.lB,PV.Up.lC,PV.Up.isVal,Nat.mul_add];lia| ans o=>cases o<;>simp[vU,PV.Up.lB,PV.Up.lC,PV.Up.isVal]<;>lia| gave y=>simp[vU,PV.Up.lB,PV.Up.lC,PV.Up.isVal];lia
theorem aqo:∀l:List PV.Dn,(l.map vD).sum=l.countP PV.Dn.ir+2*l.countP PV.Dn.jj
 | []=>by simp
 | x::l=>by have:=aqo l;rw[map_cons,sum_cons,countP_cons,countP_cons];cases x<;>simp[vD,PV.Dn.ir,PV.Dn.jj]<;>lia
theorem avJ{n:Nat}:∀{q:List (Nat×Bool)},(∀x∈q,x.1<n)->dX n (λd=>q.countP (λx=>x.1 == d))=q.length
 | [],_=>by rw[show(λd=>([]:List (Nat×Bool)).countP (λx=>x.1 == d))=λ_=>0 from rfl,fX];simp
 | x::q,h=>by rw[fW (g:=λd=>(if x.1=d then 1 else 0)+q.countP (λx=>x.1 == d)) λd _=>by rw[countP_cons];simp only[beq_iff_eq];lia,iM,Ze (h x (by simp)),avJ λy z=>h y (mem_cons_of_mem _ z),length_cons];lia
theorem as9{n m p:Nat}{x:Int->Int}{S:TS}(C:Kg n m x S)(I:ik n m S)(hp:p<m)(hn:0<n):dX n (λd=>(((S.up d).filterMap (wZ p)).map (vU n)).sum+(((S.dn d).filterMap (Ay p)).map vD).sum)+wQ n (S.pg p)<=2*n*dX n (λd=>if(Pk p (S.ds d).ws).isSome then 1 else 0)+n:=by
 obtain⟨b,J⟩:=C.pv p hp;have c1:∀d,((S.dn d).filterMap (Ay p)).countP PV.Dn.jj+((S.up d).filterMap (wZ p)).countP PV.Up.lC=if d∈b then 1 else 0:=J.c1;have c3:∀d,((S.up d).filterMap (wZ p)).countP PV.Up.lB+(qP (S.pg p).ask).countP (λx=>x.1 == d)+((S.dn d).filterMap (Ay p)).countP PV.Dn.ir=if(Pk p (S.ds d).ws).isSome then 1 else 0:=J.c3;have v1:∀d,((S.up d).filterMap (wZ p)).countP PV.Up.isVal<=1:=J.v1;have hq:∀y∈qP (S.pg p).ask,y.1<n:=λy hy=>by{obtain⟨z,hz,rfl⟩:=mem_map.mp hy;exact((I.pn p hp).q z hz).1};have hK:=avJ hq;have O:(qP (S.pg p).ask).length=(S.pg p).ask.length:=length_map _;have L:dX n (λd=>(((S.up d).filterMap (wZ p)).map (vU n)).sum+(((S.dn d).filterMap (Ay p)).map vD).sum)<=dX n (λd=>2*n*((S.up d).filterMap (wZ p)).countP PV.Up.lB+(2*(if d∈b then 1 else 0)+(1+((S.dn d).filterMap (Ay p)).countP PV.Dn.ir))):=Pr λd _=>by{have:=aqn n ((S.up d).filterMap (wZ p));have h2:=aqo ((S.dn d).filterMap (Ay p));have h3:=c1 d;have h4:=v1 d;lia};have Z:dX n (λd=>2*n*((S.up d).filterMap (wZ p)).countP PV.Up.lB+(2*(if d∈b then 1 else 0)+(1+((S.dn d).filterMap (Ay p)).countP PV.Dn.ir)))=2*n*dX n (λd=>((S.up d).filterMap (wZ p)).countP PV.Up.lB)+(2*dX n (λd=>if d∈b then 1 else 0)+(n*1+dX n (λd=>((S.dn d).filterMap (Ay p)).countP PV.Dn.ir))):=by{rw[iM,Pq,iM,Pq,iM,fX]};rw[Z]at L;clear Z;have hW:dX n (λd=>if(Pk p (S.ds d).ws).isSome then 1 else 0)=dX n (λd=>((S.up d).filterMap (wZ p)).countP PV.Up.lB)+(S.pg p).ask.length+dX n (λd=>((S.dn d).filterMap (Ay p)).countP PV.Dn.ir):=by{rw[<-O,<-hK,<-iM,<-iM];exact fW λd _=>(c3 d).symm};rw[hW];generalize dX n (λd=>((S.up d).filterMap (wZ p)).countP PV.Up.lB)=A at *;generalize dX n (λd=>((S.dn d).filterMap (Ay p)).countP PV.Dn.ir)=Le at *;have aj:Le<=2*n*Le:=Nat.le_mul_of_pos_left _ (by lia);have ak:=I.ct p hp;by_cases F:(S.pg p).miss=0;{have ha:=(I.am p hp).mpr F;have hb:b=[]:=length_eq_zero_iff.mp (J.len.trans (by show(S.pg p).miss.toNat=0;rw[F];rfl));have hw:wQ n (S.pg p)=0:=by{unfold wQ;rw[if_pos F,ha];rfl};have hB:dX n (λd=>if d∈b then 1 else 0)=0:=by{rw[hb,fW (g:=λ_=>0) λd _=>by simp,fX];simp};rw[hw,ha];rw[hB]at L;simp only[length_nil,Nat.add_zero,Nat.mul_add,Nat.mul_one]at L ⊢;lia};{obtain⟨⟨a,r⟩,q,e⟩:=exists_cons_of_ne_nil λz=>F ((I.am p hp).mp z);have W:=((I.pn p hp).q (a,r) (by rw[e];simp)).1;have Y:a∉b:=J.sa a (decide (r=.wr)) (qP q) (by show qP (S.pg p).ask=_;rw[e];rfl);have hB:dX n (λd=>if d∈b then 1 else 0)+1<=n:=by{have h1:=oM (n:=n) (d:=a) (f:=λd=>if d∈b then 1 else 0) (g:=λd=>if d=a then 1 else if d∈b then 1 else 0) W λe he=>if_neg he;simp only[if_neg Y,if_true]at h1;have h2:dX n (λd=>if d=a then 1 else if d∈b then 1 else 0)<=dX n (λ_=>1):=Pr λd _=>by{split<;>(try split)<;>lia};rw[fX]at h2;lia};rw[JW e,if_neg F,e];generalize dX n (λd=>if d∈b then 1 else 0)=B at *;have hj:(2*n - 1)*q.length<=2*n*q.length:=Nat.mul_le_mul_right _ (by lia);simp only[length_cons,Nat.mul_add,Nat.mul_one]at L ⊢;lia}
theorem axv{m:Nat}(o:Option W):dX m (λp=>if(Pk p o).isSome then 1 else 0)<=1:=by
 cases o with| none=>have:dX m (λp=>if(Pk p none).isSome then 1 else 0)=dX m (λ_=>0):=fW λp _=>rfl;rw[this,fX];simp| some w=>have e:∀p:Nat,(if(Pk p (some w)).isSome then 1 else 0)=if w.pg=(p:Int)then 1 else 0:=λp=>by{by_cases z:w.pg=(p:Int);{simp[Pk,z]};{simp[Pk,z]}};rw[fW λp _=>e p];by_cases h:∃q:Nat,q<m/\w.pg=(q:Int);{obtain⟨q,F,h2⟩:=h;have:dX m (λp=>if w.pg=(p:Int)then 1 else 0)=dX m (λp=>if q=p then 1 else 0):=fW λp _=>by{rw[h2];by_cases z:q=p;{rw[if_pos z,if_pos (by lia)]};{rw[if_neg z,if_neg (by lia)]}};rw[this,Ze F];exact Nat.le_refl _};{have:dX m (λp=>if w.pg=(p:Int)then 1 else 0)=dX m (λ_=>0):=fW λp hp=>if_neg λz=>h ⟨p,hp,z⟩;rw[this,fX];simp}
theorem axw{n m:Nat}{x:Int->Int}{S:TS}(C:Kg n m x S)(I:ik n m S)(F:0<n):S.phi n m<=2*n*n+m*n:=by
 unfold TS.phi;rw[fW λd hd=>ai4 (n:=n) (m:=m) λy z=>(I.up d hd y z).1,fW (f:=λd=>sL (S.dn d)) λd hd=>ai5 (m:=m) λy z=>by obtain⟨p,h1,h2,_⟩:=I.dn d hd y z;exact⟨p,h1,h2⟩];rw[JX (λd p=>(((S.up d).filterMap (wZ p)).map (vU n)).sum) m n,JX (λd p=>(((S.dn d).filterMap (Ay p)).map vD).sum) m n,<-iM,<-iM];have h1:dX m (λp=>dX n (λd=>(((S.up d).filterMap (wZ p)).map (vU n)).sum)+dX n (λd=>(((S.dn d).filterMap (Ay p)).map vD).sum)+wQ n (S.pg p))<=dX m (λp=>2*n*dX n (λd=>if(Pk p (S.ds d).ws).isSome then 1 else 0)+n):=Pr λp hp=>by{rw[<-iM];exact as9 C I hp F};refine Nat.le_trans h1 ?_;rw[iM,Pq,fX,<-JX (λd p=>if(Pk p (S.ds d).ws).isSome then 1 else 0) m n];have h2:dX n (λd=>dX m (λp=>if(Pk p (S.ds d).ws).isSome then 1 else 0))<=dX n (λ_=>1):=Pr λd _=>axv _;rw[fX,Nat.mul_one]at h2;have J:=Nat.mul_le_mul_left (2*n) h2;lia
def reW(e:RE):W:=if e.put then .put e.pg e.num else .look e.pg
def Bo(d:Nat)(row:List RE):List W:=(row.filter λe=>decide (e.dk=d)).map reW
def okA:D->Bool
 | .s w=>decide (w="done") || decide (w="waits")
 | _=>true
def jl(d:Nat)(x:bG)(a:D):List W:=match x with
 | .look e p=>if e=(d:Int)/\okA a=true then [.look p]else []
 | .put e p k=>if e=(d:Int)/\okA a=true then [.put p k]else []
 | _=>[]
theorem aqp(d e:Nat)(row:List RE)(es:List Ev):Bo d (cZ row e es)=Bo d row++(if e=d then es.map λv=>reW ⟨v.1,e,v.2.1,v.2.2⟩else []):=by
 unfold Bo cZ;rw[filter_append,map_append];congr 1;by_cases h:e=d;{rw[if_pos h,filter_eq_self.mpr (by intro x z;obtain⟨v,_,rfl⟩:=mem_map.mp z;simp[h]),map_map];rfl};{rw[if_neg h,filter_eq_nil_iff.mpr (by intro x z;obtain⟨v,_,rfl⟩:=mem_map.mp z;simp[h])];rfl}
theorem ai6(S:DS)(w:W)(d:Nat):reW ⟨w.mC,d,w.pg,S.num w⟩=w:=by cases w<;>rfl
def TS.wl(S:TS)(d:Nat):List W:=Bo d S.row++(S.ds d).ws.toList
theorem afy{S:TS}{e:Nat}{z:DS×List Ev×List UL}{d:Nat}:(S.jG e z).wl d=if e=d then Bo d S.row++(z.2.1.map λv=>reW ⟨v.1,e,v.2.1,v.2.2⟩)++z.1.ws.toList else S.wl d:=by
 unfold TS.wl TS.jG;dsimp only;rw[aqp];by_cases h:e=d;{subst h;rw[if_pos rfl,if_pos rfl,aJ]};{rw[if_neg h,if_neg h,aX _ _ (Ne.symm h),append_nil]}
theorem am9{S:TS}{e p d:Nat}{w:W}{F:D}(I:okA F=true):(S.wish e p w F).1.wl d=S.wl d++(if e=d/\okA (S.wish e p w F).2=true then [w]else []):=by
 unfold TS.wish;cases h:(S.ds e).ws with
 | some v=>dsimp only;rw[if_neg (by rintro⟨_,z⟩;revert z;decide +kernel),append_nil]
 | none=>dsimp only;rw[afy];by_cases hd:e=d;{subst hd;unfold DS.il;by_cases ok:(S.ds e).ok w;{rw[if_pos rfl,if_pos ok,if_pos ok,if_pos ⟨rfl,I⟩];unfold TS.wl;simp only[map_cons,map_nil,ai6,DS.Zc,h,Option.toList_none,append_nil]};{rw[if_pos rfl,if_neg ok,if_neg ok,if_pos ⟨rfl,∅⟩];unfold TS.wl;simp only[map_nil,append_nil,h,Option.toList_none,Option.toList_some]}};{rw[if_neg hd,if_neg λz=>hd z.1,append_nil]}
theorem ata{n m:Nat}{S:TS}{x:bG}{d:Nat}:((S.step n m x).1).wl d=S.wl d++jl d x (S.step n m x).2:=by
 have I:∀s:Str,(s="no desk"\/s="no page")->okA (.s s)=false:=by{intro s h;rcases h with rfl | rfl<;>decide +kernel};cases x with
 | up e=>simp only[TS.step,jl,append_nil];split;{unfold TS.upD;split<;>rfl};{rfl}
 | down e=>simp only[TS.step,jl,append_nil];split;{unfold TS.Kd;split;{rfl};{rename_i l r _;show(TS.jG {S with dn:=aM S.dn e.toNat r} e.toNat ((S.ds e.toNat).nQ l)).wl d=_;rw[afy];by_cases hd:e.toNat=d;{rw[if_pos hd,hd];unfold TS.wl;cases l with| back p q=>show Bo d S.row++[]++((S.ds d).down p q).ws.toList=_;rw[append_nil];unfold DS.down;split<;>rfl| lend p q k=>show Bo d S.row++(((S.ds d).lr p q k).2.map λv=>reW ⟨v.1,d,v.2.1,v.2.2⟩)++((S.ds d).lr p q k).1.ws.toList=_;unfold DS.lr;cases h:(S.ds d).ws with| none=>dsimp only;rw[DS.JP,h];simp| some w=>dsimp only;split;{simp only[map_cons,map_nil,ai6,DS.Zc,Option.toList_none,Option.toList_some,append_nil]};{dsimp only;rw[DS.JP,h];simp}};{rw[if_neg hd];rfl}}};{rfl}
 | rest e p=>simp only[TS.step,jl,append_nil];split;{split;{split;{rfl};{unfold TS.lu;rw[afy];split;{rename_i h;show Bo d S.row++[]++((S.ds e.toNat).hold p.toNat .no _).ws.toList=_;rw[append_nil,DS.JP,h];rfl};{rfl}}};{rfl}};{rfl}
 | look e p=>have F:∀z:TS×D,S.step n m (.look e p)=z->z.1.wl d=S.wl d++(if e=(d:Int)/\okA z.2=true then [.look p]else [])->((S.step n m (.look e p)).1).wl d=S.wl d++jl d (.look e p) (S.step n m (.look e p)).2:=λz h1 h2=>by{rw[h1];exact h2};by_cases J:inR e n;{by_cases hp:inR p m;{refine F (S.wish e.toNat p.toNat (.look p) (.i ((S.ds e.toNat).nm p))) (by simp only[TS.step];rw[if_pos J,if_pos hp]) ?_;rw[am9 rfl];have:(e.toNat=d)↔(e=(d:Int)):=by{unfold inR at J;lia};simp only[this]};{refine F (S,.s "no page") (by simp only[TS.step];rw[if_pos J,if_neg hp]) ?_;rw[if_neg λz=>by rw[I _ (.inr rfl)]at z;exact absurd z.2 (by simp),append_nil]}};{refine F (S,.s "no desk") (by simp only[TS.step];rw[if_neg J]) ?_;rw[if_neg λz=>by rw[I _ (.inl rfl)]at z;exact absurd z.2 (by simp),append_nil]}
 | put e p k=>have F:∀z:TS×D,S.step n m (.put e p k)=z->z.1.wl d=S.wl d++(if e=(d:Int)/\okA z.2=true then [.put p k]else [])->((S.step n m (.put e p k)).1).wl d=S.wl d++jl d (.put e p k) (S.step n m (.put e p k)).2:=λz h1 h2=>by{rw[h1];exact h2};by_cases J:inR e n;{by_cases hp:inR p m;{refine F (S.wish e.toNat p.toNat (.put p k) (.s "done")) (by simp only[TS.step];rw[if_pos J,if_pos hp]) ?_;rw[am9 ∅];have:(e.toNat=d)↔(e=(d:Int)):=by{unfold inR at J;lia};simp only[this]};{refine F (S,.s "no page") (by simp only[TS.step];rw[if_pos J,if_neg hp]) ?_;rw[if_neg λz=>by rw[I _ (.inr rfl)]at z;exact absurd z.2 (by simp),append_nil]}};{refine F (S,.s "no desk") (by simp only[TS.step];rw[if_neg J]) ?_;rw[if_neg λz=>by rw[I _ (.inl rfl)]at z;exact absurd z.2 (by simp),append_nil]}
theorem quiet{n m:Nat}{x:Int->Int}{S:TS}(C:Kg n m x S)(I:ik n m S)(h:∀d,d<n->S.up d=[]/\S.dn d=[]){d:Nat}(hd:d<n):(S.ds d).ws=none:=by
 cases z:(S.ds d).ws with| none=>rfl| some w=>obtain⟨p,hp,e⟩:=I.ws d hd w z;obtain⟨b,J⟩:=C.pv p hp;have L:cnt n p S.up S.dn=0:=by{unfold cnt;have:∀k,k<=n->dX k (λd=>(S.up d).countP (UL.an p)+(S.dn d).countP (Let.bk p))=0:=λk hk=>by{induction k with| zero=>rfl| succ k O=>rw[eO,O (by lia),(h k (by lia)).1,(h k (by lia)).2];rfl};exact this n (Nat.le_refl _)};have W:=(I.am p hp).mpr (by rw[<-I.ct p hp,L];rfl);have F:=J.c3 d;have Y:(S.pv x p).U d=[]:=by{show(S.up d).filterMap _=_;rw[(h d hd).1];rfl};have Z:(S.pv x p).D d=[]:=by{show(S.dn d).filterMap _=_;rw[(h d hd).2];rfl};have e3:(S.pv x p).q=[]:=by{show qP (S.pg p).ask=_;rw[W];rfl};have e4:(S.pv x p).wt d=some w.mC:=by{show Pk p (S.ds d).ws=_;rw[z];exact if_pos e};rw[Y,Z,e3,e4]at F;simp at F
def top(i:Nat):Stmt:=PySem.Challenge.pw_copydesks_k04_whole_nobody_waits_for_eve.main.body.getD i (.Pass ⟨0,0,0,0⟩)
abbrev ana:Stmt:=top 0
abbrev Bp:Stmt:=top 12
abbrev sV:Stmt:=top 13
abbrev yr:Stmt:=top 14
abbrev yt:Stmt:=top 15
abbrev yu:Stmt:=top 16
abbrev G8:Stmt:=top 19
abbrev uX:Stmt:=top 20
abbrev G9:Stmt:=inClass (top 21) 0
abbrev sW:Stmt:=inClass (top 21) 1
abbrev Bq:Stmt:=inClass (top 21) 2
abbrev Ha:Stmt:=inClass (top 21) 3
abbrev Hc:Stmt:=inClass (top 21) 4
abbrev Hd:Stmt:=inClass (top 21) 5
abbrev yw:Stmt:=inClass (top 21) 6
abbrev uY:Stmt:=inClass (top 21) 7
abbrev qH:Stmt:=inClass (top 21) 8
abbrev uZ:Stmt:=inClass (top 21) 9
abbrev jV:Stmt:=inClass (top 21) 10
abbrev Hf:Stmt:=inClass (top 21) 11
abbrev qI:Stmt:=inClass (top 23) 0
abbrev lD:Stmt:=inClass (top 23) 1
abbrev jq:Stmt:=inClass (top 23) 2
abbrev jW:Stmt:=inClass (top 23) 3
abbrev oW:Stmt:=inClass (top 23) 4
abbrev iu:Stmt:=inClass (top 23) 5
abbrev qJ:Stmt:=inClass (top 23) 6
abbrev jX:Stmt:=inClass (top 23) 7
abbrev lE:Stmt:=inClass (top 23) 8
abbrev Hg:Stmt:=inClass (top 24) 0
abbrev Hh:Stmt:=inClass (top 24) 1
abbrev Hi:Stmt:=inClass (top 28) 0
abbrev u0:Stmt:=inClass (top 28) 1
abbrev oX:Stmt:=inClass (top 28) 2
abbrev oY:Stmt:=inClass (top 28) 3
abbrev u6:Stmt:=inClass (top 28) 4
abbrev yx:Stmt:=inClass (top 28) 5
abbrev u9:Stmt:=inClass (top 28) 6
abbrev sX:Stmt:=inClass (top 28) 7
abbrev oZ:Stmt:=inClass (top 28) 8
abbrev mj:Stmt:=inClass (top 28) 9
abbrev qK:Stmt:=inClass (top 28) 10
abbrev xf:Stmt:=inClass (top 28) 11
abbrev zF:Stmt:=inClass (top 28) 12
abbrev lF:Stmt:=inClass (top 28) 13
abbrev Hj:Stmt:=top 30
abbrev Br:Stmt:=top 31
abbrev aab:Stmt:=top 32
abbrev Bs:Stmt:=top 33
abbrev Ti:Stmt:=top 35
abbrev alH:Stmt:=top 36
abbrev aac:Stmt:=top 37
abbrev Hk:Stmt:=top 38
abbrev afz:Stmt:=top 39
abbrev Bu:Stmt:=top 40
abbrev Tj:Stmt:=top 41
abbrev Hl:Stmt:=top 42
abbrev Mp:Stmt:=top 43
abbrev yz:Stmt:=top 44
abbrev yC:Stmt:=top 45
abbrev vd:Stmt:=top 46
abbrev Bv:Stmt:=top 47
abbrev vf:Stmt:=top 48
abbrev sY:Stmt:=top 49
abbrev Bw:Stmt:=top 50
abbrev vg:Stmt:=top 51
abbrev yD:Stmt:=top 52
abbrev Hm:Stmt:=top 53
abbrev Bx:Stmt:=top 54
abbrev Hn:Stmt:=top 55
abbrev aqq:Stmt:=top 56
theorem acJ:bA ["page","right"] ["page","right"] (aO Bp):=⟨rfl,rfl,rfl,∅,rfl,∅,∅⟩
theorem Tn:bA ["page","number"] ["page","number"] (aO sV):=⟨rfl,rfl,rfl,∅,rfl,∅,∅⟩
theorem aad:bA ["page","number"] ["page","number"] (aO yr):=⟨rfl,rfl,rfl,∅,rfl,∅,∅⟩
theorem aae:bA ["page","right","number"] ["page","right","number"] (aO yt):=⟨rfl,rfl,rfl,∅,rfl,∅,∅⟩
theorem aaf:bA ["page","right"] ["page","right"] (aO yu):=⟨rfl,rfl,rfl,∅,rfl,∅,∅⟩
theorem afA:bA ["right","needed"] ["right","needed"] (aO G8):=⟨rfl,rfl,rfl,∅,rfl,∅,∅⟩
theorem WQ:bA ["wish"] ["wish"] (aO uX):=⟨rfl,rfl,rfl,∅,rfl,∅,∅⟩
theorem afB:bA ["self"] ["self"] (aO G9):=⟨rfl,rfl,rfl,∅,rfl,∅,∅⟩
theorem Tp:bA ["self","page"] ["self","page"] (aO sW):=⟨rfl,rfl,rfl,∅,rfl,∅,∅⟩
theorem acK:bA ["self"] ["self"] (aO Bq):=⟨rfl,rfl,rfl,∅,rfl,∅,∅⟩
theorem afC:bA ["self","wish"] ["self","wish"] (aO Ha):=⟨rfl,rfl,rfl,∅,rfl,∅,∅⟩
theorem afD:bA ["self","letter"] ["self","letter"] (aO Hc):=⟨rfl,rfl,rfl,∅,rfl,∅,∅⟩
theorem Pu:bA ["self","page","number"] ["self","page"] (aO Hd):=⟨rfl,rfl,rfl,∅,rfl,∅,∅⟩
theorem aag:bA ["self","wish"] ["self","wish"] (aO yw):=⟨rfl,rfl,rfl,∅,rfl,∅,∅⟩
theorem DG:bA ["self","wish","page"] ["self","wish"] (aO uY):=⟨rfl,rfl,rfl,∅,rfl,∅,∅⟩
theorem xg:bA ["self","page","right","number","wish"] ["self","page","right","number"] (aO qH):=⟨rfl,rfl,rfl,∅,rfl,∅,∅⟩
theorem DK:bA ["self","page","right","number"] ["self","page","right"] (aO uZ):=⟨rfl,rfl,rfl,∅,rfl,∅,∅⟩
theorem By:bA ["self","page"] ["self","page"] (aO jV):=⟨rfl,rfl,rfl,∅,rfl,∅,∅⟩
theorem afE:bA ["self","page","right","number"] ["self","page","right","number"] (aO Hf):=⟨rfl,rfl,rfl,∅,rfl,∅,∅⟩
theorem Px:bA ["self","page","number"] ["self","page","number"] (aO qI):=⟨rfl,rfl,rfl,∅,rfl,∅,∅⟩
theorem EY:bA ["self","desk","right"] ["self","desk","right"] (aO lD):=⟨rfl,rfl,rfl,∅,rfl,∅,∅⟩
theorem yE:bA ["self","number"] ["self","number"] (aO jq):=⟨rfl,rfl,rfl,∅,rfl,∅,∅⟩
theorem BJ:bA ["self","desk","number"] ["self","desk","number"] (aO jW):=⟨rfl,rfl,rfl,∅,rfl,∅,∅⟩
theorem m6:bA ["self","sent","bids"] ["self"] (aO oW):=⟨rfl,rfl,rfl,∅,rfl,∅,∅⟩
theorem eX:bA ["self","asking","right","bids"] ["self"] (aO iu):=⟨rfl,rfl,rfl,∅,rfl,∅,∅⟩
theorem xj:bA ["self","first"] ["self"] (aO qJ):=⟨rfl,rfl,rfl,∅,rfl,∅,∅⟩
theorem BK:bA ["self","desk"] ["self","desk"] (aO jX):=⟨rfl,rfl,rfl,∅,rfl,∅,∅⟩
theorem Fb:bA ["self","desk"] ["self","desk"] (aO lE):=⟨rfl,rfl,rfl,∅,rfl,∅,∅⟩
theorem afF:bA ["self","numbers"] ["self","numbers"] (aO Hg):=⟨rfl,rfl,rfl,∅,rfl,∅,∅⟩
theorem Py:bA ["self","desk","letter","loans"] ["self","desk","letter"] (aO Hh):=⟨rfl,rfl,rfl,∅,rfl,∅,∅⟩
theorem afG:bA ["self","count","numbers"] ["self","count","numbers"] (aO Hi):=⟨rfl,rfl,rfl,∅,rfl,∅,∅⟩
theorem mR:bA ["self","deed","word","desk","page"] ["self","deed"] (aO u0):=⟨rfl,rfl,rfl,∅,rfl,∅,∅⟩
theorem Mq:bA ["self","desk"] ["self","desk"] (aO oX):=⟨rfl,rfl,rfl,∅,rfl,∅,∅⟩
theorem Mr:bA ["self","page"] ["self","page"] (aO oY):=⟨rfl,rfl,rfl,∅,rfl,∅,∅⟩
theorem DN:bA ["self","desk","page","done"] ["self","desk","page"] (aO u6):=⟨rfl,rfl,rfl,∅,rfl,∅,∅⟩
theorem Ho:bA ["self","desk","page","number","done"] ["self","desk","page","number"] (aO yx):=⟨rfl,rfl,rfl,∅,rfl,∅,∅⟩
theorem WR:bA ["self","desk","page"] ["self","desk","page"] (aO u9):=⟨rfl,rfl,rfl,∅,rfl,∅,∅⟩
theorem jr:bA ["self","desk","letter","pairs","receiver","sent"] ["self","desk"] (aO sX):=⟨rfl,rfl,rfl,∅,rfl,∅,∅⟩
theorem vh:bA ["self","desk","letter"] ["self","desk"] (aO oZ):=⟨rfl,rfl,rfl,∅,rfl,∅,∅⟩
theorem Hq:bA ["self","road"] ["self","road"] (aO mj):=⟨rfl,rfl,rfl,∅,rfl,∅,∅⟩
theorem kj:bA ["self","desk","told","word","page","number"] ["self","desk","told"] (aO qK):=⟨rfl,rfl,rfl,∅,rfl,∅,∅⟩
theorem Fd:bA ["self"] ["self"] (aO lF):=⟨rfl,rfl,rfl,∅,rfl,∅,∅⟩
theorem afH:bA ["town","deed"] ["town","deed"] (aO Hj):=⟨rfl,rfl,rfl,∅,rfl,∅,∅⟩
theorem yF:bA ["count","numbers","deeds","town","deed"] ["count","numbers","deeds"] (aO Br):=⟨rfl,rfl,rfl,∅,rfl,∅,∅⟩
theorem aom:bA ["count","numbers","deeds"] ["count","numbers","deeds"] (aO aab):=⟨rfl,rfl,rfl,∅,rfl,∅,∅⟩
theorem Kh:bA ["count","numbers","deeds","town"] ["count","numbers","deeds"] (aO Bs):=⟨rfl,rfl,rfl,∅,rfl,∅,∅⟩
theorem alI:bA ["_law_found"] ["_law_found"] (aO Ti):=⟨rfl,rfl,rfl,∅,rfl,∅,∅⟩
theorem atb:bA ["_law_script","_law_k"] ["_law_script","_law_k"] (aO alH):=⟨rfl,rfl,rfl,∅,rfl,∅,∅⟩
theorem zG:bA ["_law_found","_law_due","_law_left","_law_right","_law_one","_law_two"] ["_law_found","_law_due"] (aO aac):=⟨rfl,rfl,rfl,∅,rfl,∅,∅⟩
theorem uo:bA ["_law_count","_law_numbers","_law_town","_law_number","_law_shelf"] ["_law_count","_law_numbers"] (aO Hk):=⟨rfl,rfl,rfl,∅,rfl,∅,∅⟩
theorem rK:bA ["_law_town","_law_page","_law_shelf","_law_desk","_law_right","_law_bids","_law_one","_law_low"] ["_law_town","_law_page"] (aO afz):=⟨rfl,rfl,rfl,∅,rfl,∅,∅⟩
theorem mH:bA ["_law_town","_law_page","_law_shelf","_law_desk","_law_right","_law_letter"] ["_law_town","_law_page"] (aO Bu):=⟨rfl,rfl,rfl,∅,rfl,∅,∅⟩
theorem aah:bA ["_law_town","_law_page","_law_shelf"] ["_law_town","_law_page"] (aO Tj):=⟨rfl,rfl,rfl,∅,rfl,∅,∅⟩
theorem BL:bA ["_law_town","_law_desk","_law_letter","_law_shelf"] ["_law_town","_law_desk"] (aO Hl):=⟨rfl,rfl,rfl,∅,rfl,∅,∅⟩
theorem ai7:bA ["_law_right","_law_wish"] ["_law_right","_law_wish"] (aO Mp):=⟨rfl,rfl,rfl,∅,rfl,∅,∅⟩
theorem Hr:bA ["_law_town","_law_desk","_law_wish","_law_number"] ["_law_town","_law_desk","_law_wish"] (aO yz):=⟨rfl,rfl,rfl,∅,rfl,∅,∅⟩
theorem iw:bA ["_law_town","_law_desk","_law_letter","_law_page","_law_held","_law_wish","_law_number"] ["_law_town","_law_desk"] (aO yC):=⟨rfl,rfl,rfl,∅,rfl,∅,∅⟩
theorem DP:bA ["_law_town","_law_deed","_law_desk"] ["_law_town","_law_deed"] (aO vd):=⟨rfl,rfl,rfl,∅,rfl,∅,∅⟩
theorem jT:bA ["_law_town","_law_deed","_law_word","_law_desk","_law_right","_law_wish","_law_number"] ["_law_town","_law_deed"] (aO Bv):=⟨rfl,rfl,rfl,∅,rfl,∅,∅⟩
theorem sZ:bA ["_law_cell","_law_pages","_law_far","_law_some"] ["_law_cell","_law_pages"] (aO vf):=⟨rfl,rfl,rfl,∅,rfl,∅,∅⟩
theorem c7:bA ["_law_count","_law_cell","_law_last","_law_flush","_law_desk","_law_deeds"] ["_law_count","_law_cell"] (aO sY):=⟨rfl,rfl,rfl,∅,rfl,∅,∅⟩
theorem cD:bA ["_law_cells","_law_count","_law_pages","_law_words","_law_asked","_law_k","_law_rest","_law_salt","_law_far","_law_word","_law_desk","_law_page","_law_odd","_law_number","_law_much"] ["_law_cells","_law_count","_law_pages"] (aO Bw):=⟨rfl,rfl,rfl,∅,rfl,∅,∅⟩
theorem fM:bA ["_law_found","_law_count","_law_numbers","_law_now","_law_one","_law_part","_law_word","_law_desk","_law_page","_law_number"] ["_law_found","_law_count","_law_numbers"] (aO vg):=⟨rfl,rfl,rfl,∅,rfl,∅,∅⟩
theorem vm:bA ["_law_asked","_law_told","_law_desk","_law_row","_law_k"] ["_law_asked","_law_told","_law_desk"] (aO yD):=⟨rfl,rfl,rfl,∅,rfl,∅,∅⟩
theorem lU:bA ["_law_found","_law_desk","_law_row","_law_word","_law_one","_law_page","_law_number"] ["_law_found","_law_desk"] (aO Hm):=⟨rfl,rfl,rfl,∅,rfl,∅,∅⟩
theorem rC:bA ["_law_town","_law_roads","_law_word","_law_desk"] ["_law_town"] (aO Bx):=⟨rfl,rfl,rfl,∅,rfl,∅,∅⟩
theorem ph:bA ["_law_town","_law_script","_law_deeds","_law_roads","_law_deed"] ["_law_town","_law_script"] (aO Hn):=⟨rfl,rfl,rfl,∅,rfl,∅,∅⟩
theorem pq:bA ["_law_script","_law_head","_law_count","_law_pages","_law_numbers","_law_asked","_law_town","_law_told","_law_deeds","_law_left","_law_bare","_law_found","_law_desk"] ["_law_script"] (aO aqq):=⟨rfl,rfl,rfl,∅,rfl,∅,∅⟩
set_option genInjectivity false in
set_option genSizeOf false in
structure Ht where
 bD:Addr
 bB:Addr
 bx:Addr
 aR:Addr
 bh:Addr
 aK:Addr
 bQ:Addr
 aD:Addr
 iD:Addr
 bF:Addr
 BP:Addr
 ai8:FuncData
 iQ:Addr
 yG:FuncData
 fO:Addr
 qL:FuncData
 gW:Addr
 vo:FuncData
 gY:Addr
 vp:FuncData
 gZ:Addr
 vq:FuncData
 jx:Addr
 BR:FuncData
 gn:Addr
 tu:FuncData
 iR:Addr
 BV:FuncData
 eG:Addr
 qM:FuncData
 gQ:Addr
 yH:FuncData
 iT:Addr
 BW:FuncData
 iU:Addr
 BX:FuncData
 iV:Addr
 BZ:FuncData
 f9:Addr
 vy:FuncData
 fB:Addr
 tD:FuncData
 dO:Addr
 pA:FuncData
 fC:Addr
 tE:FuncData
 cN:Addr
 jH:FuncData
 iW:Addr
 Ca:FuncData
 dR:Addr
 pB:FuncData
 cT:Addr
 jY:FuncData
 cF:Addr
 jm:FuncData
 cO:Addr
 jJ:FuncData
 dC:Addr
 m7:FuncData
 cg:Addr
 gU:FuncData
 dU:Addr
 pC:FuncData
 cP:Addr
 jK:FuncData
 cU:Addr
 jZ:FuncData
 iY:Addr
 Cd:FuncData
 iZ:Addr
 Ce:FuncData
 jb:Addr
 Cg:FuncData
 fD:Addr
 tG:FuncData
 dD:Addr
 m8:FuncData
 dF:Addr
 m9:FuncData
 fG:Addr
 tH:FuncData
 gb:Addr
 vA:FuncData
 fH:Addr
 tK:FuncData
 eN:Addr
 qN:FuncData
 dG:Addr
 nj:FuncData
 cY:Addr
 lG:FuncData
 dW:Addr
 pD:FuncData
 dY:Addr
 vB:FuncData
 eQ:Addr
 xm:FuncData
 cV:Addr
 j0:FuncData
 jy:Addr
 Ci:FuncData
 jc:Addr
 yI:FuncData
 rM:Addr
 Tq:FuncData
 jd:Addr
 yJ:FuncData
 nU:Addr
 Ms:FuncData
 Hu:Addr
 afI:FuncData
 rN:Addr
 Tr:FuncData
 jz:Addr
 Cj:FuncData
 xn:Addr
 aai:FuncData
 je:Addr
 yK:FuncData
 nY:Addr
 Mt:FuncData
 jA:Addr
 Ck:FuncData
 lH:Addr
 Hv:FuncData
 g8:Addr
 vC:FuncData
 ie:Addr
 vG:FuncData
 gq:Addr
 tL:FuncData
 jf:Addr
 yL:FuncData
 gA:Addr
 tM:FuncData
 fP:Addr
 qO:FuncData
 jg:Addr
 yM:FuncData
 gB:Addr
 tO:FuncData
 ig:Addr
 vH:FuncData
 jB:Addr
 Cm:FuncData
 jh:Addr
 yN:FuncData
 jC:Addr
 Cp:FuncData
 aaj:Addr
 alJ:FuncData
 uq:Addr
structure Txt(K:Frag)(w:World)(mg:Str->Option Value)(t:Ht):Prop where
 avK:Exc K t.bD [.type "ValueError",.type "Exception",.type "BaseException",.type "object"]
 avL:mg "CopyError"=some (.ref t.bD)
 aak:Exc K t.bB [.ref t.bD,.type "ValueError",.type "Exception",.type "BaseException",.type "object"]
 ai9:mg "NoDesk"=some (.ref t.bB)
 Pz:Exc K t.bx [.ref t.bD,.type "ValueError",.type "Exception",.type "BaseException",.type "object"]
 aja:mg "NoPage"=some (.ref t.bx)
 zH:Exc K t.aR [.ref t.bD,.type "ValueError",.type "Exception",.type "BaseException",.type "object"]
 aeN:mg "Waiting"=some (.ref t.aR)
 zJ:Exc K t.bh [.ref t.bD,.type "ValueError",.type "Exception",.type "BaseException",.type "object"]
 ajb:mg "NoCopy"=some (.ref t.bh)
 nu:Exc K t.aK [.ref t.bD,.type "ValueError",.type "Exception",.type "BaseException",.type "object"]
 aal:mg "NoLetter"=some (.ref t.aK)
 azj:Pb K t.bB
 tW:kitOne K (.ref t.bB) (.ref t.bD)=some true
 fK:t.bB≠t.bD
 zK:kitOne K (.ref t.bB) (.ref t.bB)=some true
 zL:kitOne K (.ref t.bB) (.ref t.bx)=some false
 qQ:t.bB≠t.bx
 xq:kitOne K (.ref t.bB) (.ref t.aR)=some false
 pF:t.bB≠t.aR
 zM:kitOne K (.ref t.bB) (.ref t.bh)=some false
 qR:t.bB≠t.bh
 vI:kitOne K (.ref t.bB) (.ref t.aK)=some false
 nC:t.bB≠t.aK
 rO:kitOne K (.ref t.bB) (.type "ValueError")=some true
 azk:Pb K t.bx
 tX:kitOne K (.ref t.bx) (.ref t.bD)=some true
 gK:t.bx≠t.bD
 zN:kitOne K (.ref t.bx) (.ref t.bB)=some false
 zO:t.bx≠t.bB
 zP:kitOne K (.ref t.bx) (.ref t.bx)=some true
 xr:kitOne K (.ref t.bx) (.ref t.aR)=some false
 pG:t.bx≠t.aR
 zQ:kitOne K (.ref t.bx) (.ref t.bh)=some false
 qT:t.bx≠t.bh
 vJ:kitOne K (.ref t.bx) (.ref t.aK)=some false
 nD:t.bx≠t.aK
 rP:kitOne K (.ref t.bx) (.type "ValueError")=some true
 axx:Pb K t.aR
 rQ:kitOne K (.ref t.aR) (.ref t.bD)=some true
 ji:t.aR≠t.bD
 xu:kitOne K (.ref t.aR) (.ref t.bB)=some false
 xx:t.aR≠t.bB
 xF:kitOne K (.ref t.aR) (.ref t.bx)=some false
 xG:t.aR≠t.bx
 vK:kitOne K (.ref t.aR) (.ref t.aR)=some true
 xH:kitOne K (.ref t.aR) (.ref t.bh)=some false
 pH:t.aR≠t.bh
 tY:kitOne K (.ref t.aR) (.ref t.aK)=some false
 mq:t.aR≠t.aK
 p8:kitOne K (.ref t.aR) (.type "ValueError")=some true
 azl:Pb K t.bh
 tZ:kitOne K (.ref t.bh) (.ref t.bD)=some true
 my:t.bh≠t.bD
 zR:kitOne K (.ref t.bh) (.ref t.bB)=some false
 zT:t.bh≠t.bB
 zU:kitOne K (.ref t.bh) (.ref t.bx)=some false
 zV:t.bh≠t.bx
 xJ:kitOne K (.ref t.bh) (.ref t.aR)=some false
 xK:t.bh≠t.aR
 zW:kitOne K (.ref t.bh) (.ref t.bh)=some true
 vL:kitOne K (.ref t.bh) (.ref t.aK)=some false
 nF:t.bh≠t.aK
 rR:kitOne K (.ref t.bh) (.type "ValueError")=some true
 avM:Pb K t.aK
 qb:kitOne K (.ref t.aK) (.ref t.bD)=some true
 qg:t.aK≠t.bD
 vM:kitOne K (.ref t.aK) (.ref t.bB)=some false
 vN:t.aK≠t.bB
 vO:kitOne K (.ref t.aK) (.ref t.bx)=some false
 vP:t.aK≠t.bx
 t7:kitOne K (.ref t.aK) (.ref t.aR)=some false
 t8:t.aK≠t.aR
 vQ:kitOne K (.ref t.aK) (.ref t.bh)=some false
 vR:t.aK≠t.bh
 rT:kitOne K (.ref t.aK) (.ref t.aK)=some true
 pI:kitOne K (.ref t.aK) (.type "ValueError")=some true
 dI:Cls K t.bQ
 afJ:Mk K t.bQ t.iR
 axy:mg "Desk"=some (.ref t.bQ)
 d9:iC K t.bQ "copies"
 jL:iC K t.bQ "wish"
 aW:Cls K t.aD
 Cq:Mk K t.aD t.dR
 ajc:mg "PageLoans"=some (.ref t.aD)
 gG:iC K t.aD "page"
 fL:iC K t.aD "number"
 cB:iC K t.aD "writer"
 dh:iC K t.aD "readers"
 dq:iC K t.aD "asked"
 eV:iC K t.aD "awaited"
 alK:Cls K t.iD
 afK:Mk K t.iD t.iY
 axz:mg "Hall"=some (.ref t.iD)
 rD:iC K t.iD "pages"
 dw:Cls K t.bF
 afL:Mk K t.bF t.jb
 axA:mg "Town"=some (.ref t.bF)
 jM:iC K t.bF "page_count"
 ur:iC K t.bF "hall"
 gf:iC K t.bF "desks"
 fY:iC K t.bF "roads_up"
 fZ:iC K t.bF "roads_down"
 rW:iC K t.bF "row"
 aCn:jO K "_wall" "_wall" ana t.BP t.ai8
 aCo:Binds K t.ai8 ["k"] []
 aCp:mg "_wall"=some (.ref t.BP)
 PB:jO K "ask_letter" "ask_letter" Bp t.iQ t.yG
 afM:Binds K t.yG ["page","right"] []
 afN:mg "ask_letter"=some (.ref t.iQ)
 DQ:jO K "answer_letter" "answer_letter" sV t.fO t.qL
 WT:Binds K t.qL ["page","number"] []
 WW:mg "answer_letter"=some (.ref t.fO)
 Kl:jO K "gave_letter" "gave_letter" yr t.gW t.vo
 acL:Binds K t.vo ["page","number"] []
 acM:mg "gave_letter"=some (.ref t.gW)
 Km:jO K "lend_letter" "lend_letter" yt t.gY t.vp
 acN:Binds K t.vp ["page","right","number"] []
 acO:mg "lend_letter"=some (.ref t.gY)
 yO:jO K "back_letter" "back_letter" yu t.gZ t.vq
 Ko:Binds K t.vq ["page","right"] []
 Kq:mg "back_letter"=some (.ref t.gZ)
 Hw:jO K "is_enough" "is_enough" G8 t.jx t.BR
 Vt:Binds K t.BR ["right","needed"] []
 Vu:mg "is_enough"=some (.ref t.jx)
 vV:jO K "right_needed" "right_needed" uX t.gn t.tu
 Hx:Binds K t.tu ["wish"] []
 Hy:mg "right_needed"=some (.ref t.gn)
 ajd:jO K "__init__" "Desk.__init__" G9 t.iR t.BV
 aje:Binds K t.BV ["self"] []
 WX:jO K "right_of" "Desk.right_of" sW t.eG t.qM
 jR:Binds K t.qM ["self","page"] []
 jt:Meth K t.bQ "right_of" t.eG
 afO:jO K "waits" "Desk.waits" Bq t.gQ t.yH
 PJ:Binds K t.yH ["self"] []
 Kr:Meth K t.bQ "waits" t.gQ
 ajf:jO K "want" "Desk.want" Ha t.iT t.BW
 Vv:Binds K t.BW ["self","wish"] []
 PK:Meth K t.bQ "want" t.iT
 ajg:jO K "take" "Desk.take" Hc t.iU t.BX
 ajh:Binds K t.BX ["self","letter"] []
 afP:Meth K t.bQ "take" t.iU
 aji:jO K "rest" "Desk.rest" Hd t.iV t.BZ
 ajj:Binds K t.BZ ["self","page"] []
 afQ:Meth K t.bQ "rest" t.iV
 acP:jO K "may_do" "Desk.may_do" yw t.f9 t.vy
 Ks:Binds K t.vy ["self","wish"] []
 Hz:Meth K t.bQ "may_do" t.f9
 aam:jO K "do_wish" "Desk.do_wish" uY t.fB t.tD
 HB:Binds K t.tD ["self","wish"] []
 DR:Meth K t.bQ "do_wish" t.fB
 Tt:jO K "take_loan" "Desk.take_loan" qH t.dO t.pA
 Tu:Binds K t.pA ["self","page","right","number"] []
 PL:Meth K t.bQ "take_loan" t.dO
 aan:jO K "go_down" "Desk.go_down" uZ t.fC t.tE
 aao:Binds K t.tE ["self","page","right"] []
 WY:Meth K t.bQ "go_down" t.fC
 Fe:jO K "number_to_tell" "Desk.number_to_tell" jV t.cN t.jH
 qi:Binds K t.jH ["self","page"] []
 pJ:Meth K t.bQ "number_to_tell" t.cN
 ajk:jO K "hold" "Desk.hold" Hf t.iW t.Ca
 xM:Binds K t.Ca ["self","page","right","number"] []
 ux:Meth K t.bQ "hold" t.iW
 Tw:jO K "__init__" "PageLoans.__init__" qI t.dR t.pB
 Tz:Binds K t.pB ["self","page","number"] []
 HD:jO K "take_ask" "PageLoans.take_ask" lD t.cT t.jY
 HH:Binds K t.jY ["self","desk","right"] []
 Ff:Meth K t.aD "take_ask" t.cT
 zX:jO K "take_answer" "PageLoans.take_answer" jq t.cF t.jm
 zY:Binds K t.jm ["self","number"] []
 yP:Meth K t.aD "take_answer" t.cF
 Fg:jO K "take_gave" "PageLoans.take_gave" jW t.cO t.jJ
 Fi:Binds K t.jJ ["self","desk","number"] []
 Cr:Meth K t.aD "take_gave" t.cO
 PN:jO K "serve" "PageLoans.serve" oW t.dC t.m7
 xN:Binds K t.m7 ["self"] []
 vW:Meth K t.aD "serve" t.dC
 vX:jO K "bids_for_first" "PageLoans.bids_for_first" iu t.cg t.gU
 vY:Binds K t.gU ["self"] []
 uy:Meth K t.aD "bids_for_first" t.cg
 TJ:jO K "lend" "PageLoans.lend" qJ t.dU t.pC
 zZ:Binds K t.pC ["self"] []
 xO:Meth K t.aD "lend" t.dU
 Fj:jO K "let_write" "PageLoans.let_write" jX t.cP t.jK
 Fl:Binds K t.jK ["self","desk"] []
 Cu:Meth K t.aD "let_write" t.cP
 HJ:jO K "let_read" "PageLoans.let_read" lE t.cU t.jZ
 HN:Binds K t.jZ ["self","desk"] []
 Fo:Meth K t.aD "let_read" t.cU
 ajl:jO K "__init__" "Hall.__init__" Hg t.iY t.Cd
 ajm:Binds K t.Cd ["self","numbers"] []
 ajn:jO K "take" "Hall.take" Hh t.iZ t.Ce
 ajo:Binds K t.Ce ["self","desk","letter"] []
 afR:Meth K t.iD "take" t.iZ
 ajp:jO K "__init__" "Town.__init__" Hi t.jb t.Cg
 ajq:Binds K t.Cg ["self","count","numbers"] []
 aap:jO K "do_deed" "Town.do_deed" u0 t.fD t.tG
 aaq:Binds K t.tG ["self","deed"] []
 W0:Meth K t.bF "do_deed" t.fD
 PQ:jO K "check_desk" "Town.check_desk" oX t.dD t.m8
 PX:Binds K t.m8 ["self","desk"] []
 Mu:Meth K t.bF "check_desk" t.dD
 P0:jO K "check_page" "Town.check_page" oY t.dF t.m9
 Qa:Binds K t.m9 ["self","page"] []
 Mw:Meth K t.bF "check_page" t.dF
 aar:jO K "look_at" "Town.look_at" u6 t.fG t.tH
 aas:Binds K t.tH ["self","desk","page"] []
 W2:Meth K t.bF "look_at" t.fG
 acQ:jO K "put_on" "Town.put_on" yx t.gb t.vA
 acR:Binds K t.vA ["self","desk","page","number"] []
 aat:Meth K t.bF "put_on" t.gb
 aau:jO K "give_up" "Town.give_up" u9 t.fH t.tK
 aav:Binds K t.tK ["self","desk","page"] []
 W3:Meth K t.bF "give_up" t.fH
 W4:jO K "bring_up" "Town.bring_up" sX t.eN t.qN
 W5:Binds K t.qN ["self","desk"] []
 TQ:Meth K t.bF "bring_up" t.eN
 Qc:jO K "bring_down" "Town.bring_down" oZ t.dG t.nj
 Qd:Binds K t.nj ["self","desk"] []
 Mx:Meth K t.bF "bring_down" t.dG
 J7:jO K "first_letter" "Town.first_letter" mj t.cY t.lG
 uc:Binds K t.lG ["self","road"] []
 rY:Meth K t.bF "first_letter" t.cY
 TV:jO K "carry_out" "Town.carry_out" qK t.dW t.pD
 qU:Binds K t.pD ["self","desk","told"] []
 pK:Meth K t.bF "carry_out" t.dW
 anb:jO K "all_rights" "Town.all_rights" xf t.dY t.vB
 anc:Binds K t.vB ["self"] []
 alL:Meth K t.bF "all_rights" t.dY
 aon:jO K "rights_of" "Town.rights_of" zF t.eQ t.xm
 aoo:Binds K t.xm ["self","desk"] []
 ane:Meth K t.bF "rights_of" t.eQ
 HQ:jO K "waiting_desks" "Town.waiting_desks" lF t.cV t.j0
 HR:Binds K t.j0 ["self"] []
 Fp:Meth K t.bF "waiting_desks" t.cV
 Vw:jO K "answer_of" "answer_of" Hj t.jy t.Ci
 ajr:Binds K t.Ci ["town","deed"] []
 ajs:mg "answer_of"=some (.ref t.jy)
 Cv:jO K "town_after" "town_after" Br t.jc t.yI
 Qe:Binds K t.yI ["count","numbers","deeds"] []
 Qf:mg "town_after"=some (.ref t.jc)
 ajt:jO K "row_of" "row_of" aab t.rM t.Tq
 aqr:Binds K t.Tq ["count","numbers","deeds"] []
 aqs:mg "row_of"=some (.ref t.rM)
 Qg:jO K "left_after" "left_after" Bs t.jd t.yJ
 afS:Binds K t.yJ ["count","numbers","deeds"] []
 afT:mg "left_after"=some (.ref t.jd)
 TX:jO K "_law_whole" "_law_whole" Ti t.nU t.Ms
 aeO:Binds K t.Ms ["_law_found"] []
 aeP:mg "_law_whole"=some (.ref t.nU)
 TY:jO K "_law_at" "_law_at" alH t.Hu t.afI
 aaw:Binds K t.afI ["_law_script","_law_k"] []
 aax:mg "_law_at"=some (.ref t.Hu)
 aay:jO K "_law_same" "_law_same" aac t.rN t.Tr
 aju:Binds K t.Tr ["_law_found","_law_due"] []
 ajv:mg "_law_same"=some (.ref t.rN)
 Vx:jO K "_law_town_of" "_law_town_of" Hk t.jz t.Cj
 ajw:Binds K t.Cj ["_law_count","_law_numbers"] []
 ajx:mg "_law_town_of"=some (.ref t.jz)
 anf:jO K "_law_bid" "_law_bid" afz t.xn t.aai
 atc:Binds K t.aai ["_law_town","_law_page"] []
 atd:mg "_law_bid"=some (.ref t.xn)
 Cw:jO K "_law_lend_out" "_law_lend_out" Bu t.je t.yK
 Qh:Binds K t.yK ["_law_town","_law_page"] []
 Qi:mg "_law_lend_out"=some (.ref t.je)
 T6:jO K "_law_serve" "_law_serve" Tj t.nY t.Mt
 aeQ:Binds K t.Mt ["_law_town","_law_page"] []
 aeR:mg "_law_serve"=some (.ref t.nY)
 Vy:jO K "_law_came_up" "_law_came_up" Hl t.jA t.Ck
 ajy:Binds K t.Ck ["_law_town","_law_desk"] []
 ajz:mg "_law_came_up"=some (.ref t.jA)
 My:jO K "_law_enough" "_law_enough" Mp t.lH t.Hv
 aaz:Binds K t.Hv ["_law_right","_law_wish"] []
 aaA:mg "_law_enough"=some (.ref t.lH)
 yQ:jO K "_law_fulfilled" "_law_fulfilled" yz t.g8 t.vC
 Ku:Binds K t.vC ["_law_town","_law_desk","_law_wish"] []
 Kv:mg "_law_fulfilled"=some (.ref t.g8)
 Kw:jO K "_law_came_down" "_law_came_down" yC t.ie t.vG
 acS:Binds K t.vG ["_law_town","_law_desk"] []
 acT:mg "_law_came_down"=some (.ref t.ie)
 HS:jO K "_law_refusal_of" "_law_refusal_of" vd t.gq t.tL
 aaB:Binds K t.tL ["_law_town","_law_deed"] []
 aaC:mg "_law_refusal_of"=some (.ref t.gq)
 Cy:jO K "_law_answered" "_law_answered" Bv t.jf t.yL
 Qj:Binds K t.yL ["_law_town","_law_deed"] []
 Qk:mg "_law_answered"=some (.ref t.jf)
 HW:jO K "_law_numbers_of" "_law_numbers_of" vf t.gA t.tM
 aaD:Binds K t.tM ["_law_cell","_law_pages"] []
 aaE:mg "_law_numbers_of"=some (.ref t.gA)
 DX:jO K "_law_first_deeds" "_law_first_deeds" sY t.fP t.qO
 W6:Binds K t.qO ["_law_count","_law_cell"] []
 W7:mg "_law_first_deeds"=some (.ref t.fP)
 Ql:jO K "_law_asked_of" "_law_asked_of" Bw t.jg t.yM
 afU:Binds K t.yM ["_law_cells","_law_count","_law_pages"] []
 afV:mg "_law_asked_of"=some (.ref t.jg)
 HX:jO K "_law_row_walked" "_law_row_walked" vg t.gB t.tO
 aaF:Binds K t.tO ["_law_found","_law_count","_law_numbers"] []
 aaG:mg "_law_row_walked"=some (.ref t.gB)
 Ky:jO K "_law_wishes_of" "_law_wishes_of" yD t.ig t.vH
 acU:Binds K t.vH ["_law_asked","_law_told","_law_desk"] []
 acV:mg "_law_wishes_of"=some (.ref t.ig)
 Vz:jO K "_law_done_by" "_law_done_by" Hm t.jB t.Cm
 ajA:Binds K t.Cm ["_law_found","_law_desk"] []
 ajB:mg "_law_done_by"=some (.ref t.jB)
 Cz:jO K "_law_roads_of" "_law_roads_of" Bx t.jh t.yN
 Qm:Binds K t.yN ["_law_town"] []
 Qn:mg "_law_roads_of"=some (.ref t.jh)
 VB:jO K "_law_drained" "_law_drained" Hn t.jC t.Cp
 ajC:Binds K t.Cp ["_law_town","_law_script"] []
 ajD:mg "_law_drained"=some (.ref t.jC)
 aAw:jO K "law" "law" aqq t.aaj t.alJ
 aFv:Binds K t.alJ ["_law_script"] []
 aFw:mg "law"=some (.ref t.aaj)
 T7:∃u,mg "NONE"=some (.str "none" u)
 alM:∃u,mg "READ"=some (.str "read" u)
 Zf:∃u,mg "WRITE"=some (.str "write" u)
 ang:mg "RANKS"=some (.ref t.uq)
 anh:KDict K w t.uq [("none",V.int 0),("read",V.int 1),("write",V.int 2)]
 aqt:∃u,mg "DONE"=some (.str "done" u)
 ani:∃u,mg "WAITS"=some (.str "waits" u)
 pL:mg "len"=none
 VD:mg "enumerate"=none
 jN:mg "range"=none
 dH:mg "isinstance"=none
 Qo:mg "int"=none
 axB:mg "bool"=none
 yR:mg "list"=none
 Qp:mg "tuple"=none
 anj:mg "str"=none
theorem ajE(r:Rt):([("none",V.int 0),("read",V.int 1),("write",V.int 2)]:List (Str×V)).lookup r.s=some (.int r.k):=by cases r<;>rfl
theorem aop{kvs:List (Key×V)}{k j:Key}:gj (zu kvs k) j=if j=k then none else gj kvs j:=by
 induction kvs with| nil=>simp[zu,gj]| cons p r I=>by_cases e:p.1=k;{rw[an9 e,I];by_cases F:j=k;{rw[if_pos F,if_pos F]};{rw[if_neg F,if_neg F];have:p.1≠j:=λz=>F (z.symm.trans e);simp[gj,find?_cons,this]}};{rw[aoa e];by_cases F:j=k;{rw[if_pos F];subst F;rw[if_pos rfl]at I;simp only[gj,find?_cons,e,decide_false]at I ⊢;exact I};{rw[if_neg F]at I ⊢;by_cases J:p.1=j;{simp[gj,find?_cons,J]};{simp only[gj,find?_cons,J,decide_false]at I ⊢;exact I}}}
section
variable{P:Program}{w:World}{K:Frag}{mg:Str->Option Value}{base:Heap}{t:Ht}
theorem acW(T:Txt K w mg t):cX P w K mg base mW 1 t.iQ t.yG ["page","right"] (aiQ "ask"):=by
 refine T.PB.ok acJ (λvs H Q E h=>?_) (λz A outer s H vs Q E I h=>?_);{obtain⟨x,y,rfl,_⟩:=h;rfl}
 ·obtain⟨x,y,rfl,k⟩:=h;refine⟨_,(aA (aZ (b7 (aa aC (aa (pv 0) (aa (pv 1) ak)))))),?_⟩;try dsimp only[dj,Cx.kE]
  exact⟨_,rfl,_,rfl,Zh,λa F=>k a F⟩
theorem T8(T:Txt K w mg t):cX P w K mg base mW 1 t.fO t.qL ["page","number"] (aiQ "answer"):=by
 refine T.DQ.ok Tn (λvs H Q E h=>?_) (λz A outer s H vs Q E I h=>?_);{obtain⟨x,y,rfl,_⟩:=h;rfl}
 ·obtain⟨x,y,rfl,k⟩:=h;refine⟨_,(aA (aZ (b7 (aa aC (aa (pv 0) (aa (pv 1) ak)))))),?_⟩;try dsimp only[dj,Cx.kE]
  exact⟨_,rfl,_,rfl,Zh,λa F=>k a F⟩
theorem aaH(T:Txt K w mg t):cX P w K mg base mW 1 t.gW t.vo ["page","number"] (aiQ "gave"):=by
 refine T.Kl.ok aad (λvs H Q E h=>?_) (λz A outer s H vs Q E I h=>?_);{obtain⟨x,y,rfl,_⟩:=h;rfl}
 ·obtain⟨x,y,rfl,k⟩:=h;refine⟨_,(aA (aZ (b7 (aa aC (aa (pv 0) (aa (pv 1) ak)))))),?_⟩;try dsimp only[dj,Cx.kE]
  exact⟨_,rfl,_,rfl,Zh,λa F=>k a F⟩
theorem Qq(T:Txt K w mg t):cX P w K mg base mW 1 t.jx t.BR ["right","needed"] ap2:=by
 refine T.Hw.ok afA (λvs H Q E h=>?_) (λz A outer s H vs Q E F h=>?_);{obtain⟨x,y,rfl,_⟩:=h;rfl}
 ·obtain⟨r,n,rfl,k⟩:=h;refine⟨_,(aA (aZ (oA Oz (amO (by rfl) T.ang T.anh (pv 0) (λ_ _=>rfl)) (amO (by rfl) T.ang T.anh (pv 1) (λ_ _=>rfl)) (aY _)))),?_⟩;try dsimp only[dj,Cx.kE]
  exact⟨_,rfl,_,_,rfl,ajE r,_,rfl,_,_,rfl,ajE n,_,_,rfl,rfl,k⟩
theorem DY(T:Txt K w mg t):cX P w K mg base mW 1 t.gn t.tu ["wish"] (awV K):=by
 refine T.vV.ok WQ (λvs H Q E h=>?_) (λF A outer s H vs Q E I h=>?_);{obtain⟨x,y,rfl,_⟩:=h;rfl}
 ·obtain⟨a,w,rfl,z,k⟩:=h;refine⟨_,(aA (aZ (rE (aP cQ (aN bC (pv 0) aB (λ_ _=>rfl)) aC (aY _)) (iJ (by rfl) T.Zf) (iJ (by rfl) T.alM)))),?_⟩;try dsimp only[dj,Cx.kE]
  cases w with| look p=>refine zt rfl (cW.of z) rfl ⟨rfl,_,rfl,?_⟩;rw[du ∅];exact wD k| put p n=>refine zt rfl (cW.of z) rfl ⟨rfl,_,rfl,?_⟩;rw[fQ];exact p6 k
theorem afW(T:Txt K w mg t):cX P w K mg base mW 1 t.iR t.BV ["self"] (awW t.bQ):=by
 refine T.ajd.ok afB (λvs H Q E h=>?_) (λL A outer s H vs Q E O h=>?_);{obtain⟨x,y,rfl,_⟩:=h;rfl}
 ·obtain⟨p,dx,rfl,hp,k⟩:=h;refine⟨_,(ao (gO (pv 0) apM (by rfl))
   (aA (gO (pv 0) uO (by rfl)))),?_⟩
  try dsimp only[dj,Cx.kE]
  show let z:L2.TS:=_;let F:L2.TS:=_;let I:Ends:=_;(aV z (F)) I _ _;intro z F I;intro d hd;have npd:p≠d:=aF hp hd;refine⟨_,rfl,p,t.bQ,dx,[],rfl,(by rw[az npd];exact hp),T.dI,T.d9,(by show 0<1000;decide),_,rfl,p,t.bQ,dx,_,rfl,aj,T.dI,T.jL,(by show 1<1000;decide),?_⟩;refine k d _ hd ⟨⟨dx,.non,aj,rfl⟩,⟨[],by rw[az npd.symm,az npd.symm,aj],Nat.le_refl _,λn=>rfl⟩⟩ λb o e J=>?_;rw[az J,az J,az (aF e hd)];exact e
theorem ju(T:Txt K w mg t):cX P w K mg base mW 1 t.eG t.qM ["self","page"] (asJ t.bQ):=by
 refine T.WX.ok Tp (λvs H Q E h=>?_) (λL A outer s H vs Q E O h=>?_);{obtain⟨p,d,S,c,n,rfl,_⟩:=h;rfl}
 ·obtain⟨p,d,S,c,n,rfl,W,k⟩:=h;have F:=kY O;obtain⟨⟨dx,v,h1,_⟩,⟨kvs,h2,h3,Y⟩⟩:=id W;refine⟨_,(aA (aZ (rE (yo (awD F (pv 1) (cM (pv 0) (by rfl)))) (aN bC (bL F (cM (pv 0) (by rfl)) (pv 1) (λ_ _=>rfl)) aB (λ_ _=>rfl)) (iJ (by rfl) T.T7)))),?_⟩;try dsimp only[dj,Cx.kE]
  refine⟨_,rfl,_,rfl,p,_,dx,_,_,rfl,h1,T.dI,T.d9,kZ _ _,d,_,rfl,J5.k (k:=Sum.inl n) h2,_,rfl,?_⟩;have z:=Y n;unfold uT at z;split at z;{rename_i e;rw[z];refine wD ?_;rw[e]at k;exact k};{rename_i e;obtain⟨I,J,Z⟩:=z;rw[J];refine p6 ?_;exact⟨_,rfl,p,_,dx,_,_,rfl,h1,T.dI,T.d9,kZ _ _,_,rfl,d,.ref I,rfl,(by rw[<-J];exact J5.k (k:=Sum.inl n) h2),I,_,0,_,rfl,rfl,cW.of Z,rfl,k⟩}
theorem W.at1(w:W):S6 w.vs 1=some (.int w.pg):=by cases w<;>rfl
theorem W.at0(w:W):S6 w.vs 0=some (.str w.tag):=by cases w<;>rfl
theorem HY(T:Txt K w mg t):cX P w K mg base mW 2 t.f9 t.vy ["self","wish"] (aAi t.bQ):=by
 refine T.acP.ok aag (λvs H Q E h=>?_) (λJ A outer s H vs Q E z h=>?_);{obtain⟨p,d,S,c,a,w,rfl,_⟩:=h;rfl}
 ·obtain⟨p,d,S,c,a,w,rfl,F,I,k⟩:=h;have L:=kY z;obtain⟨⟨dx,v,h1,_⟩,_⟩:=id F;refine⟨_,(aA (aZ (bZ (Qq T) (z.mono (by decide):bV 1 _) (by rfl) T.Vu T.Hw.kp T.Vt .nil bW (aa (cI (pv 0) T.dI T.jt (ju T) (z.mono (by decide):bV 1 _) T.jR .nil bW (aa (aN bC (pv 1) aB (λ_ _=>rfl)) ak)) (aa (bZ (DY T) (z.mono (by decide):bV 1 _) (by rfl) T.Hy T.vV.kp T.Hx .nil bW (aa (pv 1) ak)) ak))))),?_⟩;try dsimp only[dj,Cx.kE]
  exact⟨_,rfl,p,dx,_,rfl,h1,fj _ _ ∅ ∅,zt rfl (cW.of I) (W.at1 w) ⟨p,d,S,c,w.pg,rfl,F,_,rfl,a,w,rfl,I,S.rt w.pg,w.need,rfl,k⟩⟩
theorem pM(T:Txt K w mg t):cX P w K mg base mW 2 t.cN t.jH ["self","page"] (awX t.bQ):=by
 refine T.Fe.ok By (λvs H Q E h=>?_) (λO A outer s H vs Q E I h=>?_);{obtain⟨p,d,S,c,n,rfl,_⟩:=h;rfl}
 ·obtain⟨p,d,S,c,n,rfl,J,k⟩:=h;have W:=kY I;obtain⟨⟨dx,v,h1,_⟩,⟨kvs,h2,h3,Y⟩⟩:=id J;refine⟨_,(aA (aZ (rE (aP cQ (cI (pv 0) T.dI T.jt (ju T) (I.mono (by decide):bV 1 _) T.jR .nil bW (aa (pv 1) ak)) (iJ (by rfl) T.Zf) (aY _)) (aN bC (bL W (cM (pv 0) (by rfl)) (pv 1) (λ_ _=>rfl)) aB (λ_ _=>rfl)) uO))),?_⟩;try dsimp only[dj,Cx.kE]
  refine⟨_,rfl,p,dx,_,rfl,h1,fj _ _ ∅ ∅,_,rfl,p,d,S,c,n,rfl,J,rfl,_,rfl,?_⟩;unfold DS.tell at k;by_cases e:S.rt n=.wr;{have F:=Y n;unfold uT at F;rw[e,if_neg ⟨⟩]at F;rw[if_pos e]at k;rw[e];obtain⟨L,Z,e2⟩:=F;refine p6 ?_;exact⟨_,rfl,p,_,dx,_,_,rfl,h1,T.dI,T.d9,kZ _ _,_,rfl,d,.ref L,rfl,(by rw[<-Z];exact J5.k (k:=Sum.inl n) h2),L,_,1,_,rfl,rfl,cW.of e2,rfl,k⟩};{rw[if_neg e]at k;exact aL (p7 (x:="write") (q:=.wr) rfl e) k}
theorem uz(T:Txt K w mg t):cX P w K mg base mW 1 t.iW t.Ca ["self","page","right","number"] (awY t.bQ):=by
 refine T.ajk.ok afE (λvs H Q E h=>?_) (λao A outer s H vs Q E hr h=>?_);{obtain⟨p,d,S,c,n,r,k,v,rfl,_⟩:=h;rfl}
 ·obtain⟨p,d,S,c,n,r,z,v,rfl,DA,hc,hv,k⟩:=h;have hu:=kY hr;have npd:=DA.npd;obtain⟨⟨dx,u,h1,hw⟩,⟨kvs,h2,h3,h4⟩⟩:=id DA;refine⟨_,(aA (bY (aP cQ (pv 2) (iJ (by rfl) T.T7) (aY _)) (aA (bN (apO (cM (pv 0) (by rfl)) (pv 1) uO ⟨rfl,rfl,rfl,rfl⟩))) (aA (mK hu (cM (pv 0) (by rfl)) (pv 1) (b7 (aa (pv 2) (aa (pv 3) ak))) (by rfl))))),?_⟩;try dsimp only[dj,Cx.kE]
  show let Z1:L2.TS:=_;let Z2:L2.TS:=_;let Z3:L2.TS:=cR _ Z1 Z2;let D0:Ends:=_;(Z3) D0 _ _;intro Z1 Z2 Z3 D0;refine⟨_,rfl,rfl,_,rfl,?_⟩;by_cases e:r=.no;{subst e;refine p6 ?_;have L:∀F,F.length<=c->(∀j:Int,gj F (Sum.inl j:Key)=if(Sum.inl j:Key)=Sum.inl n then none else gj kvs (Sum.inl j:Key))->Q V.non (upd H d (.dK F)):=λF hl O=>by{have ts:cz H (upd H d (.dK F)):=λb xs e=>by{rw[az (jP e h2 ⟨⟩)];exact e};refine k _ ⟨⟨dx,u,by rw[az npd];exact h1,hw.aU ts⟩,⟨F,aj,Nat.le_succ_of_le hl,λj=>?_⟩⟩ λb o e hp hd=>by{rw[az hd];exact e};rw[O j];by_cases I:j=n;{subst I;rw[DS.rB,DS.wM,if_pos rfl];unfold uT;rw[if_pos rfl]};{have:=(h4 j).aU ts;rw[if_neg (λz=>I (Sum.inl.inj z)),DS.rH _ _ _ I,DS.rJ _ _ _ I];exact this}};refine⟨_,rfl,p,_,dx,_,_,rfl,h1,T.dI,T.d9,kZ _ _,d,rfl,.inl ⟨kvs,.inl h2⟩,_,rfl,kvs,Sum.inl n,h2,rfl,λv' W=>?_,λhn=>?_⟩;{exact L _ (Nat.le_trans (aiD _ _) h3) λj=>aop};{have q:=L kvs h3 λj=>by{by_cases I:(Sum.inl j:Key)=Sum.inl n;{rw[if_pos I,I];exact hn};{rw[if_neg I]}};have eq:upd H d (.dK kvs)=H:=by{funext b;by_cases hb:b=d;{rw[hb,aj,h2]};{rw[az hb]}};rw[eq]at q;exact q}};{refine aL (p7 (x:="none") (q:=.no) rfl e) ?_;have W:v=.int z:=hv.resolve_left e;subst W;refine⟨_,rfl,_,rfl,sS,λY J=>?_⟩;have Z:d≠Y:=aF h2 J;have ac:p≠Y:=aF h1 J;refine⟨_,rfl,p,_,dx,_,_,rfl,(by rw[az ac];exact h1),T.dI,T.d9,kZ _ _,_,rfl,d,_,rfl,alo.k (k:=Sum.inl n) (by rw[az Z];exact h2) (Nat.lt_of_le_of_lt (Nat.le_trans h3 hc) (by decide)),?_⟩;have ts:cz H (upd (upd H Y (.tup [.str r.s,.int z])) d (.dK (putK kvs (Sum.inl n) (.ref Y)))):=λb xs e=>by{rw[az (jP e h2 ⟨⟩),az (aF e J)];exact e};refine k _ ⟨⟨dx,u,by rw[az npd,az ac];exact h1,hw.aU ts⟩,⟨_,aj,Nat.le_trans (wI _ _ _) (Nat.succ_le_succ h3),λj=>?_⟩⟩ λb o e hp hd=>by{rw[az hd,az (aF e J)];exact e};rw[apK];by_cases I:j=n;{subst I;rw[DS.rB,DS.wM,if_pos rfl];unfold uT;rw[if_neg e];exact⟨Y,rfl,by rw[az Z.symm,aj]⟩};{have:=(h4 j).aU ts;rw[if_neg (λz=>I (Sum.inl.inj z)),DS.rH _ _ _ I,DS.rJ _ _ _ I];exact this}}
theorem cC.new{C:Addr}{H:Hp}{p d a:Addr}{o:HO}{S:DS}{c:Nat}(D:cC C H p d S c)(h:H a=none):cC C (upd H a o) p d S c:=D.same (aq h)
theorem cC.copy{C:Addr}{H:Hp}{p d:Addr}{S:DS}{c:Nat}(D:cC C H p d S c){n:Int}(h:S.rt n≠.no):∃kvs z,H d=some (.dK kvs)/\gj kvs (Sum.inl n:Key)=some (.ref z)/\H z=some (.tup [.str (S.rt n).s,.int (S.nm n)]):=by
 obtain⟨_,⟨kvs,h2,_,I⟩⟩:=D;have F:=I n;unfold uT at F;rw[if_neg h]at F;obtain⟨z,J,L⟩:=F;exact⟨kvs,z,h2,J,L⟩
theorem DS.aAx{S:DS}{w:W}(h:S.ok w):S.rt w.pg≠.no:=λe=>by
 unfold DS.ok at h
 rw[e]at h
 cases w<;>simp[W.need,Rt.k]at h
theorem DS.ate(S:DS)(w:W)(q:Int):(S.done w).rt q=S.rt q:=by
 cases w with| look p=>rfl| put p n=>show(if q=p then S.rt p else S.rt q)=S.rt q;split<;>simp_all
theorem DS.atf(S:DS)(w:W):(S.done w).nm w.pg=S.num w:=by
 cases w with| look p=>rfl| put p n=>show(if p=p then n else S.nm p)=n;rw[if_pos rfl]
theorem Ea(T:Txt K w mg t):cX P w K mg base mW 2 t.fB t.tD ["self","wish"] (aDE t.bQ):=by
 refine T.aam.ok DG (λvs H Q E h=>?_) (λai A outer s H vs Q E O h=>?_);{obtain⟨p,d,S,c,a,w,rfl,_⟩:=h;rfl}
 ·obtain⟨p,d,S,c,a,w,rfl,z,hc,J,hok,k⟩:=h;have L:=kY O;obtain⟨⟨dx,v,h1,_⟩,_⟩:=id z;refine⟨_,(ao (bu (i:=2) DG.nd rfl (Or.inl rfl) (aN bC (pv 1) aB (λ_ _=>rfl)))
   (ao (bY (aP cQ (aN bC (pv 1) aB (λ_ _=>rfl)) aC (aY _)) (aA (bN (cI (pv 0) T.dI T.ux (uz T) (O.mono (by decide):bV 1 _) T.xM .nil bW (aa (pv 2) (aa (cI (pv 0) T.dI T.jt (ju T) (O.mono (by decide):bV 1 _) T.jR .nil bW (aa (pv 2) ak)) (aa (aN bC (pv 1) aB (λ_ _=>rfl)) ak)))))) bw)
   (aA (aZ (b7 (aa (aN bC (pv 1) aB (λ_ _=>rfl)) (aa (pv 2) (aa (aN bC (bL L (cM (pv 0) (by rfl)) (pv 2) (λ_ _=>rfl)) aB (λ_ _=>rfl)) ak)))))))),?_⟩
  try dsimp only[dj,Cx.kE]
  show let Z1:L2.TS:=_;let Z2:L2.TS:=_;let Z3:L2.TS:=cR _ Z2 bM;let Z4:L2.TS:=_;let D0:Ends:=_;(aV Z1 (aV Z3 (Z4))) D0 _ _;intro Z1 Z2 Z3 Z4 D0;refine zt rfl (cW.of J) (W.at1 w) (zt rfl (cW.of J) (W.at0 w) ⟨rfl,_,rfl,?_⟩);have F:∀H1:Hp,cC t.bQ H1 p d (S.done w) (c+1)->DF H H1 p d->
   (awk (apA (nO (Zn (ali K) (jE 1) (tC (.int 0))) (nO (jE 2) (nO (Zn (ali K) (Zz (afl K (jE 0) "copies") (jE 2)) (tC (.int 1))) J4)))))
     {nx:=λ_ H'=>Q .non H',rt:=Q} [some (.ref p),some (.ref a),some (.int w.pg)] H1:=λH1 I f1=>by
   have Y:=(f1.tups z) a _ J
   obtain⟨⟨zq,v1,g1,_⟩,_⟩:=id I
   have Z:(S.done w).rt w.pg≠.no:=by rw[DS.ate];exact DS.aAx hok
   obtain⟨kvs,tt,h2,e1,e2⟩:=I.copy Z
   refine zt rfl (cW.of Y) (W.at0 w) ⟨_,rfl,_,rfl,p,_,zq,_,_,rfl,g1,T.dI,T.d9,kZ _ _,_,rfl,d,.ref tt,rfl,(by rw[<-e1];exact J5.k (k:=Sum.inl w.pg) h2),tt,_,1,.int (S.num w),rfl,rfl,cW.of e2,(by rw[DS.atf];rfl),Zh,λu L=>?_⟩
   exact k u _ (I.new L) (f1.trans (DF.new L)) aj
  cases w with| look q=>refine aL (du (show("look":Str)≠"put" by decide +kernel)) ?_;exact F H (z.mono (le_succ _)) (DF.refl _ _ _)| put q n=>refine bH fQ ?_;refine⟨_,rfl,p,dx,_,rfl,h1,fj _ _ ∅ ∅,_,rfl,_,rfl,p,dx,_,rfl,h1,fj _ _ ∅ ∅,_,rfl,p,d,S,c,q,rfl,z,zt rfl (cW.of J) rfl ⟨p,d,S,c,q,S.rt q,n,.int n,rfl,z,hc,.inr rfl,λH1 I f1=>?_⟩⟩;exact F H1 I f1
theorem Qs(T:Txt K w mg t):cX P w K mg base mW 3 t.dO t.pA ["self","page","right","number"] (awZ t.bQ):=by
 refine T.Tt.ok xg (λvs H Q E h=>?_) (λay A outer s H vs Q E hr h=>?_);{obtain⟨p,d,S,c,n,r,z,rfl,_⟩:=h;rfl}
 ·obtain⟨p,d,S,c,n,r,z,rfl,DA,hc,k⟩:=h;have hu:=kY hr;obtain⟨⟨dx,v,h1,_⟩,_⟩:=id DA;refine⟨_,(ao (bN (cI (pv 0) T.dI T.ux (uz T) (hr.mono (by decide):bV 1 _) T.xM .nil bW (aa (pv 1) (aa (pv 2) (aa (pv 3) ak)))))
   (ao (bu (i:=4) xg.nd rfl (Or.inl rfl) (cM (pv 0) (by rfl)))
   (ao (bY (PW.pt (nJ (yo (ak5 (pv 4))) (nJ (aP uQ (aN bC (pv 4) aB (λ_ _=>rfl)) (pv 1) (aY _)) (lZ (oh (jo (cI (pv 0) T.dI T.Hz (HY T) (hr.mono (by decide):bV 2 _) T.Ks .nil bW (aa (pv 4) ak)))))))) (aA (aZ (bJ ak))) bw)
   (ao (gO (pv 0) uO (by rfl))
   (aA (aZ (bJ (aa (cI (pv 0) T.dI T.DR (Ea T) (hr.mono (by decide):bV 2 _) T.HB .nil bW (aa (pv 4) ak)) ak)))))))),?_⟩
  try dsimp only[dj,Cx.kE]
  show let Z1:L2.TS:=_;let Z2:L2.TS:=_;let Z3:L2.TS:=_;let Z4:L2.TS:=cR _ Z3 bM;let Z5:L2.TS:=_;let Z6:L2.TS:=_;let D0:Ends:=_;(aV Z1 (aV Z2 (aV Z4 (aV Z5 (Z6))))) D0 _ _;intro Z1 Z2 Z3 Z4 Z5 Z6 D0;refine⟨_,rfl,p,dx,_,rfl,h1,fj _ _ ∅ ∅,_,rfl,_,rfl,_,rfl,p,d,S,c,n,r,z,.int z,rfl,DA,by lia,.inr rfl,λH1 Y f1=>?_⟩;obtain⟨⟨O,v1,g1,gw⟩,⟨ae,g2,g3,g4⟩⟩:=id Y;have npd:=Y.npd;refine⟨_,rfl,p,_,O,_,_,rfl,g1,T.dI,T.jL,aeC _ _,?_⟩;have J:uR H1 v1 S.ws:=gw;have F:(S.gP n r z).2=[]->(S.gP n r z).1=S.hold n r z->∀l,H1 l=none->Q (.ref l) (upd H1 l (.lst [])):=λe1 e2 l hl=>by{refine k _ _ ?_ (f1.trans (DF.new hl)) ?_;{rw[e2];exact(Y.new hl).mono (le_succ _)};{rw[e1];exact lg ((f1.kept DA Y).free hl) hl (by simp only[aG])}};cases I:S.ws with| none=>rw[I]at J;have ev:v1=.non:=J;subst ev;have e:S.gP n r z=(S.hold n r z,[]):=by{unfold DS.gP;rw[I]};refine⟨_,rfl,_,rfl,?_⟩;refine bH rfl (p6 ?_);exact⟨wF,λl hl=>F (by rw[e]) (by rw[e]) l hl⟩| some w=>rw[I]at J;obtain⟨a,ev,ha⟩:=J;subst ev;refine⟨_,rfl,_,rfl,?_⟩;refine aL (decide_eq_false λz=>by cases z) ?_;refine zt rfl (cW.of ha) (W.at1 w) ⟨_,rfl,rfl,_,rfl,?_⟩;by_cases L:w.pg=n;{refine aL (by rw[L];simp) ?_;refine⟨_,rfl,p,O,_,rfl,g1,fj _ _ ∅ ∅,_,rfl,p,d,_,_,a,w,rfl,Y,ha,_,rfl,?_⟩;by_cases hok:(S.hold n r z).ok w;{refine aL (by rw[decide_eq_true hok];rfl) ?_;refine⟨_,rfl,p,_,O,_,rfl,g1,T.dI,T.jL,(by rw[aiP];show 2<1000;decide),?_⟩;rw[aiO];have D2:cC t.bQ (upd H1 p (.ins t.bQ O (Ez d .non))) p d ({S.hold n r z with ws:=none}) (c+1):=by{have ts:cz H1 (upd H1 p (.ins t.bQ O (Ez d .non))):=λb xs e=>by{rw[az (jP e g1 ⟨⟩)];exact e};exact⟨⟨O,.non,aj,rfl⟩,⟨ae,by rw[az npd.symm];exact g2,g3,λj=>(g4 j).aU ts⟩⟩};have f2:DF H1 (upd H1 p (.ins t.bQ O (Ez d .non))) p d:=λb o e hp hd=>by{rw[az hp];exact e};have ai:=(f2.tups Y) a _ ha;obtain⟨⟨al,v2,k1,_⟩,_⟩:=id D2;refine⟨_,rfl,p,al,_,rfl,k1,fj _ _ ∅ ∅,_,rfl,p,d,_,_,a,w,rfl,D2,by lia,ai,hok,λu H3 D3 f3 Z=>?_⟩;refine⟨zz1,λl hl=>?_⟩;have e:S.gP n r z=(({S.hold n r z with ws:=none}:DS).done w,[.t [.s w.tag,.i w.pg,.i ((S.hold n r z).num w)]]):=by{unfold DS.gP;rw[I];dsimp only;rw[if_pos ⟨L,hok⟩]};refine k _ _ ?_ ((f1.trans f2).trans (f3.trans (DF.new hl))) ?_;{rw[e];exact D3.new hl};{rw[e];have k3:=((f1.trans f2).trans f3).kept DA D3;refine lg (k3.free hl) hl ?_;simp only[aG,Rep];refine⟨_,_,rfl,⟨u,_,rfl,ZK Z (k3.tup Z),_,_,rfl,rfl,_,_,rfl,rfl,_,_,rfl,?_,rfl⟩,rfl⟩;cases w<;>rfl}};{refine bH (by rw[decide_eq_false hok];rfl) ?_;have e:S.gP n r z=(S.hold n r z,[]):=by{unfold DS.gP;rw[I];dsimp only;rw[if_neg λq=>hok q.2]};exact⟨wF,λl hl=>F (by rw[e]) (by rw[e]) l hl⟩}};{refine bH (by rw[decide_eq_false λz=>L (V.int.inj z)];rfl) (p6 ?_);have e:S.gP n r z=(S.hold n r z,[]):=by{unfold DS.gP;rw[I];dsimp only;rw[if_neg λq=>L q.1]};exact⟨wF,λl hl=>F (by rw[e]) (by rw[e]) l hl⟩}
theorem aqu(H:Hp)(S:DS)(n:Int):Rep H (S.tell n) (ZL (S.tell n)):=by
 unfold DS.tell;split<;>simp[Rep,ZL]
theorem W8(T:Txt K w mg t):cX P w K mg base mW 3 t.fC t.tE ["self","page","right"] (aw0 t.bQ):=by
 refine T.aan.ok DK (λvs H Q E h=>?_) (λag A outer s H vs Q E F h=>?_);{obtain⟨p,d,S,c,n,r,rfl,_⟩:=h;rfl}
 ·obtain⟨p,d,S,c,n,r,rfl,I,hc,k⟩:=h;have hu:=kY F;obtain⟨⟨dx,v,h1,_⟩,_⟩:=id I;refine⟨_,(ao (bu (i:=3) DK.nd rfl (Or.inl rfl) (cI (pv 0) T.dI T.pJ (pM T) (F.mono (by decide):bV 2 _) T.qi .nil bW (aa (pv 1) ak)))
   (ao (bY (oh (jo (bZ (Qq T) (F.mono (by decide):bV 1 _) (by rfl) T.Vu T.Hw.kp T.Vt .nil bW (aa (pv 2) (aa (cI (pv 0) T.dI T.jt (ju T) (F.mono (by decide):bV 1 _) T.jR .nil bW (aa (pv 1) ak)) ak))))) (aA (bN (cI (pv 0) T.dI T.ux (uz T) (F.mono (by decide):bV 1 _) T.xM .nil bW (aa (pv 1) (aa (pv 2) (aa (aN bC (bL hu (cM (pv 0) (by rfl)) (pv 1) (λ_ _=>rfl)) aB (λ_ _=>rfl)) ak)))))) bw)
   (aA (aZ (bZ (T8 T) (F.mono (by decide):bV 1 _) (by rfl) T.WW T.DQ.kp T.WT .nil bW (aa (pv 1) (aa (pv 3) ak))))))),?_⟩
  try dsimp only[dj,Cx.kE]
  show let Y:L2.TS:=_;let Z:L2.TS:=_;let Z3:L2.TS:=cR _ Z bM;let Z4:L2.TS:=_;let D0:Ends:=_;(aV Y (aV Z3 (Z4))) D0 _ _;intro Y Z Z3 Z4 D0;refine⟨_,rfl,p,dx,_,rfl,h1,fj _ _ ∅ ∅,_,rfl,p,d,S,c,n,rfl,I,?_⟩;refine⟨_,rfl,_,rfl,p,dx,_,rfl,h1,fj _ _ ∅ ∅,_,rfl,p,d,S,c,n,rfl,I,r,S.rt n,rfl,_,rfl,?_⟩;have J:∀H1:Hp,cC t.bQ H1 p d (S.down n r) (c+1)->DF H H1 p d->∀a,H1 a=none->Q (.ref a) (upd H1 a (.tup [.str "answer",.int n,S.tell n])):=λH1 L f1 a O=>by{refine k _ _ ((L.new O).mono (le_succ _)) (f1.trans (DF.new O)) (asI O ?_);simp only[aG];exact⟨_,_,rfl,by simp only[Rep],_,_,rfl,by simp only[Rep],_,_,rfl,aqu _ _ _,rfl⟩};by_cases e:(S.rt n).k<=r.k;{refine aL (by rw[decide_eq_true e];rfl) ?_;exact⟨_,rfl,_,rfl,_,_,rfl,J H (by unfold DS.down;rw[if_pos e];exact I.mono (le_succ _)) (DF.refl _ _ _)⟩};{refine bH (by rw[decide_eq_false e];rfl) ?_;have W:S.rt n≠.no:=λz=>by{rw[z]at e;cases r<;>simp[Rt.k]at e};obtain⟨kvs,tt,h2,e1,e2⟩:=I.copy W;refine⟨_,rfl,p,dx,_,rfl,h1,fj _ _ ∅ ∅,_,rfl,_,rfl,_,rfl,p,_,dx,_,_,rfl,h1,T.dI,T.d9,kZ _ _,_,rfl,d,.ref tt,rfl,(by rw[<-e1];exact J5.k (k:=Sum.inl n) h2),tt,_,1,_,rfl,rfl,cW.of e2,rfl,p,d,S,c,n,r,S.nm n,.int (S.nm n),rfl,I,by lia,.inr rfl,λH1 L f1=>?_⟩;exact⟨_,rfl,_,rfl,_,_,rfl,J H1 (by unfold DS.down;rw[if_neg e];exact L) f1⟩}
theorem afX(T:Txt K w mg t):cX P w K mg base mW 4 t.iU t.BX ["self","letter"] (aw1 t.bQ):=by
 refine T.ajg.ok afD (λvs H Q E h=>?_) (λan A outer s H vs Q E hr h=>?_);{obtain⟨p,d,S,c,a,l,rfl,_⟩:=h;rfl}
 ·obtain⟨p,d,S,c,a,l,rfl,O,hc,J,k⟩:=h;have I:=kY hr;obtain⟨⟨dx,v,h1,_⟩,_⟩:=id O;refine⟨_,(ao (bY (aP cQ (aN bC (pv 1) aB (λ_ _=>rfl)) aC (aY _)) (aA (aZ (b7 (aa (cI (pv 0) T.dI T.PL (Qs T) (hr.mono (by decide):bV 3 _) T.Tu .nil bW (aa (aN bC (pv 1) aB (λ_ _=>rfl)) (aa (aN bC (pv 1) aB (λ_ _=>rfl)) (aa (aN bC (pv 1) aB (λ_ _=>rfl)) ak)))) (aa (bJ ak) ak))))) bw)
   (aA (aZ (b7 (aa (bJ ak) (aa (bJ (aa (cI (pv 0) T.dI T.WY (W8 T) (hr.mono (by decide):bV 3 _) T.aao .nil bW (aa (aN bC (pv 1) aB (λ_ _=>rfl)) (aa (aN bC (pv 1) aB (λ_ _=>rfl)) ak))) ak)) ak)))))),?_⟩
  try dsimp only[dj,Cx.kE]
  show let Z1:L2.TS:=_;let Z2:L2.TS:=cR _ Z1 bM;let Z3:L2.TS:=_;let L:Ends:=_;(aV Z2 (Z3)) L _ _;intro Z1 Z2 Z3 L;cases l with| lend n r z=>refine zt rfl (cW.of J) rfl ⟨rfl,_,rfl,?_⟩;refine bH fQ ?_;refine⟨_,rfl,p,dx,_,rfl,h1,fj _ _ ∅ ∅,zt rfl (cW.of J) rfl (zt rfl (cW.of J) rfl (zt rfl (cW.of J) rfl ⟨p,d,S,c,n,r,z,rfl,O,hc,λv H1 W f1 r1=>?_⟩))⟩;refine⟨wF,λl hl=>⟨sS,λu I=>?_⟩⟩;refine k _ _ ((W.new hl).new I) (f1.trans ((DF.new hl).trans (DF.new I))) ?_;have k1:=f1.kept O W;refine zy ((k1.new hl).free I) I ?_;simp only[aG];exact⟨_,_,rfl,r1.mono (wO (wN hl)),_,_,rfl,lg (k1.free hl) hl (by simp only[aG]),rfl⟩| back n r=>refine zt rfl (cW.of J) rfl ⟨rfl,_,rfl,?_⟩;refine aL (du ∅) ?_;refine⟨wF,λl hl=>?_⟩;have L:=O.new (o:=.lst []) hl;obtain⟨⟨ae,v0,af,_⟩,_⟩:=id L;have Y:upd H l (.lst []) a=some (.tup (Let.vs (.back n r))):=afu hl a _ J;refine⟨_,rfl,p,ae,_,rfl,af,fj _ _ ∅ ∅,zt rfl (cW.of Y) rfl (zt rfl (cW.of Y) rfl ⟨p,d,S,c,n,r,rfl,L,hc,λv H1 W f1 r1=>?_⟩)⟩;refine⟨zz1,λl2 F=>⟨sS,λu I=>?_⟩⟩;refine k _ _ ((W.new F).new I) ((DF.new hl).trans (f1.trans ((DF.new F).trans (DF.new I)))) ?_;have k0:Kept H (upd H l (.lst [])):=(Kept.refl H).new hl;have k1:Kept H H1:=((DF.new hl).trans f1).kept O W;refine zy ((k1.new F).free I) I ?_;simp only[aG];have rl:Rep (nw H (upd H l (.lst []))) (.ref l) (.l []):=lg hl hl (by simp only[aG]);refine⟨_,_,rfl,(rl.mono (wO (f1.seqs L))).mono (wO (wN F)),_,_,rfl,lg (k1.free F) F ?_,rfl⟩;simp only[aG];refine⟨_,_,rfl,?_,rfl⟩;simp only[Rep,aG]at r1 ⊢;obtain⟨b,xs,e1,e2,e3⟩:=r1;refine⟨b,xs,e1,ZK e2 (k1.tup e2),?_⟩;obtain⟨v1,q1,e4,e5,v2,q2,e6,e7,v3,q3,e8,Z,ag⟩:=e3;refine⟨v1,q1,e4,e5,v2,q2,e6,e7,v3,q3,e8,?_,ag⟩;unfold DS.tell at Z ⊢;split;{rename_i z;rw[if_pos z]at Z;simpa only[ZL,Rep] using Z};{rename_i z;rw[if_neg z]at Z;simpa only[ZL,Rep] using Z}
theorem Kz(T:Txt K w mg t):cX P w K mg base mW 1 t.gQ t.yH ["self"] (asK t.bQ):=by
 refine T.afO.ok acK (λvs H Q E h=>?_) (λI A outer s H vs Q E J h=>?_);{obtain⟨p,d,S,c,rfl,_⟩:=h;rfl}
 ·obtain⟨p,d,S,c,rfl,L,k⟩:=h;have O:=kY J;obtain⟨⟨dx,v,h1,F⟩,_⟩:=id L;refine⟨_,(aA (aZ (apr (wH (cM (pv 0) (by rfl)))))),?_⟩;try dsimp only[dj,Cx.kE]
  refine⟨_,rfl,p,_,dx,_,_,rfl,h1,T.dI,T.jL,aeC _ _,?_⟩;have e:(!decide (v=V.non))=S.ws.isSome:=by{cases z:S.ws with| none=>rw[z]at F;have e:v=.non:=F;rw[e];rfl| some W=>rw[z]at F;obtain⟨a,e,_⟩:=F;rw[e];rfl};rw[<-e]at k;exact k
theorem Qt(T:Txt K w mg t):cX P w K mg base (CX1 P w) 3 t.iT t.BW ["self","wish"] (asY t.bQ t.aR):=by
 refine T.ajf.okX afC (λvs H Q E h=>?_) (λas A outer s H vs Q E L h=>?_);{obtain⟨p,d,S,c,a,w,rfl,_⟩:=h;rfl}
 ·obtain⟨p,d,S,c,a,w,rfl,J,hc,ha,k⟩:=h;have hu:=kY L;obtain⟨⟨dx,v,h1,hw⟩,⟨kvs,h2,h3,h4⟩⟩:=id J;have npd:=J.npd;refine⟨_,(ao (bY (jo (rG (pv 0) T.dI T.Kr (Kz T) (L.mono (by decide):bV 1 _) T.PJ .nil bW)) (aA (GP T.zH (by rfl) T.aeN rfl O7 (aa aC ak))) bw)
   (ao (bY (jo (cI (pv 0) T.dI T.Hz (HY T) (L.mono (by decide):bV 2 _) T.Ks .nil bW (aa (pv 1) ak))) (aA (aZ (b7 (aa (bJ (aa (cI (pv 0) T.dI T.DR (Ea T) (L.mono (by decide):bV 2 _) T.HB .nil bW (aa (pv 1) ak)) ak)) (aa (bJ ak) ak))))) bw)
   (ao (gO (pv 0) (pv 1) (by rfl))
   (aA (aZ (b7 (aa (bJ ak) (aa (bJ (aa (bZ (acW T) (L.mono (by decide):bV 1 _) (by rfl) T.afN T.PB.kp T.afM .nil bW (aa (aN bC (pv 1) aB (λ_ _=>rfl)) (aa (bZ (DY T) (L.mono (by decide):bV 1 _) (by rfl) T.Hy T.vV.kp T.Hx .nil bW (aa (pv 1) ak)) ak))) ak)) ak)))))))),?_⟩
  try dsimp only[dj,Cx.kE]
  show let Z1:L2.TS:=_;let Z2:L2.TS:=cR _ Z1 bM;let Z3:L2.TS:=_;let Z4:L2.TS:=cR _ Z3 bM;let Z5:L2.TS:=_;let Z6:L2.TS:=_;let D0:Ends:=_;(aV Z2 (aV Z4 (aV Z5 (Z6)))) D0 _ _;intro Z1 Z2 Z3 Z4 Z5 Z6 D0;refine⟨_,rfl,p,dx,_,rfl,h1,fj _ _ ∅ ∅,p,d,S,c,rfl,J,_,rfl,?_⟩;cases O:S.ws with
  | some w'=>rw[O]at hw k;obtain⟨a',ev,_⟩:=hw;subst ev;refine p6 ?_;exact⟨zz1,k⟩
  | none=>
    rw[O]at hw k;have ev:v=.non:=hw;subst ev;refine wD ?_;refine⟨_,rfl,p,dx,_,rfl,h1,fj _ _ ∅ ∅,_,rfl,p,d,S,c,a,w,rfl,J,ha,_,rfl,?_⟩;by_cases hok:S.ok w;{refine bH (decide_eq_true hok) ?_;refine⟨_,rfl,p,dx,_,rfl,h1,fj _ _ ∅ ∅,_,rfl,p,d,S,c,a,w,rfl,J,by lia,ha,hok,λu H1 Y f1 Z=>?_⟩;refine⟨zz1,λl hl=>⟨wF,λl2 F=>⟨sS,λz I=>?_⟩⟩⟩;refine k _ _ ?_ (f1.trans ((DF.new hl).trans ((DF.new F).trans (DF.new I)))) ?_;{unfold DS.want;rw[if_pos hok];exact(((Y.new hl).new F).new I).mono (le_succ _)};{unfold DS.want;rw[if_pos hok];have k1:=f1.kept J Y;refine zy (((k1.new hl).new F).free I) I ?_;simp only[aG];refine⟨_,_,rfl,(lg (k1.free hl) hl ?_).mono (wO (wN F)),_,_,rfl,lg ((k1.new hl).free F) F (by simp only[aG]),rfl⟩;simp only[aG,Rep];exact⟨_,_,rfl,⟨u,_,rfl,ZK Z (k1.tup Z),_,_,rfl,rfl,_,_,rfl,rfl,_,_,rfl,rfl,rfl⟩,rfl⟩}}
    ·refine aL (decide_eq_false hok) ?_;refine⟨_,rfl,_,rfl,p,_,dx,_,rfl,h1,T.dI,T.jL,(by rw[aiP];show 2<1000;decide),?_⟩;rw[aiO];have ts:cz H (upd H p (.ins t.bQ dx (Ez d (.ref a)))):=λb xs e=>by{rw[az (jP e h1 ⟨⟩)];exact e};have ac:=ts a _ ha;have Y:cC t.bQ (upd H p (.ins t.bQ dx (Ez d (.ref a)))) p d {S with ws:=some w} c:=
      ⟨⟨dx,.ref a,aj,a,rfl,ac⟩,⟨kvs,by rw[az npd.symm];exact h2,h3,λj=>(h4 j).aU ts⟩⟩
     have f1:DF H (upd H p (.ins t.bQ dx (Ez d (.ref a)))) p d:=λb o e hp hd=>by{rw[az hp];exact e};refine⟨wF,λl hl=>?_⟩;have ad:upd (upd H p (.ins t.bQ dx (Ez d (.ref a)))) l (.lst []) a=some (.tup w.vs):=afu hl a _ ac;refine zt rfl (cW.of ad) (W.at1 w) ⟨_,rfl,a,w,rfl,ad,_,_,rfl,λz I=>?_⟩;refine⟨zz1,λl2 F=>⟨sS,λy hy=>?_⟩⟩;refine k _ _ ?_ (f1.trans ((DF.new hl).trans ((DF.new I).trans ((DF.new F).trans (DF.new hy))))) ?_;{unfold DS.want;rw[if_neg hok];exact((((Y.new hl).new I).new F).new hy).mono (by lia)};{unfold DS.want;rw[if_neg hok];have k1:=f1.kept J Y;refine zy ((((k1.new hl).new I).new F).free hy) hy ?_;simp only[aG];refine⟨_,_,rfl,((lg (k1.free hl) hl (by simp only[aG])).mono (wO (wN I))).mono (wO (wN F)),_,_,rfl,lg (((k1.new hl).new I).free F) F ?_,rfl⟩;simp only[aG];refine⟨_,_,rfl,zy ((k1.new hl).free I) I ?_,rfl⟩;simp only[aG,Rep];exact⟨_,_,rfl,rfl,_,_,rfl,rfl,_,_,rfl,rfl,rfl⟩}
theorem afY(T:Txt K w mg t):cX P w K mg base (CX1 P w) 3 t.iV t.BZ ["self","page"] (asZ t.bQ t.bh):=by
 refine T.aji.okX Pu (λvs H Q E h=>?_) (λag A outer s H vs Q E I h=>?_);{obtain⟨p,d,S,c,n,rfl,_⟩:=h;rfl}
 ·obtain⟨p,d,S,c,n,rfl,F,hc,k⟩:=h;have hu:=kY I;obtain⟨⟨dx,v,h1,_⟩,_⟩:=id F;refine⟨_,(ao (bY (aP cQ (cI (pv 0) T.dI T.jt (ju T) (I.mono (by decide):bV 1 _) T.jR .nil bW (aa (pv 1) ak)) (iJ (by rfl) T.T7) (aY _)) (aA (GP T.zJ (by rfl) T.ajb rfl O7 (aa aC ak))) bw)
   (ao (bu (i:=2) Pu.nd rfl (Or.inl rfl) (cI (pv 0) T.dI T.pJ (pM T) (I.mono (by decide):bV 2 _) T.qi .nil bW (aa (pv 1) ak)))
   (ao (bN (cI (pv 0) T.dI T.ux (uz T) (I.mono (by decide):bV 1 _) T.xM .nil bW (aa (pv 1) (aa (iJ (by rfl) T.T7) (aa uO ak)))))
   (aA (aZ (rE (yo (ak5 (pv 2))) (bJ ak) (bJ (aa (bZ (aaH T) (I.mono (by decide):bV 1 _) (by rfl) T.acM T.Kl.kp T.acL .nil bW (aa (pv 1) (aa (pv 2) ak))) ak)))))))),?_⟩
  try dsimp only[dj,Cx.kE]
  show let Y:L2.TS:=_;let Z:L2.TS:=cR _ Y bM;let Z3:L2.TS:=_;let Z4:L2.TS:=_;let Z5:L2.TS:=_;let D0:Ends:=_;(aV Z (aV Z3 (aV Z4 (Z5)))) D0 _ _;intro Y Z Z3 Z4 Z5 D0;refine⟨_,rfl,p,dx,_,rfl,h1,fj _ _ ∅ ∅,_,rfl,p,d,S,c,n,rfl,F,rfl,_,rfl,?_⟩;by_cases e:S.rt n=.no;{rw[if_pos e]at k;rw[e];refine p6 ?_;exact⟨zz1,k⟩};{rw[if_neg e]at k;refine aL (p7 (x:="none") (q:=.no) rfl e) ?_;refine⟨_,rfl,p,dx,_,rfl,h1,fj _ _ ∅ ∅,_,rfl,p,d,S,c,n,rfl,F,?_⟩;refine⟨_,rfl,p,dx,_,rfl,h1,fj _ _ ∅ ∅,_,rfl,p,d,S,c,n,.no,S.nm n,.non,rfl,F,by lia,.inl rfl,λH1 L f1=>?_⟩;refine⟨_,rfl,_,rfl,?_⟩;by_cases O:S.rt n=.wr;{have W:S.tell n=.int (S.nm n):=by{unfold DS.tell;rw[if_pos O]};rw[W];refine wD ?_;refine⟨_,rfl,_,rfl,_,_,rfl,λz J=>⟨zz1,λl hl=>?_⟩⟩;refine k _ _ (((L.new J).new hl).mono (le_succ _)) (f1.trans ((DF.new J).trans (DF.new hl))) ?_;unfold DS.rest;rw[if_pos O];have k1:=f1.kept F L;refine lg ((k1.new J).free hl) hl ?_;simp only[aG];refine⟨_,_,rfl,zy (k1.free J) J ?_,rfl⟩;simp only[aG,Rep];exact⟨_,_,rfl,rfl,_,_,rfl,rfl,_,_,rfl,rfl,rfl⟩};{have W:S.tell n=.non:=by{unfold DS.tell;rw[if_neg O]};rw[W];refine p6 ?_;refine⟨wF,λl hl=>?_⟩;refine k _ _ ((L.new hl).mono (le_succ _)) (f1.trans (DF.new hl)) ?_;unfold DS.rest;rw[if_neg O];exact lg ((f1.kept F L).free hl) hl (by simp only[aG])}}
theorem Ia(T:Txt K w mg t):cX P w K mg base mW 1 t.gZ t.vq ["page","right"] (aiQ "back"):=by
 refine T.yO.ok aaf (λvs H Q E h=>?_) (λz A outer s H vs Q E I h=>?_);{obtain⟨x,y,rfl,_⟩:=h;rfl}
 ·obtain⟨x,y,rfl,k⟩:=h;refine⟨_,(aA (aZ (b7 (aa aC (aa (pv 0) (aa (pv 1) ak)))))),?_⟩;try dsimp only[dj,Cx.kE]
  exact⟨_,rfl,_,rfl,Zh,λa F=>k a F⟩
theorem aaI(T:Txt K w mg t):cX P w K mg base mW 1 t.gY t.vp ["page","right","number"] amV:=by
 refine T.Km.ok aae (λvs H Q E h=>?_) (λF A outer s H vs Q E J h=>?_);{obtain⟨x,y,z,rfl,_⟩:=h;rfl}
 ·obtain⟨x,y,z,rfl,k⟩:=h;refine⟨_,(aA (aZ (b7 (aa aC (aa (pv 0) (aa (pv 1) (aa (pv 2) ak))))))),?_⟩;try dsimp only[dj,Cx.kE]
  exact⟨_,rfl,_,rfl,_,rfl,zz4,λa I=>k a I⟩
theorem Qu(T:Txt K w mg t):cX P w K mg base mW 1 t.dR t.pB ["self","page","number"] (ap7 t.aD):=by
 refine T.Tw.ok Px (λvs H Q E h=>?_) (λai A outer s H vs Q E hr h=>?_);{obtain⟨x,y,p,n,rfl,_⟩:=h;rfl}
 ·obtain⟨a,dx,p,n,rfl,hp,k⟩:=h;refine⟨_,(ao (gO (pv 0) (pv 1) (by rfl))
   (ao (gO (pv 0) (pv 2) (by rfl))
   (ao (gO (pv 0) uO (by rfl))
   (ao (gO (pv 0) (bJ ak) (by rfl))
   (ao (gO (pv 0) (bJ ak) (by rfl))
   (aA (gO (pv 0) aB (by rfl)))))))),?_⟩
  try dsimp only[dj,Cx.kE]
  show let Z1:L2.TS:=_;let Z2:L2.TS:=_;let Z3:L2.TS:=_;let Z4:L2.TS:=_;let Z5:L2.TS:=_;let Z6:L2.TS:=_;let D0:Ends:=_;(aV Z1 (aV Z2 (aV Z3 (aV Z4 (aV Z5 (Z6)))))) D0 _ _;intro Z1 Z2 Z3 Z4 Z5 Z6 D0;refine⟨_,rfl,_,rfl,a,t.aD,dx,[],rfl,hp,T.aW,T.gG,(by show 0<1000;decide),?_⟩;refine⟨_,rfl,_,rfl,a,t.aD,dx,_,rfl,aj,T.aW,T.fL,(by show 1<1000;decide),?_⟩;refine⟨_,rfl,a,t.aD,dx,_,rfl,aj,T.aW,T.cB,(by show 2<1000;decide),?_⟩;rw[amw,amw];refine⟨wF,λr L=>?_⟩;have I:a≠r:=λz=>by{rw[z,aj]at L;cases L};have W:H r=none:=by{rw[<-L,az I.symm]};refine⟨_,rfl,a,t.aD,dx,_,rfl,(by rw[az I];exact aj),T.aW,T.dh,(by show 3<1000;decide),?_⟩;refine⟨wF,λq J=>?_⟩;have F:a≠q:=λz=>by{rw[z,aj]at J;cases J};have O:r≠q:=λz=>by{rw[z,az F.symm,aj]at J;cases J};have Y:H q=none:=by{rw[<-J,az F.symm,az O.symm,az F.symm]};refine⟨_,rfl,a,t.aD,dx,_,rfl,(by rw[az F];exact aj),T.aW,T.dq,(by show 4<1000;decide),?_⟩;refine⟨_,rfl,a,t.aD,dx,_,rfl,aj,T.aW,T.eV,(by show 5<1000;decide),?_⟩;rw[ap5];refine k r q _ W Y ⟨⟨dx,aj⟩,?_,⟨[],?_,by simp[aG]⟩,O⟩ (λb o e Z=>?_) ?_;{rw[az I.symm,az I.symm,az O,az I.symm,aj];rfl};{rw[az F.symm,az F.symm,aj]};{rw[az Z,az Z,az (aF e Y),az Z,az (aF e W),az Z];exact e};{exact Lv.upd.trans (Lv.upd.trans (Lv.upd.trans (Lv.upd.trans (Lv.upd.trans Lv.upd))))}
theorem CG(T:Txt K w mg t):cX P w K mg base mW 1 t.cP t.jK ["self","desk"] (axa t.aD):=by
 refine T.Fj.ok BK (λvs H Q E h=>?_) (λae A outer s H vs Q E hr h=>?_);{obtain⟨a,r,q,p,g,d,rfl,_⟩:=h;rfl}
 ·obtain⟨a,r,q,p,g,d,rfl,PA,k⟩:=h;have nar:=PA.nar;have naq:=PA.naq;obtain⟨⟨dx,h1⟩,h2,⟨vs,Y,h4⟩,h5⟩:=id PA;refine⟨_,(ao (gO (pv 0) (pv 1) (by rfl))
   (aA (gO (pv 0) (bJ ak) (by rfl)))),?_⟩
  try dsimp only[dj,Cx.kE]
  show let Z:L2.TS:=_;let Z2:L2.TS:=_;let D0:Ends:=_;(aV Z (Z2)) D0 _ _;intro Z Z2 D0;refine⟨_,rfl,_,rfl,a,_,dx,_,rfl,h1,T.aW,T.cB,wV,?_⟩;rw[asO];refine⟨wF,λO I=>?_⟩;have J:a≠O:=λz=>by{rw[z,aj]at I;cases I};have F:H O=none:=by{rw[<-I,az J.symm]};refine⟨_,rfl,a,_,dx,_,rfl,(by rw[az J];exact aj),T.aW,T.dh,wV,?_⟩;rw[aw2 (l:=[])];have L:q≠O:=aF Y F;refine k O _ F ⟨⟨dx,aj⟩,?_,⟨vs,?_,?_⟩,L.symm⟩ ⟨λb o e ha W hq=>?_,Lv.upd.trans (Lv.upd.trans Lv.upd)⟩;{rw[az J.symm,aj];rfl};{rw[az naq.symm,az L,az naq.symm];exact Y};{refine h4.aU (λb xs e=>?_) (lQ _);have W:b≠a:=jP e h1 ⟨⟩;rw[az W,az (aF e F),az W];exact e};{rw[az ha,az (aF e F),az ha];exact e}
theorem ank(d:Nat)(l:List Nat):inV (.int d) (l.map nV)=decide (d∈l):=by
 unfold inV;induction l with| nil=>rfl| cons x l z=>rw[map_cons,any_cons,z];show((x:Int) == (d:Int) || _)=_;by_cases e:d=x;{subst e;simp};{have:((x:Int) == (d:Int))=false:=by{simp;lia};rw[this];simp[e]}
theorem ajF(l:List Nat):(l.map nV).all Ka=true:=by simp[Ka,nV]
theorem Fq(T:Txt K w mg t):cX P w K mg base mW 1 t.cU t.jZ ["self","desk"] (aw9 t.aD):=by
 refine T.HJ.ok Fb (λvs H Q E h=>?_) (λae A outer s H vs Q E hr h=>?_);{obtain⟨a,r,q,p,g,d,rfl,_⟩:=h;rfl}
 ·obtain⟨a,r,q,p,g,d,rfl,PA,hl,k⟩:=h;have sl:sizeLine=16777216:=by{decide};refine⟨_,(ao (bY (yo (wH (cM (pv 0) (by rfl)))) (ao (bN (dZ plainAttrs_list PySem.F.slot_list_append PySem.F.type_list_append cu (cM (pv 0) (by rfl)) (aa (cM (pv 0) (by rfl)) ak)))
   (aA (gO (pv 0) uO (by rfl)))) bw)
   (aA (bY (aP O4 (pv 1) (cM (pv 0) (by rfl)) (by rfl)) (aA (bN (dZ plainAttrs_list PySem.F.slot_list_append PySem.F.type_list_append cu (cM (pv 0) (by rfl)) (aa (pv 1) ak)))) bw))),?_⟩
  try dsimp only[dj,Cx.kE]
  show let L:L2.TS:=_;let O:L2.TS:=_;let W:L2.TS:=aV L (O);let Y:L2.TS:=cR _ W bM;let Z:L2.TS:=_;let Z6:L2.TS:=cR _ Z bM;let D0:Ends:=_;(aV Y (Z6)) D0 _ _;intro L O W Y Z Z6 D0;have I:∀H1,gH t.aD H1 a r q p {g with wr:=none,rd:=g.rd++g.wr.toList}->PF H H1 a r q->
   (cR (aiy (Zn (rIn K true) (jE 1) (afl K (jE 0) "readers"))) (amy (tBM K "list" Be (afl K (jE 0) "readers") (nO (jE 1) J4))) bM) {nx:=λ_ H'=>Q .non H',rt:=Q} [some (.ref a),some (.int d)] H1:=λH1 z f1=>by
   obtain⟨⟨dx,h1⟩,h2,_,_⟩:=id z
   refine⟨_,rfl,_,rfl,a,_,dx,_,_,rfl,h1,T.aW,T.dh,wR,r,_,rfl,.inl (bU.of h2),rfl,ajF _,_,rfl,?_⟩
   have e0:(if true=true then !inV (.int d) ((g.rd++g.wr.toList).map nV)else inV (.int d) ((g.rd++g.wr.toList).map nV)) = !decide (d∈g.rd++g.wr.toList):=by rw[if_pos rfl,ank]
   rw[e0]
   by_cases e:d∈g.rd++g.wr.toList
   ·refine aL (by rw[decide_eq_true e];rfl) ?_
    refine k H1 ?_ f1
    unfold jF
    rw[if_pos e]
    exact z
   ·refine bH (by rw[decide_eq_false e];rfl) ?_
    refine⟨_,rfl,a,_,dx,_,_,rfl,h1,T.aW,T.dh,wR,.inl ⟨rfl,_,bU.of h2⟩,_,rfl,r,_,_,rfl,rfl,h2,?_,?_⟩
    ·have J:g.wr.toList.length<=1:=by cases g.wr<;>simp
     rw[length_map,length_append];lia
    ·refine k _ ?_ (f1.trans PF.wrR)
     have:=z.wrR (l:=g.rd++g.wr.toList++[d])
     unfold jF
     rw[if_neg e]
     rw[map_append (l₂:=[d])]at this
     exact this
  obtain⟨⟨dx,h1⟩,h2,⟨vs,h3,h4⟩,h5⟩:=id PA;refine⟨_,rfl,a,_,dx,_,_,rfl,h1,T.aW,T.cB,uU,_,rfl,?_⟩;cases J:g.wr with
  | none=>refine aL rfl ?_;refine I H ?_ (PF.refl _ _ _ _);have e:({g with wr:=none,rd:=g.rd++g.wr.toList}:PG)=g:=by{rw[J];cases g;simp_all};rw[e];exact PA
  | some x=>refine bH rfl ?_;have l1:(Dz p g r q).lookup ("writer":Str)=some (.int x):=by{rw[uU,J];rfl};refine⟨_,rfl,a,_,dx,_,_,rfl,h1,T.aW,T.dh,wR,.inl ⟨rfl,_,bU.of h2⟩,_,rfl,a,_,dx,_,_,rfl,h1,T.aW,T.cB,l1,r,_,_,rfl,rfl,h2,(by rw[length_map];lia),?_⟩;have z:=PA.wrR (l:=g.rd++[x]);rw[map_append]at z;obtain⟨⟨zq,g1⟩,_⟩:=id z;refine⟨_,rfl,a,_,zq,_,rfl,g1,T.aW,T.cB,wV,?_⟩;rw[amT];refine I _ ?_ (PF.trans PF.wrR PF.wr);rw[J];exact z.wr rfl rfl
theorem xP(T:Txt K w mg t):cX P w K mg base mW 2 t.dU t.pC ["self"] (asQ t.aD):=by
 refine T.TJ.ok xj (λvs H Q E h=>?_) (λay A outer s H vs Q E hr h=>?_);{obtain⟨a,r,q,p,g,d,x,l,rfl,_⟩:=h;rfl}
 ·obtain⟨a,r,q,p,g,d,x,l,rfl,PA,ha,O,hl,k⟩:=h;refine⟨_,(ao (bu (i:=1) xj.nd rfl (Or.inl rfl) (dZ plainAttrs_list slot_list_pop type_list_pop GK (cM (pv 0) (by rfl)) (aa aB ak)))
   (ao (bY (aP cQ (aN bC (pv 1) aB (λ_ _=>rfl)) (iJ (by rfl) T.Zf) (aY _)) (aA (bN (cI (pv 0) T.aW T.Cu (CG T) (hr.mono (by decide):bV 1 _) T.Fl .nil bW (aa (aN bC (pv 1) aB (λ_ _=>rfl)) ak)))) (aA (bN (cI (pv 0) T.aW T.Fo (Fq T) (hr.mono (by decide):bV 1 _) T.HN .nil bW (aa (aN bC (pv 1) aB (λ_ _=>rfl)) ak)))))
   (aA (aZ (b7 (aa (aN bC (pv 1) aB (λ_ _=>rfl)) (aa (bZ (aaI T) (hr.mono (by decide):bV 1 _) (by rfl) T.acO T.Km.kp T.acN .nil bW (aa (cM (pv 0) (by rfl)) (aa (aN bC (pv 1) aB (λ_ _=>rfl)) (aa (cM (pv 0) (by rfl)) ak)))) ak))))))),?_⟩
  try dsimp only[dj,Cx.kE]
  show let Z1:L2.TS:=_;let Z2:L2.TS:=_;let Z3:L2.TS:=_;let Z4:L2.TS:=cR _ Z2 Z3;let Z5:L2.TS:=_;let D0:Ends:=_;(aV Z1 (aV Z4 (Z5))) D0 _ _;intro Z1 Z2 Z3 Z4 Z5 D0;obtain⟨⟨dx,h1⟩,h2,⟨vs,h3,h4⟩,h5⟩:=id PA;rw[ha]at h4;obtain⟨tt,us,rfl,h6,h7⟩:=JN h4;refine⟨_,rfl,a,_,dx,_,_,rfl,h1,T.aW,T.dq,uL,.inl ⟨rfl,_,bU.of h3⟩,q,_,0,0,_,rfl,rfl,h3,(by decide),(by decide),ap4 _ _,rfl,?_⟩;have P1:=PA.wrQ (l:=l) (vs:=us) h7;have t1:(upd H q (.lst us)) tt=some (.tup [.int d,.str x.s]):=by{rw[az (jP h6 h3 ⟨⟩)];exact h6};have W:∀I H1,(I=r\/H I=none)->gH t.aD H1 a I q p g.lent->PF H H1 a r q->g.lent.num=g.num->
   (awk (apA (nO (Zn (ali K) (jE 1) (tC (.int 0))) (nO (apB amV [] E0 (nO (afl K (jE 0) "page") (nO (Zn (ali K) (jE 1) (tC (.int 1))) (nO (afl K (jE 0) "number") J4)))) J4)))) {nx:=λ_ H'=>Q .non H',rt:=Q} [some (.ref a),some (.ref tt)] H1:=λI H1 F J L en=>by
   have t2:=(L.tups PA) tt _ h6
   obtain⟨⟨Y,g1⟩,_⟩:=id J
   refine zt rfl (cW.of t2) rfl ⟨_,rfl,a,_,Y,_,_,rfl,g1,T.aW,T.gG,ZM,zt rfl (cW.of t2) rfl ⟨_,rfl,a,_,Y,_,_,rfl,g1,T.aW,T.fL,alx,_,_,_,rfl,λb hb=>?_⟩⟩
   refine⟨sS,λc Z=>?_⟩
   refine k _ I _ F ((J.new hb).new Z) (L.trans' ((PF.new hb).trans (PF.new Z)) F) ?_
   simp only[pairD,Let.d,Rep,aG]
   refine⟨c,_,rfl,aj,_,_,rfl,rfl,_,_,rfl,⟨b,[.str "lend",.int p,.str x.s,.int g.lent.num],rfl,?_,_,_,rfl,rfl,_,_,rfl,rfl,_,_,rfl,rfl,_,_,rfl,?_,rfl⟩,rfl⟩
   ·rw[az,aj];intro z;rw[z,aj]at Z;cases Z
   ·rw[en]
  have z6:g.lent=if x=.wr then jQ {g with ask:=l} d else jF {g with ask:=l} d:=by{unfold PG.lent;rw[ha]};obtain⟨⟨zq,g1⟩,_⟩:=id P1;refine zt rfl (cW.of t1) rfl ⟨rfl,_,rfl,?_⟩;rcases O with O | O;{subst O;refine aL (p7 (x:="write") (q:=.wr) rfl ⟨⟩) ?_;refine⟨_,rfl,a,zq,_,rfl,g1,aw4,zt rfl (cW.of t1) rfl ⟨a,r,q,p,_,d,rfl,P1,hl,λH2 J L=>?_⟩⟩;refine W r H2 (.inl rfl) ?_ (PF.wrQ.trans L) (by rw[z6];rfl);rw[z6,if_neg ⟨⟩];exact J};{subst O;refine bH fQ ?_;refine⟨_,rfl,a,zq,_,rfl,g1,aw3,zt rfl (cW.of t1) rfl ⟨a,r,q,p,_,d,rfl,P1,λI H2 F J L=>?_⟩⟩;have nq:I≠q:=by{intro z;rw[z,aj]at F;cases F};refine W I H2 (.inr (by rw[<-F,az nq])) ?_ (PF.wrQ.trans L) (by rw[z6];rfl);rw[z6,if_pos rfl];exact J}
theorem Mz{H:Hp}{b c:Addr}{d p:Nat}{x:Rt}{vs:List V}(z:H c=some (.tup [.int d,.ref b]))(F:H b=some (.tup [.str "back",.int p,.str x.s])):Rep H (.ref c) (pairD (d,.back p x)):=by
 simp only[pairD,Let.d,Rep,aG];exact⟨c,_,rfl,z,_,_,rfl,rfl,_,_,rfl,⟨b,_,rfl,F,_,_,rfl,rfl,_,_,rfl,rfl,_,_,rfl,rfl,rfl⟩,rfl⟩
theorem aaJ{g:PG}{p d:Nat}{x:Rt}(h:g.wr=none):oJ g p d x=[]:=by unfold oJ;rw[h]
theorem aeS{g:PG}{p d:Nat}{x:Rt}(h:g.wr=some d):oJ g p d x=[]:=by unfold oJ;rw[h];simp
theorem VF{g:PG}{p d z:Nat}{x:Rt}(h:g.wr=some z)(F:z≠d):oJ g p d x=[(z,.back p (low x))]:=by unfold oJ;rw[h];simp[F]
theorem uA(T:Txt K w mg t):cX P w K mg base mW 2 t.cg t.gU ["self"] (axb t.aD):=by
 refine T.vX.ok eX (λvs H Q E h=>?_) (λb1 A outer s H vs Q E hr h=>?_);{obtain⟨a,r,q,p,g,d,x,l,rfl,_⟩:=h;rfl}
 ·obtain⟨a,r,q,p,g,d,x,l,rfl,PA,ha,Z,hl,k⟩:=h;refine⟨_,(ao (bu (i:=1) eX.nd rfl (Or.inr rfl) (aN bC (aN bz (cM (pv 0) (by rfl)) aB (λ_ _=>rfl)) aB (λ_ _=>rfl)))
   (ao (bu (i:=2) eX.nd rfl (Or.inl rfl) (aN bC (aN bz (cM (pv 0) (by rfl)) aB (λ_ _=>rfl)) aB (λ_ _=>rfl)))
   (ao (bu (i:=3) eX.nd rfl (Or.inl rfl) (bJ ak))
   (ao (bY (PW.pt (Gy (yo (wH (cM (pv 0) (by rfl)))) (Ba (aP uQ (cM (pv 0) (by rfl)) (pv 1) (aY _))))) (aA (bN (dZ plainAttrs_list PySem.F.slot_list_append PySem.F.type_list_append cu (pv 3) (aa (b7 (aa (cM (pv 0) (by rfl)) (aa (bZ (Ia T) (hr.mono (by decide):bV 1 _) (by rfl) T.Kq T.yO.kp T.Ko .nil bW (aa (cM (pv 0) (by rfl)) (aa (rE (aP cQ (pv 2) (iJ (by rfl) T.alM) (aY _)) (iJ (by rfl) T.alM) (iJ (by rfl) T.T7)) ak))) ak))) ak)))) bw)
   (ao (bY (aP cQ (pv 2) (iJ (by rfl) T.Zf) (aY _)) (aA (bN (dZ plainAttrs_list PySem.F.slot_list_extend PySem.F.type_list_extend mY (pv 3) (aa (mO (gD (xs:=["desk"]) (ys:=["self","asking"]) (js:=[0,1]) rfl ∅ ∅ ∅ (by rfl) ⟨⟨rfl,Or.inl rfl⟩,⟨⟨rfl,Or.inl rfl⟩,trivial⟩⟩) rfl (ou (cM (pv 0) (by rfl))) (λ_ _ _ _ _=>(cj (i:=0) (show Nodup ((["desk"]:List Str)++(["self","asking"]:List Str):List Str)by decide +kernel) rfl (Or.inl rfl))) (λ_ _ _ _ _=>(afq (aP uQ (pv 0) (pv 2) (aY _)))) (λ_ _ _ _ _=>(b7 (aa (pv 0) (aa (bZ (Ia T) (hr.mono (by decide):bV 1 _) (by rfl) T.Kq T.yO.kp T.Ko .nil bW (aa (asU (K:=K) rfl (pv 1) (by rfl)) (aa (iJ (by rfl) T.T7) ak))) ak))))) ak)))) bw)
   (aA (aZ (pv 3)))))))),?_⟩
  try dsimp only[dj,Cx.kE]
  show let Z1:L2.TS:=_;let Z2:L2.TS:=_;let Z3:L2.TS:=_;let Z4:L2.TS:=_;let Z5:L2.TS:=cR _ Z4 bM;let Z6:L2.TS:=_;let Z7:L2.TS:=cR _ Z6 bM;let Z8:L2.TS:=_;let D0:Ends:=_;(aV Z1 (aV Z2 (aV Z3 (aV Z5 (aV Z7 (Z8)))))) D0 _ _;intro Z1 Z2 Z3 Z4 Z5 Z6 Z7 Z8 D0;have sl:sizeLine=16777216:=by{decide};obtain⟨⟨dx,h1⟩,h2,⟨vs,h3,h4⟩,h5⟩:=id PA;rw[ha]at h4;obtain⟨tt,us,rfl,h6,h7⟩:=JN h4;refine⟨_,rfl,a,_,dx,_,_,rfl,h1,T.aW,T.dq,uL,q,_,0,_,rfl,rfl,bU.of h3,axd _ _,tt,_,0,_,rfl,rfl,cW.of h6,rfl,?_⟩;refine⟨_,rfl,a,_,dx,_,_,rfl,h1,T.aW,T.dq,uL,q,_,0,_,rfl,rfl,bU.of h3,axd _ _,tt,_,1,_,rfl,rfl,cW.of h6,rfl,?_⟩;refine⟨wF,λbl hb=>?_⟩;have aw:g.cL p=oJ g p d x++oK g p d x:=by{unfold PG.cL;rw[ha]};have s0:=aq (o:=.lst []) hb;try dsimp only
  refine gF (λac H'=>ac=[some (.ref a),some (.int d),some (.str x.s),some (.ref bl)]/\bK H H'/\∃us,H' bl=some (.lst us)/\us.length<=1/\aG H' us ((oJ g p d x).map pairD)) (λN hN=>?_) ?_;{have l0:=s0 a _ h1;refine⟨_,rfl,a,_,dx,_,_,rfl,l0,T.aW,T.cB,uU,_,rfl,?_⟩;cases hw:g.wr with| none=>refine aL rfl (wD ?_);exact hN _ _ ⟨rfl,s0,[],aj,zero_le _,by rw[aaJ hw];simp[aG]⟩| some wv=>have l1:(Dz p g r q).lookup ("writer":Str)=some (.int wv):=by{rw[uU,hw];rfl};refine bH rfl ?_;refine⟨_,rfl,a,_,dx,_,_,rfl,l0,T.aW,T.cB,l1,_,rfl,rfl,_,rfl,?_⟩;by_cases e:wv=d;{subst e;refine aL (by simp) ?_;exact hN _ _ ⟨rfl,s0,[],aj,zero_le _,by rw[aeS hw];simp[aG]⟩};{refine bH (by rw[decide_eq_false λz=>e (by have:=V.int.inj z;lia)];rfl) ?_;have go:∀c,(∀z:Rt,z=low x->c=V.str z.s)->(tBM K "list" Be (jE 3) (nO (apA (nO (afl K (jE 0) "writer") (nO (apB (aiQ "back") [] E0 (nO (afl K (jE 0) "page") (nO (tC c) J4))) J4))) J4)) [some (.ref a),some (.int d),some (.str x.s),some (.ref bl)] (upd H bl (.lst [])) λ_ H'=>N [some (.ref a),some (.int d),some (.str x.s),some (.ref bl)] H':=λc aM=>by{obtain rfl:=aM _ rfl;refine⟨_,rfl,.inl ⟨rfl,_,bU.of aj⟩,_,rfl,a,_,dx,_,_,rfl,l0,T.aW,T.cB,l1,_,rfl,a,_,dx,_,_,rfl,l0,T.aW,T.gG,ZM,_,_,rfl,λb J=>?_⟩;refine⟨sS,λcc O=>?_⟩;have nb:bl≠b:=λz=>by{rw[<-z,aj]at J;cases J};have nc:bl≠cc:=λz=>by{rw[<-z,az nb,aj]at O;cases O};have ah:b≠cc:=λz=>by{rw[z,aj]at O;cases O};refine⟨bl,[],_,rfl,rfl,(by rw[az nc,az nb,aj]),(by show 0<sizeLine;decide),?_⟩;refine hN _ _ ⟨rfl,?_,_,aj,Nat.le_refl _,?_⟩;{exact dB ((s0.trans (aq J)).trans (aq O)) hb};{rw[VF hw e];simp only[map_cons,map_nil,aG];refine⟨_,_,rfl,Mz (b:=b) (vs:=[]) (by rw[az nc.symm,aj]) (by rw[az nb.symm,az ah,aj]),rfl⟩}};rcases Z with Z | Z;{subst Z;have:=go (.str "read") (λz hz=>by rw[hz];rfl);obtain⟨v0,e0,ty,a1⟩:=this;refine⟨v0,e0,ty,?_⟩;obtain⟨v1,e1,a',C',ai,fs',v',a2⟩:=a1;obtain⟨i1,i2,i3,i4,i5,v2,e2,al,am,an,ap,ar,j1,j2,j3,j4,j5,a3⟩:=a2;refine⟨v1,e1,a',C',ai,fs',v',i1,i2,i3,i4,i5,v2,e2,al,am,an,ap,ar,j1,j2,j3,j4,j5,?_⟩;refine⟨_,rfl,rfl,_,rfl,?_⟩;exact bH fQ a3};{subst Z;have:=go (.str "none") (λz hz=>by rw[hz];rfl);obtain⟨v0,e0,ty,a1⟩:=this;refine⟨v0,e0,ty,?_⟩;obtain⟨v1,e1,a',C',ai,fs',v',a2⟩:=a1;obtain⟨i1,i2,i3,i4,i5,v2,e2,al,am,an,ap,ar,j1,j2,j3,j4,j5,a3⟩:=a2;refine⟨v1,e1,a',C',ai,fs',v',i1,i2,i3,i4,i5,v2,e2,al,am,an,ap,ar,j1,j2,j3,j4,j5,?_⟩;refine⟨_,rfl,rfl,_,rfl,?_⟩;exact aL (p7 (r:=.wr) (x:="read") (q:=.rd) rfl ⟨⟩) a3}}}
  ·rintro ac H1 ⟨rfl,s1,as,J,b2,ax⟩;have l0:=s1 a _ h1;try dsimp only
   refine gF (λac H'=>ac=[some (.ref a),some (.int d),some (.str x.s),some (.ref bl)]/\bK H H'/\∃us,H' bl=some (.lst us)/\aG H' us ((g.cL p).map pairD)) (λN hN=>?_) ?_;{refine⟨_,rfl,rfl,_,rfl,?_⟩;rcases Z with Z | Z;{subst Z;refine aL (p7 (x:="write") (q:=.wr) rfl ⟨⟩) ?_;refine hN _ _ ⟨rfl,s1,as,J,?_⟩;rw[aw];have:oK g p d .rd=[]:=by{unfold oK;rw[if_neg ⟨⟩]};rw[this,append_nil];exact ax};{subst Z;refine bH fQ ?_;refine⟨_,rfl,.inl ⟨rfl,_,bU.of J⟩,?_⟩;refine⟨_,rfl,a,_,dx,_,_,rfl,l0,T.aW,T.dh,wR,r,rfl,⟨_,bU.of (s1 _ _ h2)⟩,λL W=>?_⟩;have b3:bl≠L:=aF J W;have bj:bK H1 (upd H1 L (.lst [])):=aq W;let W9:Nat->List V->St->Hp->Prop:=λi zs ac H'=>(∃o,ac=[o,some (.ref a),some (.int d)])/\bK H1 H'/\H' L=some (.lst zs)/\zs.length<=i/\aG H' zs ((((g.rd.take i).filter λe=>decide (e≠d)).map λe=>(e,Let.back p .no)).map pairD);refine Tg (xs:=g.rd.map nV) W9 ?_ ?_ ?_ ?_;{exact⟨⟨_,rfl⟩,bj,aj,Nat.le_refl _,by simp[aG]⟩};{rintro i zs ac H' _ ⟨_,s',I,_⟩;exact⟨bU.of (s' _ _ (s1 _ _ h2)),I⟩};{rintro i y zs ac H' hy hi ⟨⟨o,rfl⟩,s',I,hz,rp⟩;rw[length_map]at hi;have bn:y=.int (g.rd[i]:Nat):=by{rw[getElem?_map,getElem?_eq_getElem hi]at hy;exact(Option.some.inj hy).symm};subst bn;have ay:g.rd.take (i+1)=g.rd.take i++[g.rd[i]]:=by{rw[take_add_one,getElem?_eq_getElem hi];rfl};refine⟨_,rfl,_,rfl,rfl,_,rfl,?_⟩;by_cases e:g.rd[i]=d;{refine aL (by rw[e];simp) (Vo.mk (by rw[length_map];exact hi) ?_);refine⟨⟨_,rfl⟩,s',I,by lia,?_⟩;rw[ay,filter_append,filter_cons_of_neg (by simp[e])];simpa using rp};{refine bH (by rw[decide_eq_false λz=>e (by have:=V.int.inj z;lia)];rfl) ?_;refine⟨_,rfl,_,rfl,a,_,dx,_,_,rfl,s' _ _ l0,T.aW,T.gG,ZM,_,_,rfl,λb ad=>?_⟩;refine⟨sS,λcc Y=>?_⟩;have nb:L≠b:=aF I ad;have nc:L≠cc:=λz=>by{rw[<-z,az nb]at Y;rw[Y]at I;cases I};have ah:b≠cc:=λz=>by{rw[z,aj]at Y;cases Y};have aC:upd (upd H' b (.tup [.str "back",.int p,.str "none"])) cc (.tup [.int (g.rd[i]:Nat),.ref b]) L=some (.lst zs):=by{rw[az nc,az nb];exact I};have bo:zs.length<sizeLine:=by{lia};refine wK.mk (by rw[length_map];exact hi) aC bo ?_;have aE:bK H' (upd (upd H' b (.tup [.str "back",.int p,.str "none"])) cc (.tup [.int (g.rd[i]:Nat),.ref b])):=(aq ad).trans (aq Y);refine⟨⟨_,rfl⟩,?_,aj,by rw[length_append];simp;lia,?_⟩;{exact dB (s'.trans aE) W};{rw[ay,filter_append,filter_cons_of_pos (by simp[e]),filter_nil,map_append,map_append];have tm:=iB (vs:=zs++[.ref cc]) aC;refine aG.snoc ((rp.aU (aQ aE) (dm _)).aU tm (dm _)) ?_;exact Mz (b:=b) (x:=.no) (vs:=[]) (by rw[az nc.symm,aj]) (by rw[az nb.symm,az ah,aj];rfl)}}};{rintro zs ac H' ⟨_,s',I,hz,rp⟩;rw[length_map]at hz rp;rw[take_length]at rp;have aH:=s' _ _ J;refine⟨bl,L,as,zs,rfl,rfl,aH,.inl (bU.of I),by lia,?_⟩;have bp:H bl=none:=hb;refine hN _ _ ⟨rfl,dB (s1.trans s') bp,_,aj,?_⟩;have tm:=iB (vs:=as++zs) aH;have bq:oK g p d .wr=(g.rd.filter λe=>decide (e≠d)).map λe=>(e,Let.back p .no):=by{unfold oK;rw[if_pos rfl]};rw[aw,map_append,bq];exact aG.append ((ax.aU (aQ s') (dm _)).aU tm (dm _)) (rp.aU tm (dm _))}}};{rintro ac H2 ⟨rfl,s2,br,ad,bt⟩;exact⟨_,rfl,k bl br H2 hb s2 ad bt⟩}
theorem aG.cons_inv{H:Hp}{vs:List V}{d:D}{ds:List D}(h:aG H vs (d::ds)):∃v r,vs=v::r/\Rep H v d/\aG H r ds:=by simpa only[aG] using h
theorem aG.nil_inv{H:Hp}{vs:List V}(h:aG H vs []):vs=[]:=by simpa only[aG] using h
theorem aG.isEmpty{H:Hp}{vs:List V}{ds:List D}(h:aG H vs ds):vs.isEmpty=ds.isEmpty:=by
 have:=h.length;cases vs<;>cases ds<;>simp_all
theorem gH.yq{C:Addr}{H:Hp}{a r q l:Addr}{p:Nat}{g:PG}{vs:List V}(PA:gH C H a r q p g)(h:H l=some (.lst vs)):l≠a:=by
 obtain⟨⟨dx,h1⟩,_⟩:=PA;exact jP h h1 ⟨⟩
theorem gH.wrL{C:Addr}{H:Hp}{a r q l:Addr}{p:Nat}{g:PG}{us vs:List V}(PA:gH C H a r q p g)(h:H l=some (.lst us))(z:l≠r)(F:l≠q):gH C (upd H l (.lst vs)) a r q p g:=
 PA.keep (iB h) (λo e=>by rw[az (PA.yq h).symm];exact e) (λo e=>by rw[az z.symm];exact e) λo e=>by rw[az F.symm];exact e
theorem aoq(g:PG)(p d:Nat)(x:Rt):(oJ g p d x).length<=1:=by
 unfold oJ;split;{split<;>simp};{simp}
theorem aaK(g:PG)(p:Nat):(g.cL p).length<=g.rd.length+1:=by
 unfold PG.cL;split;{simp};{rename_i a r l _;rw[length_append];have h1:=aoq g p a r;have h2:(oK g p a r).length<=g.rd.length:=by{unfold oK;split;{rw[length_map];exact length_filter_le _ _};{simp}};lia}
theorem z7:∀(k:Nat) (g:PG) (p:Nat),(qD k g p).2.length<=k+g.mu+1
 | 0,g,p=>by simp[qD]
 | k+1,g,p=>by rw[qD];split;{have:=z7 k g.lent p;have h2:=g.um;have z:(g.dM p).length<=1:=by{unfold PG.dM;split<;>simp};simp only[length_append];lia};{have:=aaK g p;simp only;unfold PG.mu;lia}
theorem PG.z7(g:PG)(p:Nat):(g.serve p).2.length<=2*g.mu+1:=by
 have:=fV.z7 g.ask.length g p;unfold PG.serve;have h2:g.ask.length<=g.mu:=by{unfold PG.mu;lia};lia
theorem vZ(T:Txt K w mg t):cX P w K mg base mW 3 t.dC t.m7 ["self"] (asR t.aD):=by
 refine T.PN.ok m6 (λvs H Q E h=>?_) (λbn A outer s H vs Q E hr h=>?_);{obtain⟨a,r,q,p,g,rfl,_⟩:=h;rfl}
 ·obtain⟨a,r,q,p,g0,rfl,PA,aS,ax,k⟩:=h;have sl:sizeLine=16777216:=by{decide};refine⟨_,(ao (bu (i:=1) m6.nd rfl (Or.inl rfl) (bJ ak))
   (ao (Ov PassesOwn.never (GF (cM (pv 0) (by rfl)) (λ_=>rfl)) (ao (bu (i:=2) m6.nd rfl (Or.inl rfl) (rG (pv 0) T.aW T.uy (uA T) (hr.mono (by decide):bV 2 _) T.vY .nil bW))
   (ao (bY (GF (pv 2) (λ_=>rfl)) (ao (gO (pv 0) (cG cJ (by rfl) T.pL PySem.boot_len (aa (pv 2) ak)) (by rfl))
   (aA (aZ (bI mV (pv 1) (pv 2))))) bw)
   (aA (bN (dZ plainAttrs_list PySem.F.slot_list_append PySem.F.type_list_append cu (pv 1) (aa (rG (pv 0) T.aW T.xO (xP T) (hr.mono (by decide):bV 2 _) T.zZ .nil bW) ak)))))))
   (aA (aZ (pv 1))))),?_⟩
  try dsimp only[dj,Cx.kE]
  show let Z1:L2.TS:=_;let Z2:L2.TS:=_;let Z3:L2.TS:=_;let Z4:L2.TS:=_;let Z5:L2.TS:=aV Z3 (Z4);let Z6:L2.TS:=cR _ Z5 bM;let Z7:L2.TS:=_;let Z8:L2.TS:=aV Z2 (aV Z6 (Z7));let Z9:L2.TS:=Zk _ Z8;let z8:L2.TS:=_;let D0:Ends:=_;(aV Z1 (aV Z9 (z8))) D0 _ _;intro Z1 Z2 Z3 Z4 Z5 Z6 Z7 Z8 Z9 z8 D0;refine⟨wF,λl hl=>?_⟩;have aT:l≠r:=(aF PA.rl hl).symm;have aX:l≠q:=by{obtain⟨_,_,⟨vs,h3,_⟩,_⟩:=PA;exact(aF h3 hl).symm};refine⟨λm σ H1=>∃o g J vs I,σ=[some (.ref a),some (.ref l),o]/\(J=r\/H J=none)/\l≠J/\gH t.aD H1 a J q p g/\PF H H1 a r q/\H1 l=some (.lst vs)/\aG H1 vs (I.map pairD)/\Rw g.ask/\g.mu<=1000000/\I.length+g.ask.length<=g0.ask.length/\
   (g0.serve p).1=(g.serve p).1/\(g0.serve p).2=I++(g.serve p).2/\m=g.ask.length,⟨_,none,g0,r,[],[],rfl,.inl rfl,aT,PA.new hl,PF.new hl,aj,by simp[aG],aS,ax,by simp,rfl,by simp,rfl⟩,?_⟩
  rintro m σ H1 ⟨o,g,J,vs,I,rfl,ad,am,P1,f1,an,rp,ay,aB,asW,ap,ar,rfl⟩;have bo:g0.ask.length<=1000000:=by{unfold PG.mu at ax;lia};have bp:vs.length=I.length:=by{rw[rp.length,length_map]};obtain⟨⟨dx,h1⟩,h2,⟨us,h3,h4⟩,h5⟩:=id P1;refine⟨_,rfl,a,_,dx,_,_,rfl,h1,T.aW,T.dq,uL,_,.inl ⟨us,bU.of h3,rfl⟩,?_⟩;cases L:g.ask with
  | nil=>rw[L]at h4;have:=aG.nil_inv (by simpa using h4);subst this;refine aL rfl ?_;refine⟨_,rfl,k l J vs H1 hl ad am ?_ f1 an ?_⟩;{rw[ap,uJ L];exact P1};{rw[ar,uJ L,append_nil];exact rp}
  | cons x0 q0=>
    obtain⟨d,x⟩:=x0;have hx:x=.rd\/x=.wr:=ay (d,x) (by rw[L];simp);have ae:g.ask≠[]:=by{rw[L];simp};have al:us.length=g.ask.length:=by{rw[h4.length,length_map]};have aC:g.rd.length<=1000000:=by{unfold PG.mu at aB;lia};refine bH (by cases us with | nil=>rw[L]at al;simp at al | cons _ _=>rfl) ?_;refine⟨λbh H'=>∃m',m'<q0.length+1/\∃o g J vs I,bh=[some (.ref a),some (.ref l),o]/\(J=r\/H J=none)/\l≠J/\gH t.aD H' a J q p g/\PF H H' a r q/\H' l=some (.lst vs)/\aG H' vs (I.map pairD)/\Rw g.ask/\g.mu<=1000000/\I.length+g.ask.length<=g0.ask.length/\
     (g0.serve p).1=(g.serve p).1/\(g0.serve p).2=I++(g.serve p).2/\m'=g.ask.length,λbh H' z=>z,?_⟩
    refine⟨_,rfl,a,dx,_,rfl,h1,ap6,a,J,q,p,g,d,x,q0,rfl,P1,L,hx,aC,λb bs H2 hb s2 af aE=>?_⟩;have P2:=P1.same s2;have O:=s2 _ _ an;have bt:b≠l:=(aF an hb).symm;obtain⟨⟨W,g1⟩,_⟩:=id P2;have ag:bs.length=(g.cL p).length:=by{rw[aE.length,length_map]};refine⟨_,rfl,_,.inl ⟨bs,bU.of af,rfl⟩,?_⟩;by_cases he:g.cL p=[]
    ·have e0:bs=[]:=by{rw[he]at ag;exact length_eq_zero_iff.mp ag};subst e0;refine aL rfl ?_;refine⟨_,rfl,.inl ⟨rfl,_,bU.of O⟩,_,rfl,a,W,_,rfl,g1,aiS,a,J,q,p,g,d,x,q0,rfl,P2,L,hx,aC,λv r2 H3 aH P3 f3 rv=>?_⟩;have nq:l≠q:=aX;have Y:H3 l=some (.lst vs):=f3.kp l _ O (P2.yq O) am nq;have aI:l≠r2:=by{rcases aH with z | z;{rw[z];exact am};{exact aF O z}};have t3:=f3.tups P2;refine⟨l,vs,v,rfl,rfl,Y,by lia,?_⟩;refine⟨_,?_,_,g.lent,r2,vs++[v],I++[(d,.lend p x g.num)],rfl,?_,aI,P3.wrL Y aI nq,?_,aj,?_,?_,Nat.le_trans g.um aB,?_,?_,?_,rfl⟩;{rw[PG.zz,L];simp};{rcases aH with z | z;{rw[z];exact ad};{exact .inr (f1.lv _ (Lv.same s2 _ z))}}
     ·refine⟨λb' o' e' Z ah ai=>?_,f1.lv.trans ((Lv.same s2).trans (f3.lv.trans Lv.upd))⟩;have au:=s2 _ _ (f1.kp b' o' e' Z ah ai);have a2:=f3.kp b' o' au Z (by
       rcases ad with z | z
       ·rw[z];exact ah
       ·exact aF e' z) ai
      rw[az (aF e' hl)];exact a2
     ·rw[map_append];exact aG.snoc (((rp.aU (aQ s2) (dm _)).aU t3 (dm _)).aU (iB Y) (dm _)) (rv.aU (iB Y) (by simp[pairD,D.flat,D.flats];exact Let.flat _))
     ·have:g.lent.ask=q0:=by{unfold PG.lent;rw[L];dsimp only;split<;>rfl};rw[this];intro y hy;exact ay y (by rw[L];exact mem_cons_of_mem _ hy)
     ·rw[PG.zz,L,length_append];rw[L]at asW;simp at asW ⊢;lia
     ·rw[ap,qF ae he]
     ·rw[ar,qF ae he];have:g.dM p=[(d,.lend p x g.num)]:=by{unfold PG.dM;rw[L]};rw[this,append_assoc]
    ·refine bH (by cases bs with | nil=>exact absurd (length_eq_zero_iff.mp ag.symm) he | cons _ _=>rfl) ?_;refine⟨_,rfl,b,bs,rfl,.inl (bU.of af),_,rfl,a,_,W,_,rfl,g1,T.aW,T.eV,wV,?_⟩;rw[aiR];have P3:=P2.wr (dx:=W) (g':={g with miss:=(bs.length:Int)}) rfl rfl;have Y:upd H2 a (.ins t.aD W (Dz p {g with miss:=(bs.length:Int)} J q)) l=some (.lst vs):=by{rw[az (P2.yq O)];exact O};have a3:upd H2 a (.ins t.aD W (Dz p {g with miss:=(bs.length:Int)} J q)) b=some (.lst bs):=by{rw[az (P2.yq af)];exact af};have t3:cz H2 (upd H2 a (.ins t.aD W (Dz p {g with miss:=(bs.length:Int)} J q))):=λb' xs e=>by{rw[az (jP e g1 ⟨⟩)];exact e};have bB:=aaK g p;refine⟨_,rfl,_,rfl,l,b,vs,bs,rfl,rfl,Y,a3,by lia,λc hc=>?_⟩;have aK:H c=none:=f1.lv _ (Lv.same s2 _ (Lv.upd _ hc));refine k c J (vs++bs) _ aK ad ?_ ?_ ?_ aj ?_;{exact(aF P3.rl hc).symm};{rw[ap,uK ae he,<-ag];exact P3.new hc};{refine⟨λb' o' e' Z ah ai=>?_,f1.lv.trans ((Lv.same s2).trans (Lv.upd.trans Lv.upd))⟩;have au:=s2 _ _ (f1.kp b' o' e' Z ah ai);rw[az (aF e' aK),az Z];exact au};{rw[ar,uK ae he,map_append];have tc:=aQ (aq (o:=.lst (vs++bs)) hc);exact aG.append (((rp.aU (aQ s2) (dm _)).aU t3 (dm _)).aU tc (dm _)) ((aE.aU t3 (dm _)).aU tc (dm _))}
theorem CJ(T:Txt K w mg t):cX P w K mg base mW 1 t.cO t.jJ ["self","desk","number"] (axc t.aD):=by
 refine T.Fg.ok BJ (λvs H Q E h=>?_) (λaf A outer s H vs Q E hr h=>?_);{obtain⟨a,r,q,p,g,d,n,rfl,_⟩:=h;rfl}
 ·obtain⟨a,r,q,p,g,d,n,rfl,PA,k⟩:=h;refine⟨_,(ao (gO (pv 0) (pv 2) (by rfl))
   (ao (bY (aP cQ (cM (pv 0) (by rfl)) (pv 1) (aY _)) (aA (gO (pv 0) uO (by rfl))) bw)
   (aA (aZ (bJ ak))))),?_⟩
  try dsimp only[dj,Cx.kE]
  show let I:L2.TS:=_;let J:L2.TS:=_;let L:L2.TS:=cR _ J bM;let O:L2.TS:=_;let W:Ends:=_;(aV I (aV L (O))) W _ _;intro I J L O W;obtain⟨⟨dx,h1⟩,_⟩:=id PA;refine⟨_,rfl,_,rfl,a,_,dx,_,rfl,h1,T.aW,T.fL,wV,?_⟩;rw[amS];have F:=PA.wr (dx:=dx) (g':={g with num:=n}) rfl rfl;have f1:PF H (upd H a (.ins t.aD dx (Dz p {g with num:=n} r q))) a r q:=PF.wr;generalize upd H a (.ins t.aD dx (Dz p {g with num:=n} r q))=H1 at F f1;try dsimp only[bM]
  refine gF (λY H'=>Y=[some (.ref a),some (.int d),some (.int n)]/\gH t.aD H' a r q p {g with num:=n,wr:=if g.wr=some d then none else g.wr}/\PF H H' a r q) (λN Z=>?_) ?_;{obtain⟨⟨zq,g1⟩,_⟩:=id F;have sc:awr (wrV g.wr) (.int d)=true:=by{cases g.wr<;>rfl};refine⟨_,rfl,a,_,zq,_,_,rfl,g1,T.aW,T.cB,uU,_,rfl,sc,_,rfl,?_⟩;by_cases e:g.wr=some d;{refine bH (by show decide (wrV g.wr=V.int d)=true;rw[e];exact decide_eq_true rfl) ?_;refine⟨_,rfl,a,_,zq,_,rfl,g1,T.aW,T.cB,wV,?_⟩;rw[amT];refine Z _ _ ⟨rfl,?_,f1.trans PF.wr⟩;rw[if_pos e];exact F.wr rfl rfl};{refine aL (decide_eq_false λz=>e ?_) ?_;{cases hw:g.wr with| none=>rw[hw]at z;cases z| some x=>rw[hw]at z;have:=V.int.inj z;exact congrArg some (by lia)};{refine Z _ _ ⟨rfl,?_,f1⟩;rw[if_neg e];exact F}}};{rintro Y H2 ⟨rfl,P2,f2⟩;refine⟨wF,λl hl=>?_⟩;exact k l r [] _ (f2.lv _ hl) (.inl rfl) (aF P2.rl hl).symm (P2.new hl) (f2.trans (PF.new hl)) aj (by simp[PG.take,aG])}
theorem Ft(T:Txt K w mg t):cX P w K mg base mW 4 t.cT t.jY ["self","desk","right"] (aAl t.aD):=by
 refine T.HD.ok EY (λvs H Q E h=>?_) (λap A outer s H vs Q E hr h=>?_);{obtain⟨a,r,q,p,g,x,d,rfl,_⟩:=h;rfl}
 ·obtain⟨a,r,q,p,g,x,d,rfl,PA,hx,Y,J,k⟩:=h;have sl:sizeLine=16777216:=by{decide};refine⟨_,(ao (bN (dZ plainAttrs_list PySem.F.slot_list_append PySem.F.type_list_append cu (cM (pv 0) (by rfl)) (aa (b7 (aa (pv 1) (aa (pv 2) ak))) ak)))
   (aA (aZ (rE (aP cQ (cG cJ (by rfl) T.pL PySem.boot_len (aa (cM (pv 0) (by rfl)) ak)) aB (aY _)) (rG (pv 0) T.aW T.vW (vZ T) (hr.mono (by decide):bV 3 _) T.xN .nil bW) (bJ ak))))),?_⟩
  try dsimp only[dj,Cx.kE]
  show let Z1:L2.TS:=_;let Z2:L2.TS:=_;let D0:Ends:=_;(aV Z1 (Z2)) D0 _ _;intro Z1 Z2 D0;obtain⟨⟨dx,h1⟩,h2,⟨vs,h3,h4⟩,h5⟩:=id PA;have au:vs.length=g.ask.length:=by{rw[h4.length,length_map]};have av:g.ask.length<=900000:=by{unfold PG.mu at J;lia};refine⟨_,rfl,a,_,dx,_,_,rfl,h1,T.aW,T.dq,uL,.inl ⟨rfl,_,bU.of h3⟩,_,rfl,_,rfl,sS,λI ht=>?_⟩;have s1:=aq (o:=.tup [.int d,.str x.s]) ht;refine⟨q,vs,_,rfl,rfl,s1 _ _ h3,by lia,?_⟩;have rp:aG (upd H I (.tup [.int d,.str x.s])) (vs++[.ref I]) ((g.ask++[(d,x)]).map uh):=by{rw[map_append];refine aG.snoc (h4.aU (aQ s1) (lQ _)) ?_;simp only[uh,Rep,aG];exact⟨I,_,rfl,aj,_,_,rfl,rfl,_,_,rfl,rfl,rfl⟩};have L:=(PA.same s1).wrQ (l:=g.ask++[(d,x)]) rp;have f1:PF H (upd (upd H I (.tup [.int d,.str x.s])) q (.lst (vs++[.ref I]))) a r q:=(PF.new ht).trans PF.wrQ;generalize upd (upd H I (.tup [.int d,.str x.s])) q (.lst (vs++[.ref I]))=H1 at L f1;obtain⟨⟨zq,g1⟩,_,⟨us,g3,g4⟩,_⟩:=id L;have Z:us.length=g.ask.length+1:=by{rw[g4.length,length_map];simp};refine⟨_,rfl,a,_,zq,_,_,rfl,g1,T.aW,T.dq,uL,q,us,rfl,.inl (bU.of g3),rfl,_,rfl,?_⟩;by_cases e:g.ask=[];{refine bH (decide_eq_true (by rw[Z,e];rfl)) ?_;refine⟨_,rfl,a,zq,_,rfl,g1,aeE,a,r,q,p,_,rfl,L,?_,?_,λl r' ws H' hl ac nl P' f' ad ae=>?_⟩;{intro y O;rcases mem_append.mp O with O | O;{exact Y y O};{have:y=(d,x):=by{simpa using O};rw[this];exact hx}};{unfold PG.mu at J ⊢;simp;lia};{have W:g.take p d (.ask p x)=PG.serve {g with ask:=g.ask++[(d,x)]} p:=by{simp only[PG.take];rw[if_pos e,e];rfl};refine k l r' ws H' (f1.lv _ hl) ?_ nl ?_ (f1.trans f') ad ?_;{rcases ac with z | z;{exact .inl z};{exact .inr (f1.lv _ z)}};{rw[W];exact P'};{rw[W];exact ae}}};{refine aL (decide_eq_false ?_) ?_;{intro z;have z1:=V.int.inj z;have:g.ask.length≠0:=λy=>e (length_eq_zero_iff.mp y);lia};refine⟨wF,λl hl=>?_⟩;have W:g.take p d (.ask p x)=({g with ask:=g.ask++[(d,x)]},[]):=by{simp only[PG.take];rw[if_neg e]};exact k l r [] _ (f1.lv _ hl) (.inl rfl) (aF L.rl hl).symm (by rw[W];exact L.new hl) (f1.trans (PF.new hl)) aj (by rw[W];simp[aG])}
theorem yU(T:Txt K w mg t):cX P w K mg base mW 4 t.cF t.jm ["self","number"] (aAm t.aD):=by
 refine T.zX.ok yE (λvs H Q E h=>?_) (λbb A outer s H vs Q E hr h=>?_);{obtain⟨a,r,q,p,g,o,d,rfl,_⟩:=h;rfl}
 ·obtain⟨a,r,q,p,g,o,d,rfl,PA,ay,af,O,k⟩:=h;have sl:sizeLine=16777216:=by{decide};refine⟨_,(ao (bY (yo (wH (pv 1))) (aA (gO (pv 0) (pv 1) (by rfl))) bw)
   (ao (an0 (pv 0) aB awt)
   (ao (bY (aP uQ (cM (pv 0) (by rfl)) aB (aY _)) (aA (aZ (bJ ak))) bw)
   (aA (aZ (bI mV (bJ (aa (rG (pv 0) T.aW T.xO (xP T) (hr.mono (by decide):bV 2 _) T.zZ .nil bW) ak)) (rG (pv 0) T.aW T.vW (vZ T) (hr.mono (by decide):bV 3 _) T.xN .nil bW))))))),?_⟩
  try dsimp only[dj,Cx.kE]
  show let Z1:L2.TS:=_;let Z2:L2.TS:=cR _ Z1 bM;let Z3:L2.TS:=_;let Z4:L2.TS:=_;let Z5:L2.TS:=cR _ Z4 bM;let Z6:L2.TS:=_;let D0:Ends:=_;(aV Z2 (aV Z3 (aV Z5 (Z6)))) D0 _ _;intro Z1 Z2 Z3 Z4 Z5 Z6 D0;try dsimp only[bM]
  refine gF (λa5 H'=>a5=[some (.ref a),some (oV o)]/\gH t.aD H' a r q p {g with num:=o.getD g.num}/\PF H H' a r q) (λN hN=>?_) ?_;{obtain⟨⟨dx,h1⟩,_⟩:=id PA;refine⟨_,rfl,_,rfl,?_⟩;cases o with| none=>refine aL rfl ?_;exact hN _ _ ⟨rfl,PA,PF.refl _ _ _ _⟩| some n=>refine bH rfl ?_;refine⟨_,rfl,_,rfl,a,_,dx,_,rfl,h1,T.aW,T.fL,wV,?_⟩;show N _ (upd H a (.ins _ dx (gJ "number" (.int n) _)));rw[amS];exact hN _ _ ⟨rfl,PA.wr rfl rfl,PF.wr⟩};{rintro a5 H1 ⟨rfl,P1,f1⟩;obtain⟨⟨dx,h1⟩,_⟩:=id P1;refine⟨_,rfl,a,_,dx,_,_,rfl,h1,T.aW,T.eV,Vq,_,_,rfl,rfl,dx,_,h1,wV,?_⟩;rw[aiR];have P2:=P1.wr (dx:=dx) (g':={g with num:=o.getD g.num,miss:=g.miss - 1}) rfl rfl;have W:PF H (upd H1 a (.ins t.aD dx (Dz p {g with num:=o.getD g.num,miss:=g.miss - 1} r q))) a r q:=f1.trans PF.wr;generalize upd H1 a (.ins t.aD dx (Dz p {g with num:=o.getD g.num,miss:=g.miss - 1} r q))=H2 at P2 W;generalize hg:({g with num:=o.getD g.num,miss:=g.miss - 1}:PG)=F at P2;have J:F.ask=g.ask:=by{rw[<-hg]};have Y:F.rd=g.rd:=by{rw[<-hg]};have ag:F.miss=g.miss - 1:=by{rw[<-hg]};obtain⟨⟨ah,g1⟩,_⟩:=id P2;refine⟨_,rfl,a,_,ah,_,_,rfl,g1,T.aW,T.eV,Vq,rfl,_,rfl,?_⟩;have ek:g.take p d (.ans p o)=if g.miss - 1=0 then((F.lent.serve p).1,F.dM p++(F.lent.serve p).2)else(F,[]):=by{simp only[PG.take];rw[hg]};by_cases e:g.miss - 1=0;{refine aL (by rw[ag,e];rfl) ?_;rw[if_pos e]at ek;cases yS:F.ask with| nil=>exact absurd (J▸yS) (ay e)| cons x0 q0=>obtain⟨d0,x⟩:=x0;have hx:x=.rd\/x=.wr:=af (d0,x) (by rw[<-J,yS];simp);have az:F.rd.length<=1000000:=by{rw[Y];unfold PG.mu at O;lia};refine⟨_,rfl,a,ah,_,rfl,g1,aiS,a,r,q,p,F,d0,x,q0,rfl,P2,yS,hx,az,λv r1 H3 aE P3 f3 rv=>?_⟩;refine⟨zz1,λL I=>?_⟩;have P4:=P3.new (o:=.lst [v]) I;have f4:PF H2 (upd H3 L (.lst [v])) a r q:=f3.trans (PF.new I);have aH:L≠r1:=(aF P3.rl I).symm;have aI:L≠q:=by{obtain⟨_,_,⟨us,g3,_⟩,_⟩:=P3;exact(aF g3 I).symm};have Z:upd H3 L (.lst [v]) L=some (.lst [v]):=aj;have am:=Rep.aU (aQ (aq (o:=.lst [v]) I)) (show(pairD (d0,.lend p x F.num)).flat by simp only[pairD,D.flat,D.flats];exact⟨trivial,Let.flat _,trivial⟩) rv;have bg:=f3.lv _ I;generalize upd H3 L (.lst [v])=H4 at P4 f4 Z am;obtain⟨⟨aJ,k1⟩,_⟩:=id P4;have aK:F.lent.ask=q0:=by{unfold PG.lent;rw[yS];dsimp only;split<;>rfl};refine⟨_,rfl,a,aJ,_,rfl,k1,aeE,a,r1,q,p,_,rfl,P4,?_,?_,λl r' ws H5 hl an nl P5 f5 aM ap=>?_⟩;{rw[aK];intro y hy;exact af y (by rw[<-J,yS];exact mem_cons_of_mem _ hy)};{refine Nat.le_trans F.um ?_;unfold PG.mu at O ⊢;rw[J,Y];lia};{have aN:H5 L=some (.lst [v]):=f5.kp L _ Z (P4.yq Z) aH aI;have wl:ws.length<=3000000:=by{rw[ap.length,length_map];have h8:=F.lent.z7 p;have h9:=F.um;have bl:F.mu<=900000:=by{unfold PG.mu at O ⊢;rw[J,Y];lia};lia};refine⟨L,l,[v],ws,rfl,rfl,aN,aM,(by simp only[length_singleton];lia),λc hc=>?_⟩;have as:r1=r\/H r1=none:=by{rcases aE with z | z;{exact .inl z};{exact .inr (W.lv _ z)}};refine k c r' ([v]++ws) _ (W.lv _ (f4.lv _ (f5.lv _ hc))) ?_ (aF P5.rl hc).symm (by rw[ek];exact P5.new hc) ((W.trans f4).trans' (f5.trans' (PF.new hc) an) as) aj ?_;{rcases an with z | z;{rw[z];exact as};{exact .inr (W.lv _ (f4.lv _ z))}};{rw[ek];have aO:F.dM p=[(d0,.lend p x F.num)]:=by{unfold PG.dM;rw[yS]};rw[aO,map_append];have tc:=aQ (aq (o:=.lst ([v]++ws)) hc);refine aG.append ?_ (ap.aU tc (dm _));simp only[map_cons,map_nil,aG];have hfl:(pairD (d0,.lend p x F.num)).flat:=by{simp only[pairD,D.flat,D.flats];exact⟨trivial,Let.flat _,trivial⟩};exact⟨v,[],rfl,Rep.aU tc hfl (Rep.aU (f5.tups P4) hfl am),rfl⟩}}};{refine bH (by rw[ag];rw[decide_eq_false λz=>e (V.int.inj z)];rfl) ?_;rw[if_neg e]at ek;refine⟨wF,λl hl=>?_⟩;exact k l r [] _ (W.lv _ hl) (.inl rfl) (aF P2.rl hl).symm (by rw[ek];exact P2.new hl) (W.trans (PF.new hl)) aj (by rw[ek];simp[aG])}}
theorem afZ(T:Txt K w mg t):cX P w K mg base mW 5 t.iZ t.Ce ["self","desk","letter"] (aly t.iD t.aD):=by
 refine T.ajn.ok Py (λvs H Q E h=>?_) (λav A outer s H vs Q E hr h=>?_);{obtain⟨A,m,G,b,l,d,rfl,_⟩:=h;rfl}
 ·obtain⟨A0,m,G,b,l,d,rfl,Z,L,hp,hg,ac,ad,k⟩:=h;refine⟨_,(ao (bu (i:=3) Py.nd rfl (Or.inl rfl) (aN bz (cM (pv 0) (by rfl)) (aN bC (pv 2) aB (λ_ _=>rfl)) (λ_ _=>rfl)))
   (ao (bY (aP cQ (aN bC (pv 2) aB (λ_ _=>rfl)) aC (aY _)) (aA (aZ (cI (pv 3) T.aW T.Ff (Ft T) (hr.mono (by decide):bV 4 _) T.HH .nil bW (aa (pv 1) (aa (aN bC (pv 2) aB (λ_ _=>rfl)) ak))))) bw)
   (ao (bY (aP cQ (aN bC (pv 2) aB (λ_ _=>rfl)) aC (aY _)) (aA (aZ (cI (pv 3) T.aW T.yP (yU T) (hr.mono (by decide):bV 4 _) T.zY .nil bW (aa (aN bC (pv 2) aB (λ_ _=>rfl)) ak)))) bw)
   (aA (aZ (cI (pv 3) T.aW T.Cr (CJ T) (hr.mono (by decide):bV 1 _) T.Fi .nil bW (aa (pv 1) (aa (aN bC (pv 2) aB (λ_ _=>rfl)) ak)))))))),?_⟩
  try dsimp only[dj,Cx.kE]
  show let Z1:L2.TS:=_;let Z2:L2.TS:=_;let Z3:L2.TS:=cR _ Z2 bM;let Z4:L2.TS:=_;let Z5:L2.TS:=cR _ Z4 bM;let Z6:L2.TS:=_;let D0:Ends:=_;(aV Z1 (aV Z3 (aV Z5 (Z6)))) D0 _ _;intro Z1 Z2 Z3 Z4 Z5 Z6 D0;obtain⟨dx,h1⟩:=Z.ob;have af:=Z.pl;have PA:=Z.pg l.pg hp;obtain⟨⟨zq,g1⟩,_⟩:=id PA;refine⟨_,rfl,A0 .hall,_,dx,_,_,rfl,h1,T.alK,T.rD,aof,zt rfl (cW.of L) (UL.at1 l) ⟨A0 .pages,_,_,_,rfl,rfl,bU.of af,bR hp,?_⟩⟩;have O:∀lst J vs H',H lst=none->(J=A0 (.jn l.pg)\/H J=none)->lst≠J->gH t.aD H' (A0 (.gP l.pg)) J (A0 (.kh l.pg)) l.pg ((G l.pg).take l.pg d l).1->PF H H' (A0 (.gP l.pg)) (A0 (.jn l.pg)) (A0 (.kh l.pg))->H' lst=some (.lst vs)->aG H' vs (((G l.pg).take l.pg d l).2.map pairD)->Q (.ref lst) H':=λlst J vs H' hl F nl W Y I rp=>by{obtain⟨ah,hf⟩:=Z.page hp W Y F;refine k lst _ vs H' hl ah hf (λx hx=>?_) (λx hx=>?_) (bO _ _ ⟨⟩) I rp;{by_cases e:x=.jn l.pg;{rw[e,di];exact F};{rw[bO _ _ e];exact .inl rfl}};{by_cases e:x=.jn l.pg;{rw[e,di];exact nl};{rw[bO _ _ e];intro z;obtain⟨o,e1,_⟩:=Z.live x hx;rw[<-z,hl]at e1;cases e1}}};cases l with| ask p x=>refine zt rfl (cW.of L) rfl ⟨rfl,_,rfl,?_⟩;refine bH fQ ?_;refine⟨_,rfl,_,zq,_,rfl,g1,aw5,_,rfl,zt rfl (cW.of L) rfl ⟨_,_,_,p,G p,x,d,rfl,PA,hg,ac,ad,λlst J vs H' hl F nl W Y I rp=>O lst J vs H' hl F nl W Y I rp⟩⟩| ans p o=>refine zt rfl (cW.of L) rfl ⟨rfl,_,rfl,?_⟩;refine aL (du ∅) ?_;refine zt rfl (cW.of L) rfl ⟨rfl,_,rfl,?_⟩;refine bH fQ ?_;refine⟨_,rfl,_,zq,_,rfl,g1,aw6,zt rfl (cW.of L) rfl ⟨_,_,_,p,G p,o,d,rfl,PA,hg,ac,ad,λlst J vs H' hl F nl W Y I rp=>O lst J vs H' hl F nl W Y I rp⟩⟩| gave p n=>refine zt rfl (cW.of L) rfl ⟨rfl,_,rfl,?_⟩;refine aL (du ∅) ?_;refine zt rfl (cW.of L) rfl ⟨rfl,_,rfl,?_⟩;refine aL (du ∅) ?_;refine⟨_,rfl,_,zq,_,rfl,g1,aw7,_,rfl,zt rfl (cW.of L) rfl ⟨_,_,_,p,G p,d,n,rfl,PA,λlst J vs H' hl F nl W Y I rp=>O lst J vs H' hl F nl W Y I rp⟩⟩
theorem af0(T:Txt K w mg t):cX P w K mg base mW 3 t.iY t.Cd ["self","numbers"] (alA t.iD t.aD):=by
 refine T.ajl.ok afF (λvs H Q E h=>?_) (λaS A outer s H vs Q E hr h=>?_);{obtain⟨h,dx,l,ns,rfl,_⟩:=h;rfl}
 ·obtain⟨h,dx,l,ns,rfl,hh,hl,aU,k⟩:=h;have sl:sizeLine=16777216:=by{decide};refine⟨_,(aA (gO (pv 0) (mO (gD (xs:=["page","number"]) (ys:=[]) (js:=[]) rfl ∅ ∅ ∅ (by rfl) trivial) rfl (amP (by rfl) T.VD (aa (pv 1) ak)) (λ_ _ _ _ _=>(amW (K:=K) (n:=2) rfl rfl (dJ (cj (i:=0) (show Nodup ((["page","number"]:List Str)++([]:List Str):List Str)by decide +kernel) rfl (Or.inl rfl)) (dJ (cj (i:=1) (show Nodup ((["page","number"]:List Str)++([]:List Str):List Str)by decide +kernel) rfl (Or.inl rfl)) ug)))) (λ_ _ _ _ _=>oG) (λ_ _ _ _ _=>(afm T.Cq (Qu T) (hr.mono (by decide):bV 2 _) (by rfl) T.ajc T.Tz .nil bW (aa (pv 0) (aa (pv 1) ak))))) (by rfl))),?_⟩;try dsimp only[dj,Cx.kE]
  refine⟨_,rfl,l,rfl,⟨_,bU.of hl⟩,λI W=>?_⟩;have ap:h≠I:=aF hh W;refine aeB (xs:=ns.map V.int) (λi zs av H'=>(∃o1 o2,av=[o1,o2])/\bK H H'/\H' I=some (.lst zs)/\∃A:Hb->Addr,A .pages=I/\A .hall=h/\(∀x y:Hb,x.ok i->y.ok i->A x=A y->x=y)/\(∀x:Hb,x.ok i->x≠.hall->H (A x)=none)/\zs=(range i).map (λp=>V.ref (A (.gP p)))/\
   ∀p,p<i->gH t.aD H' (A (.gP p)) (A (.jn p)) (A (.kh p)) p (pg0 ns p)) ?_ ?_ ?_ ?_
  ·refine⟨⟨_,_,rfl⟩,aq W,aj,λx=>if x=.hall then h else I,rfl,rfl,?_,?_,rfl,λp hp=>absurd hp (Nat.not_lt_zero _)⟩
   ·intro x y hx hy e;cases x<;>cases y<;>first
     | rfl
     | (exfalso;exact absurd hx (Nat.not_lt_zero _))
     | (exfalso;exact absurd hy (Nat.not_lt_zero _))
     | (exfalso;simp at e;exact ap e)
     | (exfalso;simp at e;exact ap e.symm)
   ·intro x hx hn;show H (if x=.hall then h else I)=none;rw[if_neg hn];exact W
  ·rintro i zs av H' _ ⟨_,s',J,_⟩;exact⟨bU.of (s' _ _ hl),J⟩
  ·rintro i y zs av H' b hy hi ⟨⟨o1,o2,rfl⟩,s',J,A,eA,eh,inj,fr,rfl,O⟩ hb;rw[length_map]at hi;have aB:y=.int ns[i]:=by{rw[getElem?_map,getElem?_eq_getElem hi]at hy;exact(Option.some.inj hy).symm};subst aB;refine⟨b,_,rfl,cW.of aj,rfl,_,_,rfl,_,_,rfl,rfl,?_⟩;refine amN ?_;refine⟨_,rfl,_,rfl,λx ar hx aC nx=>?_⟩;have ac:H' x=none:=Lv.upd _ hx;have aE:H' ar=none:=Lv.upd _ aC;refine⟨x,ar,i,ns[i],rfl,aj,λr q H3 aG aH P3 f3 aW=>⟨rfl,?_⟩⟩;have fb:∀c o,H' c=some o->H3 c=some o:=λc o e=>by{refine f3 c o ?_ (aF e ac);rw[az (aF e ac),az (aF e aE),az (aF e hb)];exact e};have ag:H' r=none:=Lv.upd _ (Lv.upd _ (Lv.upd _ aG));have ah:H' q=none:=Lv.upd _ (Lv.upd _ (Lv.upd _ aH));have ai:=fb _ _ J;have live:∀z:Hb,z.ok i->∃o,H' (A z)=some o:=λz F=>by
    cases z with
    | hall=>rw[eh];exact⟨_,s' _ _ hh⟩
    | pages=>rw[eA];exact⟨_,J⟩
    | gP p=>obtain⟨⟨dz,e⟩,_⟩:=O p F;exact⟨_,e⟩
    | jn p=>exact⟨_,(O p F).rl⟩
    | kh p=>obtain⟨vs,e,_⟩:=(O p F).al;exact⟨_,e⟩
   have aI:x≠r:=P3.nar;have aJ:x≠q:=P3.naq;have aK:r≠q:=P3.ne;have aL:((range i).map λp=>V.ref (A (.gP p))).length<sizeLine:=by{rw[length_map,length_range];lia};refine wK.mk (by rw[length_map];exact hi) ai aL ?_;have sn:bK H (upd H3 I (.lst ((range i).map (λp=>V.ref (A (.gP p)))++[.ref x]))):=dB (λc o e=>fb c o (s' c o e)) W;have tm:cz H' (upd H3 I (.lst ((range i).map (λp=>V.ref (A (.gP p)))++[.ref x]))):=(λc xs e=>iB ai c xs (fb c _ e));have nn:∀(z:Hb) (a:Addr),z.ok i->H' a=none->A z≠a:=λz a F e e2=>by{obtain⟨o,e3⟩:=live z F;rw[e2,e]at e3;cases e3};refine⟨⟨_,_,rfl⟩,sn,aj,kI (kI (kI A (.gP i) x) (.jn i) r) (.kh i) q,?_,?_,?_,?_,?_,?_⟩;{rw[bO _ _ ⟨⟩,bO _ _ ⟨⟩,bO _ _ ⟨⟩];exact eA};{rw[bO _ _ ⟨⟩,bO _ _ ⟨⟩,bO _ _ ⟨⟩];exact eh};{refine Zb (ok:=λz=>z=.jn i\/z=.gP i\/z.ok i) (Zb (ok:=λz=>z=.gP i\/z.ok i) (Zb inj (λz F=>nn z x F ac) (λz F=>F)) ?_ (λz F=>F)) ?_ ?_;{intro z F;by_cases e:z=.gP i;{rw[e,di];exact aI};{rw[bO _ _ e];exact nn z r (F.resolve_left e) ag}};{intro z F;by_cases e:z=.jn i;{rw[e,di];exact aK};{rw[bO _ _ e];by_cases e2:z=.gP i;{rw[e2,di];exact aJ};{rw[bO _ _ e2];exact nn z q ((F.resolve_left e).resolve_left e2) ah}}};{intro z F;cases z with| hall=>exact .inr (.inr (.inr trivial))| pages=>exact .inr (.inr (.inr trivial))| gP p=>have L:p<i+1:=F;by_cases e:p=i;{exact .inr (.inr (.inl (by rw[e])))};{exact .inr (.inr (.inr (show p<i by lia)))}| jn p=>have L:p<i+1:=F;by_cases e:p=i;{exact .inr (.inl (by rw[e]))};{exact .inr (.inr (.inr (show p<i by lia)))}| kh p=>have L:p<i+1:=F;by_cases e:p=i;{exact .inl (by rw[e])};{exact .inr (.inr (.inr (show p<i by lia)))}}};{intro z F hn;by_cases e1:z=.kh i;{rw[e1,di];exact bK.free s' ah};{rw[bO _ _ e1];by_cases e2:z=.jn i;{rw[e2,di];exact bK.free s' ag};{rw[bO _ _ e2];by_cases e3:z=.gP i;{rw[e3,di];exact bK.free s' ac};{rw[bO _ _ e3];refine fr z ?_ hn;cases z with| hall=>trivial| pages=>trivial| gP p=>have L:p<i+1:=F;exact show p<i from Nat.lt_of_le_of_ne (Nat.le_of_lt_succ L) λy=>e3 (by rw[y])| jn p=>have L:p<i+1:=F;exact show p<i from Nat.lt_of_le_of_ne (Nat.le_of_lt_succ L) λy=>e2 (by rw[y])| kh p=>have L:p<i+1:=F;exact show p<i from Nat.lt_of_le_of_ne (Nat.le_of_lt_succ L) λy=>e1 (by rw[y])}}}};{rw[range_succ,map_append];congr 1;{refine map_congr_left λp hp=>?_;have Y:p<i:=mem_range.mp hp;rw[bO _ _ ⟨⟩,bO _ _ ⟨⟩,bO _ _ (by intro z;cases z;exact Nat.lt_irrefl _ Y)]};{show [V.ref x]=[V.ref _];rw[bO _ _ ⟨⟩,bO _ _ ⟨⟩,di]}};{intro p hp;have Z:∀(c:Addr) (o:HO),H3 c=some o->c≠I->upd H3 I (.lst ((range i).map (λp=>V.ref (A (.gP p)))++[.ref x])) c=some o:=λc o e n=>by{rw[az n];exact e};by_cases e:p=i;{subst e;rw[bO _ _ ⟨⟩,bO _ _ ⟨⟩,di,bO _ _ ⟨⟩,di,di];have e0:pg0 ns p=⟨ns[p],none,[],[],0⟩:=by{unfold pg0;rw[getElem?_eq_getElem hi];rfl};rw[e0];exact P3.keep (iB ai) (λo e=>Z _ o e (aF J ac).symm) (λo e=>Z _ o e (aF J ag).symm) λo e=>Z _ o e (aF J ah).symm};{have Y:p<i:=by{lia};rw[bO _ _ ⟨⟩,bO _ _ ⟨⟩,bO _ _ (by intro z;cases z;exact e rfl),bO _ _ ⟨⟩,bO _ _ (by intro z;cases z;exact e rfl),bO _ _ ⟨⟩,bO _ _ (by intro z;cases z;exact e rfl),bO _ _ ⟨⟩,bO _ _ ⟨⟩];have na:∀z:Hb,z.ok i->z≠.pages->A z≠I:=λz F hn e2=>hn (inj z .pages F trivial (by rw[e2,eA]));exact(O p Y).keep tm (λo e=>Z _ o (fb _ o e) (na (.gP p) Y ⟨⟩)) (λo e=>Z _ o (fb _ o e) (na (.jn p) Y ⟨⟩)) λo e=>Z _ o (fb _ o e) (na (.kh p) Y ⟨⟩)}}
  ·rintro zs av H' ⟨_,s',J,A,eA,eh,inj,fr,rfl,O⟩;rw[length_map]at inj fr J O;refine⟨_,rfl,h,_,dx,[],rfl,s' _ _ hh,T.alK,T.rD,(by show 0<1000;decide),?_⟩;rw[ap9];have live:∀z:Hb,z.ok ns.length->z≠.hall->A z≠h:=λz F hn e=>hn (inj z .hall F trivial (by rw[e,eh]));have tm:cz H' (upd H' h (.ins t.iD dx (hfl I))):=λc xs e=>by{rw[az (jP e (s' _ _ hh) ⟨⟩)];exact e};have kk:∀z:Hb,z.ok ns.length->z≠.hall->∀o,H' (A z)=some o->upd H' h (.ins t.iD dx (hfl I)) (A z)=some o:=λz F hn o e=>by{rw[az (live z F hn)];exact e};refine k A _ eh fr ⟨inj,⟨dx,by rw[eh,eA,aj]⟩,?_,λp hp=>?_⟩ (λb o e hb=>by rw[az hb];exact s' b o e) ((Lv.same s').trans Lv.upd);{rw[eA,az (by rw[<-eA];exact live .pages trivial ⟨⟩)];exact J};{exact(O p hp).keep tm (kk (.gP p) hp ⟨⟩) (kk (.jn p) hp ⟨⟩) (kk (.kh p) hp ⟨⟩)}
theorem eZ{H:Hp}{a:Addr}{kvs:List (Key×V)}{k:Key}{v:V}(h:H a=some (.dK kvs))(e:gj kvs k=some v):J5 H a (kV k) (some v):=by rw[<-e];exact J5.k h
theorem dput{H:Hp}{a:Addr}{kvs z:List (Key×V)}{k:Key}{v:V}(h:H a=some (.dK kvs))(hl:kvs.length<sizeLine)(e:putK kvs k v=z):alo H a (kV k) v (upd H a (.dK z)):=by rw[<-e];exact alo.k h hl
theorem aAB{x y:V}{c:Bool}:S6 [x,y] (if c then 1 else 0)=some (if c then y else x):=by cases c<;>rfl
def Eb(S:TS)(se:List (Nat×Let))(k:Nat):Prop:=(∀d,(S.dn d).length+k<=16000000)/\se.length+k<=16000000
def axG:Sp:=λvs H Q _=>∃A n m S se,∃p:Nat,∃d x l,vs=[.ref (A .bf),.int p]/\bj H A n m S se/\p<m/\(S.pg p).ask=(d,x)::l/\(x=.rd\/x=.wr)/\(∀q∈(S.pg p).cL p,q.1<n)/\(S.pg p).rd.length<=1000000/\Eb S se ((S.pg p).cL p).length/\
 ∀H',bj H' A n m {S with dn:=post S.dn ((S.pg p).cL p)} (se++(S.pg p).cL p)->oN H H' A n m->Q (.int ((S.pg p).cL p).length) H'
def aaL(x:Nat×Let):D:=match x.2 with
 | .back _ r=>.t [.i x.1,.s r.s]
 | .lend _ r _=>.t [.i x.1,.s r.s]
theorem uN(l:List (Nat×Let)):D.flats (l.map aaL):=bc (λx=>by obtain⟨d,l⟩:=x;cases l<;>simp[aaL,D.flat,D.flats]) l
def aDY(p:Nat)(x:Nat×Let):Prop:=∃r,x.2=.back p r
theorem ath(g:PG)(p:Nat):∀q∈g.cL p,aDY p q:=by
 intro q z;unfold PG.cL at z;split at z;{cases z};{rename_i a r l _;rcases mem_append.mp z with h | h;{unfold oJ at h;split at h;{split at h;{cases h};{have this:=mem_singleton.mp h;rw[this];exact⟨_,rfl⟩}};{cases h}};{unfold oK at h;split at h;{obtain⟨d,_,e⟩:=mem_map.mp h;rw[<-e];exact⟨_,rfl⟩};{cases h}}}
theorem aqy{H:Hp}{vs:List V}{l:List (Nat×Let)}{i:Nat}{v:V}(r:aG H vs (l.map aaL))(z:vs[i]? = some v):∃x,l[i]? = some x/\Rep H v (aaL x):=by
 induction l generalizing vs i with| nil=>have:=aG.nil_inv (by simpa using r);subst this;simp at z| cons x l F=>obtain⟨u,us,rfl,I,J⟩:=aG.cons_inv (by simpa using r);cases i with| zero=>simp at z;subst z;exact⟨x,rfl,I⟩| succ i=>simp at z;obtain⟨y,h1,h2⟩:=F J z;exact⟨y,by simpa using h1,h2⟩
theorem aqz(T:Txt K w mg t):cX P w K mg base mW 1 t.xn t.aai ["_law_town","_law_page"] axG:=by
 refine T.anf.ok rK (λvs H Q E h=>?_) (λcm A outer s H vs Q E hr h=>?_);{obtain⟨A,n,m,S,se,p,d,x,l,rfl,_⟩:=h;rfl}
 ·obtain⟨A,n,m,S,se,p,d,x,l,rfl,M,hp,ha,W,hn,cq,ax,k⟩:=h;have hu:=kY hr;have sl:sizeLine=16777216:=by{decide};refine⟨_,(ao (bu (i:=2) rK.nd rfl (Or.inl rfl) (aN bz (bL hu (pv 0) aC (λ_ _=>rfl)) (pv 1) (λ_ _=>rfl)))
   (ao (uP (aN bz (bL hu (pv 2) aC (λ_ _=>rfl)) aB (λ_ _=>rfl)) (Gz rfl (dJ (cj (i:=3) rK.nd rfl (Or.inr rfl)) (dJ (cj (i:=4) rK.nd rfl (Or.inl rfl)) ug))))
   (ao (bu (i:=5) rK.nd rfl (Or.inl rfl) (bJ ak))
   (ao (bY (PW.pt (Gy (aP Oz (bL hu (pv 2) aC (λ_ _=>rfl)) aB (aY _)) (Ba (aP uQ (bL hu (pv 2) aC (λ_ _=>rfl)) (pv 3) (aY _))))) (aA (bN (dZ plainAttrs_list PySem.F.slot_list_append PySem.F.type_list_append cu (pv 5) (aa (b7 (aa (bL hu (pv 2) aC (λ_ _=>rfl)) (aa (aN bz (bJ (aa aC (aa aC ak))) (gC nM (by rfl) T.Qo PyProof.Rows.Boot.«int» (aa (oA cQ (pv 4) aC (aY _)) ak)) (λ_ _=>rfl)) ak))) ak)))) bw)
   (ao (bY (aP cQ (pv 4) aC (aY _)) (aA (bu (i:=5) rK.nd rfl (Or.inl rfl) (bI mV (pv 5) (mO (gD (xs:=["_law_one"]) (ys:=["_law_desk"]) (js:=[3]) rfl ∅ ∅ ∅ (by rfl) ⟨⟨rfl,Or.inl rfl⟩,trivial⟩) rfl (ou (bL hu (pv 2) aC (λ_ _=>rfl))) (λ_ _ _ _ _=>(cj (i:=0) (show Nodup ((["_law_one"]:List Str)++(["_law_desk"]:List Str):List Str)by decide +kernel) rfl (Or.inl rfl))) (λ_ _ _ _ _=>(afq (aP uQ (pv 0) (pv 1) (aY _)))) (λ_ _ _ _ _=>(b7 (aa (pv 0) (aa aC ak)))))))) bw)
   (ao (mU PassesOwn.never rfl (ou (pv 5)) (Gz rfl (dJ (cj (i:=6) rK.nd rfl (Or.inl rfl)) (dJ (cj (i:=7) rK.nd rfl (Or.inl rfl)) ug))) (ao (bN (dZ plainAttrs_list PySem.F.slot_list_append PySem.F.type_list_append cu (aN bz (bL hu (pv 0) aC (λ_ _=>rfl)) (pv 6) (λ_ _=>rfl)) (aa (b7 (aa aC (aa (pv 1) (aa (pv 7) ak)))) ak)))
   (aA (bN (dZ plainAttrs_list PySem.F.slot_list_append PySem.F.type_list_append cu (bL hu (pv 0) aC (λ_ _=>rfl)) (aa (b7 (aa (pv 6) (aa (b7 (aa aC (aa (pv 1) (aa (pv 7) ak)))) ak))) ak))))))
   (aA (aZ (cG cJ (by rfl) T.pL PySem.boot_len (aa (pv 5) ak)))))))))),?_⟩
  try dsimp only[dj,Cx.kE]
  show let Z1:L2.TS:=_;let Z2:L2.TS:=_;let Z3:L2.TS:=_;let Z4:L2.TS:=_;let Z5:L2.TS:=cR _ Z4 bM;let Z6:L2.TS:=_;let Z7:L2.TS:=cR _ Z6 bM;let Z8:L2.TS:=_;let Z9:L2.TS:=_;let z8:L2.TS:=aV Z8 (Z9);let KC:L2.TS:=J3 _ _ z8;let KD:L2.TS:=_;let D0:Ends:=_;(aV Z1 (aV Z2 (aV Z3 (aV Z5 (aV Z7 (aV KC (KD))))))) D0 _ _;intro Z1 Z2 Z3 Z4 Z5 Z6 Z7 Z8 Z9 z8 KC KD D0;obtain⟨as,h3,h4⟩:=M.kh hp;rw[ha]at h4;obtain⟨tt,us,rfl,h6,h7⟩:=JN h4;have al:=M.b8 hp;refine WM rfl (eZ M.bf lA) rfl (bU.of M.dg) (bR hp) ?_;refine zd rfl (eZ al JR) ⟨A (.kh p),_,0,_,rfl,rfl,bU.of h3,axd _ _,tt,_,rfl,cW.of h6,rfl,_,_,rfl,_,_,rfl,rfl,?_⟩;refine⟨wF,λbl hb=>?_⟩;generalize hg:S.pg p=g at *;have ay:g.cL p=oJ g p d x++oK g p d x:=by{unfold PG.cL;rw[ha]};have s0:=aq (o:=.lst []) hb;try dsimp only[bM]
  refine gF (λI H'=>I=[some (.ref (A .bf)),some (.int p),some (.ref (A (.b8 p))),some (.int d),some (.str x.s),some (.ref bl),none,none]/\bK H H'/\∃us,H' bl=some (.lst us)/\us.length<=1/\aG H' us ((oJ g p d x).map aaL)) (λN hN=>?_) ?_;{have l0:=s0 _ _ al;refine zd rfl (eZ l0 uW) ⟨_,_,rfl,rfl,_,rfl,?_⟩;cases hw:g.wr with| none=>refine aL rfl (wD ?_);exact hN _ _ ⟨rfl,s0,[],aj,zero_le _,by rw[aaJ hw];simp[aG]⟩| some wv=>refine bH (decide_eq_true (Int.natCast_nonneg _)) ?_;have l1:gj (Ax g (A (.jn p)) (A (.kh p))) (ks "writer")=some (.int wv):=by{rw[uW,hw];rfl};refine zd rfl (eZ l0 l1) ⟨_,rfl,rfl,_,rfl,?_⟩;by_cases e:wv=d;{subst e;refine aL (by simp) ?_;exact hN _ _ ⟨rfl,s0,[],aj,zero_le _,by rw[aeS hw];simp[aG]⟩};{refine bH (by rw[decide_eq_false λz=>e (by have:=V.int.inj z;lia)];rfl) ?_;refine⟨_,rfl,.inl ⟨rfl,_,bU.of aj⟩,zd rfl (eZ l0 l1) ⟨sS,λz hz=>?_⟩⟩;have s1:bK (upd H bl (.lst [])) (upd (upd H bl (.lst [])) z (.lst [.str "none",.str "read"])):=aq hz;refine⟨_,rfl,rfl,.inr ⟨_,rfl,z,_,_,.str (low x).s,rfl,rfl,bU.of aj,?_,sS,λc hc=>?_⟩⟩;{rcases W with W | W<;>subst W<;>kernel_rfl};{have nz:bl≠z:=λy=>by{rw[<-y,aj]at hz;cases hz};have nc:bl≠c:=λy=>by{rw[<-y,az nz,aj]at hc;cases hc};refine⟨bl,[],_,rfl,rfl,(by rw[az nc,az nz,aj]),(by show 0<sizeLine;decide),?_⟩;refine hN _ _ ⟨rfl,dB ((s0.trans s1).trans (aq hc)) hb,_,aj,Nat.le_refl _,?_⟩;rw[VF hw e];simp only[map_cons,map_nil,aG,aaL,Rep];exact⟨_,_,rfl,⟨c,_,rfl,by rw[az nc.symm,aj],_,_,rfl,rfl,_,_,rfl,rfl,rfl⟩,rfl⟩}}}
  ·rintro I H1 ⟨rfl,s1,am,an,cx,aD⟩;try dsimp only[bM]
   refine gF (λI H'=>∃Y us,I=[some (.ref (A .bf)),some (.int p),some (.ref (A (.b8 p))),some (.int d),some (.str x.s),some (.ref Y),none,none]/\bK H H'/\H Y=none/\H' Y=some (.lst us)/\aG H' us ((g.cL p).map aaL)) (λN hN=>?_) ?_;{refine⟨_,rfl,rfl,_,rfl,?_⟩;rcases W with W | W;{subst W;refine aL (p7 (x:="write") (q:=.wr) rfl ⟨⟩) ?_;refine hN _ _ ⟨bl,am,rfl,s1,hb,an,?_⟩;have:oK g p d .rd=[]:=by{unfold oK;rw[if_neg ⟨⟩]};rw[ay,this,append_nil];exact aD};{subst W;refine bH fQ ?_;have aE:H1 (A (.jn p))=some (.lst (g.rd.map nV)):=by{have:=s1 _ _ (M.jn hp);rw[hg]at this;exact this};refine⟨_,rfl,zd rfl (eZ (s1 _ _ al) wW) ⟨A (.jn p),rfl,⟨_,bU.of aE⟩,λZ ac=>?_⟩⟩;have cy:bl≠Z:=aF an ac;let W9:Nat->List V->St->Hp->Prop:=λi zs I H'=>(∃o,I=[o,some (.int d)])/\bK H1 H'/\H' Z=some (.lst zs)/\zs.length<=i/\aG H' zs ((((g.rd.take i).filter λe=>decide (e≠d)).map λe=>(e,Let.back p .no)).map aaL);refine Tg (xs:=g.rd.map nV) W9 ?_ ?_ ?_ ?_;{exact⟨⟨_,rfl⟩,aq ac,aj,Nat.le_refl _,by simp[aG]⟩};{rintro i zs I H' _ ⟨_,s',J,_⟩;exact⟨bU.of (s' _ _ aE),J⟩};{rintro i y zs I H' hy hi ⟨⟨o,rfl⟩,s',J,hz,rp⟩;rw[length_map]at hi;have ba:y=.int (g.rd[i]:Nat):=by{rw[getElem?_map,getElem?_eq_getElem hi]at hy;exact(Option.some.inj hy).symm};subst ba;have af:g.rd.take (i+1)=g.rd.take i++[g.rd[i]]:=by{rw[take_add_one,getElem?_eq_getElem hi];rfl};refine⟨_,rfl,_,rfl,rfl,_,rfl,?_⟩;by_cases e:g.rd[i]=d;{refine aL (by rw[e];simp) (Vo.mk (by rw[length_map];exact hi) ?_);refine⟨⟨_,rfl⟩,s',J,by lia,?_⟩;rw[af,filter_append,filter_cons_of_neg (by simp[e])];simpa using rp};{refine bH (by rw[decide_eq_false λz=>e (by have:=V.int.inj z;lia)];rfl) ?_;refine⟨_,rfl,sS,λcc aI=>?_⟩;have nc:Z≠cc:=aF J aI;have aJ:upd H' cc (.tup [.int (g.rd[i]:Nat),.str "none"]) Z=some (.lst zs):=by{rw[az nc];exact J};refine wK.mk (by rw[length_map];exact hi) aJ (by lia) ?_;have aK:=aq (o:=.tup [.int (g.rd[i]:Nat),.str "none"]) aI;refine⟨⟨_,rfl⟩,dB (s'.trans aK) ac,aj,by rw[length_append];simp;lia,?_⟩;rw[af,filter_append,filter_cons_of_pos (by simp[e]),filter_nil,map_append,map_append];have tm:=iB (vs:=zs++[.ref cc]) aJ;refine aG.snoc ((rp.aU (aQ aK) (uN _)).aU tm (uN _)) ?_;simp only[aaL,Rep,aG];exact⟨cc,_,rfl,by rw[az nc.symm,aj];rfl,_,_,rfl,rfl,_,_,rfl,rfl,rfl⟩}};{rintro zs I H' ⟨_,s',J,hz,rp⟩;rw[length_map]at hz rp;rw[take_length]at rp;have ad:=s' _ _ an;refine⟨bl,Z,am,zs,rfl,rfl,ad,J,by lia,λc hc=>?_⟩;have bb:H c=none:=Lv.same (s1.trans s') _ hc;refine hN _ _ ⟨c,_,rfl,(s1.trans s').trans (aq hc),bb,aj,?_⟩;have bd:oK g p d .wr=(g.rd.filter λe=>decide (e≠d)).map λe=>(e,Let.back p .no):=by{unfold oK;rw[if_pos rfl]};rw[ay,map_append,bd];have tm:=aQ (aq (o:=.lst (am++zs)) hc);exact aG.append ((aD.aU (aQ s') (uN _)).aU tm (uN _)) (rp.aU tm (uN _))}}};{rintro I H2 ⟨Y,L,rfl,s2,be,aM,aO⟩;have M2:=M.same s2;have ai:L.length=(g.cL p).length:=by{rw[aO.length,length_map]};refine⟨_,rfl,Y,rfl,⟨_,bU.of aM⟩,?_⟩;let bg:Nat->St->Hp->Prop:=λi I H'=>(∃o1 o2,I=[some (.ref (A .bf)),some (.int p),some (.ref (A (.b8 p))),some (.int d),some (.str x.s),some (.ref Y),o1,o2])/\i<=L.length/\bj H' A n m {S with dn:=post S.dn ((g.cL p).take i)} (se++(g.cL p).take i)/\oN H H' A n m/\H' Y=some (.lst L)/\aG H' L ((g.cL p).map aaL);refine rF (xs:=L) bg ?_ ?_ ?_ ?_;{refine⟨⟨_,_,rfl⟩,zero_le _,?_,oN.of_same s2,aM,aO⟩;simpa[post] using M2};{rintro i I H' _ ⟨_,_,_,_,ad,_⟩;exact bU.of ad};{rintro i y I H' hy ⟨⟨o1,o2,rfl⟩,hi,M',f',ad,aS⟩;obtain⟨q,hq,rq⟩:=aqy aS hy;have aT:q∈g.cL p:=mem_of_getElem? hq;obtain⟨r,bn⟩:=ath g p q aT;have bo:=hn q aT;obtain⟨O,ql⟩:=q;have bp:ql=.back p r:=bn;subst bp;have ap:O<n:=bo;simp only[aaL,Rep,aG]at rq;obtain⟨c,xs,rfl,hc,_,_,rfl,rfl,_,_,rfl,rfl,rfl⟩:=rq;have bq:i<L.length:=(List.getElem?_eq_some_iff.mp hy).1;have af:(g.cL p).take (i+1)=(g.cL p).take i++[(O,.back p r)]:=by{rw[take_add_one,hq];rfl};refine⟨c,_,rfl,cW.of hc,rfl,_,_,rfl,_,_,rfl,rfl,?_⟩;obtain⟨dv,d1,d2⟩:=M'.dn ap;have cD:((g.cL p).take i).length=i:=by{rw[length_take];lia};have br:dv.length<sizeLine:=by{rw[d2.length,length_map];show(post S.dn ((g.cL p).take i) O).length<_;have:=Pg S.dn ((g.cL p).take i) O;have:=ax.1 O;lia};refine WM rfl (eZ M'.bf zE) rfl (bU.of M'.downs) (bR ap) ⟨.inl ⟨rfl,_,bU.of d1⟩,_,rfl,_,rfl,Zh,λb bt=>?_⟩;have s3:=aq (o:=.tup [.str "back",.int p,.str r.s]) bt;refine⟨A (.dn O),dv,_,rfl,rfl,s3 _ _ d1,br,?_⟩;have bv:aG (upd H' b (.tup [.str "back",.int p,.str r.s])) (dv++[.ref b]) ((post S.dn ((g.cL p).take i) O++[Let.back p r]).map Let.d):=by{rw[map_append];refine aG.snoc (d2.aU (aQ s3) (bc Let.flat _)) ?_;simp only[Let.d,Rep,aG];exact⟨b,_,rfl,aj,_,_,rfl,rfl,_,_,rfl,rfl,_,_,rfl,rfl,rfl⟩};obtain⟨M4,f4⟩:=(M'.same s3).aog ap bv;have ag:oN H' (upd (upd H' b (.tup [.str "back",.int p,.str r.s])) (A (.dn O)) (.lst (dv++[.ref b]))) A n m:=(oN.of_same s3).trans f4 (Mv.refl _ _ _ _);generalize upd (upd H' b (.tup [.str "back",.int p,.str r.s])) (A (.dn O)) (.lst (dv++[.ref b]))=H4 at M4 ag;obtain⟨sv,e1,e2⟩:=M4.sent;have bx:sv.length<sizeLine:=by{rw[e2.length,length_map,length_append];have:=ax.2;lia};refine zd rfl (eZ M4.bf aiU) ⟨.inl ⟨rfl,_,bU.of e1⟩,_,rfl,_,rfl,_,rfl,Zh,λb' bA=>⟨sS,λc' ar=>?_⟩⟩;have s5:=(aq (o:=.tup [.str "back",.int p,.str r.s]) bA).trans (aq (o:=.tup [.int O,.ref b']) ar);have bC:b'≠c':=λz=>by{rw[z,aj]at ar;cases ar};refine⟨A .sent,sv,_,rfl,rfl,s5 _ _ e1,bx,?_⟩;have bD:aG (upd (upd H4 b' (.tup [.str "back",.int p,.str r.s])) c' (.tup [.int O,.ref b'])) (sv++[.ref c']) ((se++(g.cL p).take i++[(O,Let.back p r)]).map pairD):=by{rw[map_append (l₂:=[_])];exact aG.snoc (e2.aU (aQ s5) (dm _)) (Mz (b:=b') (vs:=[]) aj (by rw[az bC,aj]))};obtain⟨M6,f6⟩:=(M4.same s5).aqc bD;have au:=(oN.of_same (A:=A) (n:=n) (m:=m) s5).trans f6 (Mv.refl _ _ _ _);have a2:∀x:Mb,x.ok n m->Y≠A x:=λx W z=>M.yq W be z.symm;have bE:=au.kp Y _ (ag.kp Y _ ad a2) a2;have t6:cz H' _:=(ag.tups M').trans (au.tups M4);refine⟨⟨_,_,rfl⟩,bq,?_,(f'.trans ag (Mv.refl _ _ _ _)).trans au (Mv.refl _ _ _ _),bE,aS.aU t6 (uN _)⟩;rw[af,aeD,<-append_assoc];exact M6};{rintro I H3 ⟨⟨o1,o2,rfl⟩,_,M3,f3,bF,_⟩;rw[ai,take_length]at M3;refine⟨_,rfl,Y,L,rfl,.inl (bU.of bF),?_⟩;rw[ai];exact k H3 M3 f3}}
def TS.yV(S:TS)(p:Nat)(g:PG)(acc:List (Nat×Let)):TS:={S with pg:=aM S.pg p g,dn:=post S.dn acc}
theorem TS.cA(S:TS)(p:Nat)(g:PG)(acc:List (Nat×Let)):(S.yV p g acc).pg p=g:=aJ _ _ _
theorem TS.axK(S:TS)(p:Nat)(g:PG)(acc bs:List (Nat×Let)):{S.yV p g acc with dn:=post (S.yV p g acc).dn bs}=S.yV p g (acc++bs):=by unfold TS.yV;simp only[lq]
theorem TS.pN(S:TS)(p:Nat)(g g':PG)(acc:List (Nat×Let)):{S.yV p g acc with pg:=aM (S.yV p g acc).pg p g'}=S.yV p g' acc:=by unfold TS.yV;simp only[nP]
theorem TS.anl(S:TS)(p:Nat):S.yV p (S.pg p) []=S:=by unfold TS.yV;rw[eF];rfl
def atj:Sp:=λvs H Q _=>∃A n m S se,∃p:Nat,vs=[.ref (A .bf),.int p]/\bj H A n m S se/\p<m/\(S.pg p).ask≠[]/\WL n (S.pg p)/\(S.pg p).rd.length<=1000000/\Eb S se 1/\
 ∀A' H',bj H' A' n m (S.yV p (S.pg p).lent ((S.pg p).dM p)) (se++(S.pg p).dM p)->oN H H' A n m->Mv H A A' n m->Q .non H'
def aqB:Sp:=λvs H Q _=>∃A n m S se,∃p:Nat,vs=[.ref (A .bf),.int p]/\bj H A n m S se/\p<m/\WL n (S.pg p)/\(S.pg p).mu<=1000000/\Eb S se (4*(S.pg p).mu+4)/\
 ∀A' H' z,z=(if(S.pg p).miss=0 then(S.pg p).serve p else(S.pg p,[]))->bj H' A' n m (S.yV p z.1 z.2) (se++z.2)->oN H H' A n m->Mv H A A' n m->Q .non H'
theorem KH(T:Txt K w mg t):cX P w K mg base mW 1 t.je t.yK ["_law_town","_law_page"] atj:=by
 refine T.Cw.ok mH (λvs H Q E h=>?_) (λbK A outer s H vs Q E hr h=>?_);{obtain⟨A,n,m,S,se,p,rfl,_⟩:=h;rfl}
 ·obtain⟨A,n,m,S,se,p,rfl,M,hp,aR,aS,bQ,ai,k⟩:=h;have Y:=kY hr;have sl:sizeLine=16777216:=by{decide};cases ha:(S.pg p).ask with| nil=>exact absurd ha aR| cons x0 l=>
  obtain⟨d,x⟩:=x0;obtain⟨af,hx⟩:=aS.q (d,x) (by rw[ha];simp);refine⟨_,(ao (bu (i:=2) mH.nd rfl (Or.inl rfl) (aN bz (bL Y (pv 0) aC (λ_ _=>rfl)) (pv 1) (λ_ _=>rfl)))
   (ao (uP (dZ plainAttrs_list slot_list_pop type_list_pop GK (bL Y (pv 2) aC (λ_ _=>rfl)) (aa aB ak)) (Gz rfl (dJ (cj (i:=3) mH.nd rfl (Or.inl rfl)) (dJ (cj (i:=4) mH.nd rfl (Or.inl rfl)) ug))))
   (ao (bY (aP cQ (pv 4) aC (aY _)) (ao (mK Y (pv 2) aC (bJ ak) (by rfl))
   (aA (mK Y (pv 2) aC (pv 3) (by rfl)))) (ao (bY (aP Oz (bL Y (pv 2) aC (λ_ _=>rfl)) aB (aY _)) (aA (bN (dZ plainAttrs_list PySem.F.slot_list_append PySem.F.type_list_append cu (bL Y (pv 2) aC (λ_ _=>rfl)) (aa (bL Y (pv 2) aC (λ_ _=>rfl)) ak)))) bw)
   (ao (mK Y (pv 2) aC (Vk GD aB) (by rfl))
   (aA (bY (aP O4 (pv 3) (bL Y (pv 2) aC (λ_ _=>rfl)) (by rfl)) (aA (bN (dZ plainAttrs_list PySem.F.slot_list_append PySem.F.type_list_append cu (bL Y (pv 2) aC (λ_ _=>rfl)) (aa (pv 3) ak)))) bw)))))
   (ao (bu (i:=5) mH.nd rfl (Or.inl rfl) (b7 (aa aC (aa (pv 1) (aa (pv 4) (aa (bL Y (pv 2) aC (λ_ _=>rfl)) ak))))))
   (ao (bN (dZ plainAttrs_list PySem.F.slot_list_append PySem.F.type_list_append cu (aN bz (bL Y (pv 0) aC (λ_ _=>rfl)) (pv 3) (λ_ _=>rfl)) (aa (pv 5) ak)))
   (aA (bN (dZ plainAttrs_list PySem.F.slot_list_append PySem.F.type_list_append cu (bL Y (pv 0) aC (λ_ _=>rfl)) (aa (b7 (aa (pv 3) (aa (pv 5) ak))) ak))))))))),?_⟩
  try dsimp only[dj,Cx.kE]
  show let Z1:L2.TS:=_;let Z2:L2.TS:=_;let Z3:L2.TS:=_;let Z4:L2.TS:=_;let Z5:L2.TS:=aV Z3 (Z4);let Z6:L2.TS:=_;let Z7:L2.TS:=cR _ Z6 bM;let Z8:L2.TS:=_;let Z9:L2.TS:=_;let z8:L2.TS:=cR _ Z9 bM;let KC:L2.TS:=aV Z7 (aV Z8 (z8));let KD:L2.TS:=cR _ Z5 KC;let Qv:L2.TS:=_;let Qw:L2.TS:=_;let an:L2.TS:=_;let D0:Ends:=_;(aV Z1 (aV Z2 (aV KD (aV Qv (aV Qw (an)))))) D0 _ _;intro Z1 Z2 Z3 Z4 Z5 Z6 Z7 Z8 Z9 z8 KC KD Qv Qw an D0;obtain⟨as,h3,h4⟩:=M.kh hp;rw[ha]at h4;obtain⟨tt,us,rfl,h6,h7⟩:=JN h4;refine WM rfl (eZ M.bf lA) rfl (bU.of M.dg) (bR hp) ?_;refine zd rfl (eZ (M.b8 hp) JR) ⟨.inl ⟨rfl,_,bU.of h3⟩,A (.kh p),_,0,0,_,rfl,rfl,h3,(by decide),(by decide),ap4 _ _,rfl,?_⟩;rw[eraseIdx_cons_zero];obtain⟨M1,f1⟩:=M.avE hp (l:=l) h7;have t1:upd H (A (.kh p)) (.lst us) tt=some (.tup [.int d,.str x.s]):=(f1.tups M) tt _ h6;generalize upd H (A (.kh p)) (.lst us)=H1 at M1 f1 t1;refine⟨tt,_,rfl,cW.of t1,rfl,_,_,rfl,_,_,rfl,rfl,?_⟩;have O:bj H1 A n m (S.yV p {S.pg p with ask:=l} []) se:=M1;have z6:(S.pg p).lent=if x=.wr then jQ {S.pg p with ask:=l} d else jF {S.pg p with ask:=l} d:=by{unfold PG.lent;rw[ha]};have ap:(S.pg p).lent.num=(S.pg p).num:=by{rw[z6];split<;>rfl};have aW:(S.pg p).dM p=[(d,.lend p x (S.pg p).num)]:=by{unfold PG.dM;rw[ha]};try dsimp only[bM]
  refine gF (λar H'=>∃A',ar=[some (.ref (A .bf)),some (.int p),some (.ref (A (.b8 p))),some (.int d),some (.str x.s),none]/\bj H' A' n m (S.yV p (S.pg p).lent []) se/\oN H H' A n m/\Mv H A A' n m) (λN hN=>?_) ?_
  ·refine⟨_,rfl,rfl,_,rfl,?_⟩;rcases hx with hx | hx
   ·subst hx;refine aL (p7 (x:="write") (q:=.wr) rfl ⟨⟩) ?_;rw[if_neg ⟨⟩]at z6;generalize au:({S.pg p with ask:=l}:PG)=g1 at O z6;have av:g1.rd=(S.pg p).rd:=by{rw[<-au]};have W:=O.b8 hp;rw[TS.cA]at W;have ag:=O.jn hp;rw[TS.cA]at ag;try dsimp only[bM]
    have aZ:∀H2,bj H2 A n m (S.yV p {g1 with wr:=none,rd:=g1.rd++g1.wr.toList} []) se->oN H H2 A n m->
     (cR (aiy (Zn (rIn K true) (jE 3) (Zz (jE 2) (tC (.str "readers"))))) (amy (tBM K "list" Be (Zz (jE 2) (tC (.str "readers"))) (nO (jE 3) J4))) bM) {nx:=N,rt:=Q} [some (.ref (A .bf)),some (.int p),some (.ref (A (.b8 p))),some (.int d),some (.str Rt.rd.s),none] H2:=λH2 M2 f2=>by
     have I:=M2.b8 hp
     rw[TS.cA]at I
     have ad:=M2.jn hp
     rw[TS.cA]at ad
     refine⟨_,rfl,zd rfl (eZ I wW) ⟨A (.jn p),_,rfl,.inl (bU.of ad),rfl,ajF _,_,rfl,?_⟩⟩
     have e0:(if true=true then !inV (.int d) ((g1.rd++g1.wr.toList).map nV)else inV (.int d) ((g1.rd++g1.wr.toList).map nV)) = !decide (d∈g1.rd++g1.wr.toList):=by rw[if_pos rfl,ank]
     rw[e0]
     by_cases e:d∈g1.rd++g1.wr.toList
     ·refine aL (by rw[decide_eq_true e];rfl) ?_
      refine hN _ _ ⟨A,rfl,?_,f2,Mv.refl _ _ _ _⟩
      rw[z6]
      unfold jF
      rw[if_pos e]
      exact M2
     ·refine bH (by rw[decide_eq_false e];rfl) ?_
      refine zd rfl (eZ I wW) ⟨.inl ⟨rfl,_,bU.of ad⟩,_,rfl,A (.jn p),_,_,rfl,rfl,ad,?_,?_⟩
      ·have hw:g1.wr.toList.length<=1:=by cases g1.wr<;>simp
       rw[length_map,length_append,av];lia
      ·obtain⟨L,Z⟩:=M2.avD hp (l:=g1.rd++g1.wr.toList++[d])
       rw[TS.cA,TS.pN,map_append (l₂:=[d])]at L
       rw[map_append (l₂:=[d])]at Z
       refine hN _ _ ⟨A,rfl,?_,f2.trans Z (Mv.refl _ _ _ _),Mv.refl _ _ _ _⟩
       rw[z6]
       unfold jF
       rw[if_neg e]
       exact L
    refine gF (λar H'=>ar=[some (.ref (A .bf)),some (.int p),some (.ref (A (.b8 p))),some (.int d),some (.str Rt.rd.s),none]/\bj H' A n m (S.yV p {g1 with rd:=g1.rd++g1.wr.toList} []) se/\oN H H' A n m) (λN' aw=>?_) ?_
    ·refine zd rfl (eZ W uW) ⟨_,_,rfl,rfl,_,rfl,?_⟩;cases hw:g1.wr with
     | none=>refine aL rfl ?_;refine aw _ _ ⟨rfl,?_,f1⟩;have e:({g1 with rd:=g1.rd++g1.wr.toList}:PG)=g1:=by{rw[hw];cases g1;simp_all};rw[e];exact O
     | some wv=>refine bH (decide_eq_true (Int.natCast_nonneg _)) ?_;have l1:gj (Ax g1 (A (.jn p)) (A (.kh p))) (ks "writer")=some (.int wv):=by{rw[uW,hw];rfl};refine zd rfl (eZ W wW) ⟨.inl ⟨rfl,_,bU.of ag⟩,zd rfl (eZ W l1) ⟨A (.jn p),_,_,rfl,rfl,ag,(by rw[length_map,av];lia),?_⟩⟩;obtain⟨L,Z⟩:=O.avD hp (l:=g1.rd++[wv]);rw[TS.cA,TS.pN,map_append (l₂:=[wv])]at L;rw[map_append (l₂:=[wv])]at Z;have e:({g1 with rd:=g1.rd++g1.wr.toList}:PG)={g1 with rd:=g1.rd++[wv]}:=by{rw[hw];rfl};exact aw _ _ ⟨rfl,by rw[e];exact L,f1.trans Z (Mv.refl _ _ _ _)⟩
    ·rintro ar H2 ⟨rfl,M2,f2⟩;have I:=M2.b8 hp;rw[TS.cA]at I;refine⟨_,rfl,_,rfl,A (.b8 p),_,rfl,dput I wY GX,?_⟩;obtain⟨L,Z⟩:=M2.Bk hp (g:={g1 with wr:=none,rd:=g1.rd++g1.wr.toList}) (by rw[TS.cA]) (by rw[TS.cA]);rw[TS.pN]at L;exact aZ _ L (f2.trans Z (Mv.refl _ _ _ _))
   ·subst hx;refine bH fQ ?_;rw[if_pos rfl]at z6;generalize au:({S.pg p with ask:=l}:PG)=g1 at O z6;have W:=O.b8 hp;rw[TS.cA]at W;refine⟨wF,λr' ah=>?_⟩;obtain⟨M2,f2,J⟩:=O.axf hp ah (l:=[]);rw[TS.cA]at M2 f2;rw[TS.pN]at M2;have bZ:H r'=none:=f1.lv _ ah;refine⟨_,rfl,A (.b8 p),_,rfl,dput (aq ah _ _ W) wY (ZQ (l:=[])),?_⟩;have ay:=M2.b8 hp;rw[TS.cA,bO _ _ ⟨⟩,di,bO _ _ ⟨⟩]at ay;obtain⟨L,Z⟩:=M2.Bk hp (g:=jQ g1 d) (by rw[TS.cA];rfl) (by rw[TS.cA];rfl);rw[TS.pN]at L;rw[bO _ _ ⟨⟩,di,bO _ _ ⟨⟩]at L Z;refine⟨_,rfl,_,rfl,A (.b8 p),_,rfl,dput ay wY ZP,?_⟩;have mv:Mv H A (kI A (.jn p) r') n m:=λz hz=>(J z hz).imp id λe=>⟨e.1,f1.lv _ e.2⟩;refine hN _ _ ⟨kI A (.jn p) r',rfl,?_,?_,mv⟩;{rw[z6];exact L};{exact(f1.trans f2 (Mv.refl _ _ _ _)).trans Z mv}
  ·rintro ar H2 ⟨A2,rfl,M2,f2,J⟩;have hA:A2 .bf=A .bf:=J.bf;have a2:A2 (.b8 p)=A (.b8 p):=(J (.b8 p) hp).elim id λz=>by{obtain⟨⟨q,e⟩,_⟩:=z;cases e};have I:=M2.b8 hp;rw[TS.cA,a2]at I;have az:=M2.bf;rw[hA]at az;refine⟨_,rfl,_,rfl,zd rfl (eZ I alC) ⟨zz4,λb hb=>?_⟩⟩;rw[ap]at *;have s3:=aq (o:=.tup [.str "lend",.int p,.str x.s,.int (S.pg p).num]) hb;have aD:upd H2 b (.tup [.str "lend",.int p,.str x.s,.int (S.pg p).num]) b=_:=aj;have L:=M2.same s3;have Z:=f2.trans (oN.of_same (A:=A2) s3) J;generalize upd H2 b (.tup [.str "lend",.int p,.str x.s,.int (S.pg p).num])=H3 at s3 aD L Z;have a4:=s3 _ _ az;obtain⟨dv,d1,d2⟩:=L.dn af;have a5:dv.length<sizeLine:=by{rw[d2.length,length_map];show(post S.dn [] d).length<_;have:=ai.1 d;show(S.dn d).length<_;lia};refine WM rfl (eZ a4 zE) rfl (bU.of L.downs) (bR af) ⟨.inl ⟨rfl,_,bU.of d1⟩,_,rfl,A2 (.dn d),dv,_,rfl,rfl,d1,a5,?_⟩;have rl:Rep H3 (.ref b) (Let.lend p x (S.pg p).num).d:=by{simp only[Let.d,Rep,aG];exact⟨b,_,rfl,aD,_,_,rfl,rfl,_,_,rfl,rfl,_,_,rfl,rfl,_,_,rfl,rfl,rfl⟩};have a6:aG H3 (dv++[.ref b]) (((S.yV p (S.pg p).lent []).dn d++[Let.lend p x (S.pg p).num]).map Let.d):=by{rw[map_append];exact aG.snoc d2 rl};obtain⟨M4,f4⟩:=L.aog af a6;have aE:=Rep.aU (f4.tups L) (Let.flat _) rl;have aF:=Z.trans f4 J;generalize upd H3 (A2 (.dn d)) (.lst (dv++[.ref b]))=H4 at M4 f4 aF aE;obtain⟨sv,e1,e2⟩:=M4.sent;have a8:sv.length<sizeLine:=by{rw[e2.length,length_map];have:=ai.2;lia};have aH:=M4.bf;rw[hA]at aH;refine zd rfl (eZ aH aiU) ⟨.inl ⟨rfl,_,bU.of e1⟩,_,rfl,_,rfl,sS,λc hc=>?_⟩;have s5:=aq (o:=.tup [.int d,.ref b]) hc;refine⟨A2 .sent,sv,_,rfl,rfl,s5 _ _ e1,a8,?_⟩;have a9:aG (upd H4 c (.tup [.int d,.ref b])) (sv++[.ref c]) ((se++[(d,Let.lend p x (S.pg p).num)]).map pairD):=by{rw[map_append];refine aG.snoc (e2.aU (aQ s5) (dm _)) ?_;simp only[pairD,Rep,aG];exact⟨c,_,rfl,aj,_,_,rfl,rfl,_,_,rfl,Rep.aU (aQ s5) (Let.flat _) aE,rfl⟩};obtain⟨M6,f6⟩:=(M4.same s5).aqc a9;refine k A2 _ ?_ ((aF.trans (oN.of_same s5) J).trans f6 J) J;rw[aW];exact M6
def PG.cont(g:PG)(p:Nat):PG×List (Nat×Let):=if g.miss=0 then g.serve p else(g,[])
theorem aqD{g:PG}{p:Nat}(I:g.miss=0)(h:g.ask≠[])(F:g.cL p≠[]):(g.cont p).1=(PG.cont {g with miss:=(g.cL p).length} p).1/\(g.cont p).2=g.cL p++(PG.cont {g with miss:=(g.cL p).length} p).2:=by
 have hl:((g.cL p).length:Int)≠0:=by{have:(g.cL p).length≠0:=λz=>F (length_eq_zero_iff.mp z);lia};unfold PG.cont;rw[if_pos I,uK h F];try dsimp only
 rw[if_neg hl];simp
theorem aor{g:PG}{p:Nat}(z:g.miss=0)(h:g.ask≠[])(F:g.cL p=[]):(g.cont p).1=(g.lent.cont p).1/\(g.cont p).2=g.dM p++(g.lent.cont p).2:=by
 unfold PG.cont;rw[if_pos z,qF h F,PG.zA,if_pos z];exact⟨rfl,rfl⟩
theorem aqE(g:PG)(p:Nat):(g.cont p).2.length<=2*g.mu+1:=by
 unfold PG.cont;split;{exact g.z7 p};{simp}
theorem Eb.at{S:TS}{se acc:List (Nat×Let)}{k j p:Nat}{g:PG}(h:Eb S se k)(z:acc.length+j<=k):Eb (S.yV p g acc) (se++acc) j:=⟨λd=>by
 have h1:=h.1 d
 have h2:=Pg S.dn acc d
 show(post S.dn acc d).length+j<=_
 lia,by rw[length_append];have:=h.2;lia⟩
theorem aaN(T:Txt K w mg t):cX P w K mg base mW 2 t.nY t.Mt ["_law_town","_law_page"] aqB:=by
 refine T.T6.ok aah (λvs H Q E h=>?_) (λa2 A outer s H vs Q E hr h=>?_);{obtain⟨A,n,m,S,se,p,rfl,_⟩:=h;rfl}
 ·obtain⟨A,n,m,S,se,p,rfl,M,hp,az,aD,ah,k⟩:=h;have hu:=kY hr;have sl:sizeLine=16777216:=by{decide};refine⟨_,(ao (bu (i:=2) aah.nd rfl (Or.inl rfl) (aN bz (bL hu (pv 0) aC (λ_ _=>rfl)) (pv 1) (λ_ _=>rfl)))
   (aA (Ov PassesOwn.never (PW.pt (Gy (aP cQ (bL hu (pv 2) aC (λ_ _=>rfl)) aB (aY _)) (Ba (aP (Pa hr.Zv) (bL hu (pv 2) aC (λ_ _=>rfl)) (bJ ak) (aY _))))) (ao (mK hu (pv 2) aC (bZ (aqz T) (hr.mono (by decide):bV 1 _) (by rfl) T.atd T.anf.kp T.atc .nil bW (aa (pv 0) (aa (pv 1) ak))) (by rfl))
   (aA (bY (aP cQ (bL hu (pv 2) aC (λ_ _=>rfl)) aB (aY _)) (aA (bN (bZ (KH T) (hr.mono (by decide):bV 1 _) (by rfl) T.Qi T.Cw.kp T.Qh .nil bW (aa (pv 0) (aa (pv 1) ak))))) bw)))))),?_⟩
  try dsimp only[dj,Cx.kE]
  show let Z1:L2.TS:=_;let Z2:L2.TS:=_;let Z3:L2.TS:=_;let Z4:L2.TS:=cR _ Z3 bM;let Z5:L2.TS:=aV Z2 (Z4);let Z6:L2.TS:=Zk _ Z5;let D0:Ends:=_;(aV Z1 (Z6)) D0 _ _;intro Z1 Z2 Z3 Z4 Z5 Z6 D0;refine WM rfl (eZ M.bf lA) rfl (bU.of M.dg) (bR hp) ?_;generalize aE:S.pg p=g0 at *;refine⟨λi σ H1=>∃A1 g F,σ=[some (.ref (A .bf)),some (.int p),some (.ref (A (.b8 p)))]/\bj H1 A1 n m (S.yV p g F) (se++F)/\oN H H1 A n m/\Mv H A A1 n m/\WL n g/\g.mu<=g0.mu/\F.length+(g.cont p).2.length<=2*g0.mu+1/\
   (g0.cont p).1=(g.cont p).1/\(g0.cont p).2=F++(g.cont p).2/\i=2*g.ask.length+(if g.miss=0 then 1 else 0),⟨_,A,g0,[],rfl,?_,oN.refl _ _ _ _,Mv.refl _ _ _ _,az,Nat.le_refl _,?_,rfl,rfl,rfl⟩,?_⟩
  ·have:=S.anl p;rw[aE]at this;rw[this,append_nil];exact M
  ·have:=aqE g0 p;simp;lia
  rintro i σ H1 ⟨A1,g,F,rfl,M1,f1,I,J,W,a3,Y,Z,rfl⟩;have hA:A1 .bf=A .bf:=I.bf;have ac:A1 (.b8 p)=A (.b8 p):=(I (.b8 p) hp).elim id λz=>by{obtain⟨⟨q,e⟩,_⟩:=z;cases e};have ae:=M1.b8 hp;rw[TS.cA,ac]at ae;obtain⟨as,h3,h4⟩:=M1.kh hp;rw[TS.cA]at h4;have al:as.length=g.ask.length:=by{rw[h4.length,length_map]};have done:∀H2,bj H2 A1 n m (S.yV p g F) (se++F)->oN H H2 A n m->g.cont p=(g,[])->Q .non H2:=λH2 M2 f2 e=>by{refine k A1 H2 (g0.cont p) rfl ?_ f2 I;rw[e]at Y Z;rw[Y,Z,append_nil];exact M2};refine zd rfl (eZ ae wX) ⟨rfl,_,rfl,?_⟩;by_cases L:g.miss=0
  ·refine bH (by rw[L];exact decide_eq_true rfl) ?_;refine zd rfl (eZ ae JR) ⟨wF,λe he=>?_⟩;have s2:=aq (o:=.lst []) he;refine⟨A1 (.kh p),e,as,rfl,rfl,bU.of (s2 _ _ h3),bU.of aj,_,rfl,?_⟩;have M2:=M1.same s2;have f2:=f1.trans (oN.of_same (A:=A1) s2) I;generalize upd H1 e (.lst [])=H2 at s2 M2 f2;by_cases O:g.ask=[];{have:as=[]:=length_eq_zero_iff.mp (by rw[al,O];rfl);subst this;refine aL rfl ?_;exact done H2 M2 f2 (by unfold PG.cont;rw[if_pos L,uJ O])}
   ·refine bH (by cases as with | nil=>exact absurd (length_eq_zero_iff.mp al.symm) O | cons _ _=>rfl) ?_;obtain⟨⟨d,x⟩,l,hq⟩:=exists_cons_of_ne_nil O;obtain⟨a6,hx⟩:=J.q (d,x) (by rw[hq];simp);have ap:g.rd.length<=1000000:=by{unfold PG.mu at W aD;lia};have a7:=aaK g p;have a8:(g.cL p).length<=g0.mu+1:=by{unfold PG.mu at W ⊢;lia};refine⟨λaU H'=>∃i',i'<2*g.ask.length+(if g.miss=0 then 1 else 0)/\∃A1 g F,aU=[some (.ref (A .bf)),some (.int p),some (.ref (A (.b8 p)))]/\bj H' A1 n m (S.yV p g F) (se++F)/\oN H H' A n m/\Mv H A A1 n m/\WL n g/\g.mu<=g0.mu/\F.length+(g.cont p).2.length<=2*g0.mu+1/\
     (g0.cont p).1=(g.cont p).1/\(g0.cont p).2=F++(g.cont p).2/\i'=2*g.ask.length+(if g.miss=0 then 1 else 0),λaU H' z=>z,?_⟩
    have a9:F.length<=2*g0.mu+1:=by{lia};have hv:V.ref (A .bf)=V.ref (A1 .bf):=by{rw[hA]};refine⟨_,rfl,_,rfl,A1,n,m,S.yV p g F,se++F,p,d,x,l,by rw[hA];rfl,M2,hp,by rw[TS.cA];exact hq,hx,?_,by rw[TS.cA];exact ap,?_,?_⟩;{rw[TS.cA];exact λx hx=>((J.cL p).1 x hx).1};{rw[TS.cA];exact ah.at (by lia)};rw[TS.cA,TS.axK,append_assoc];intro H3 M3 f3;have ar:=M3.b8 hp;rw[TS.cA,ac]at ar;refine⟨_,rfl,A (.b8 p),_,rfl,dput ar wY GZ,?_⟩;obtain⟨M4,f4⟩:=M3.Bk hp (g:={g with miss:=((g.cL p).length:Int)}) (by rw[TS.cA]) (by rw[TS.cA]);rw[TS.pN]at M4;rw[ac]at M4 f4;have ad:=(f2.trans f3 I).trans f4 I;generalize upd H3 (A (.b8 p)) (.dK (Ax {g with miss:=((g.cL p).length:Int)} (A1 (.jn p)) (A1 (.kh p))))=H4 at M4 ad;have au:=M4.b8 hp;rw[TS.cA,ac]at au;refine zd rfl (eZ au wX) ⟨rfl,_,rfl,?_⟩;by_cases hb:g.cL p=[];{obtain⟨c1,c2⟩:=aor L O hb;refine bH (by rw[hb];exact decide_eq_true rfl) ?_;have eg:({g with miss:=((g.cL p).length:Int)}:PG)=g:=by{rw[hb];cases g;simp_all};rw[eg,hb,append_nil]at M4;have bd:1+(g.lent.cont p).2.length<=(g.cont p).2.length:=by{rw[c2,length_append];have:g.dM p=[(d,.lend p x g.num)]:=by{unfold PG.dM;rw[hq]};rw[this];simp};refine⟨_,rfl,_,rfl,A1,n,m,S.yV p g F,se++F,p,by rw[hA];rfl,M4,hp,by rw[TS.cA];exact O,by rw[TS.cA];exact J,by rw[TS.cA];exact ap,ah.at (by lia),?_⟩;rw[TS.cA];intro A5 H5 M5 f5 aH;have e5:(S.yV p g F).yV p g.lent (g.dM p)=S.yV p g.lent (F++g.dM p):=by{unfold TS.yV;simp only[nP,lq]};rw[e5,append_assoc]at M5;refine⟨_,?_,A5,g.lent,F++g.dM p,rfl,M5,ad.trans f5 I,I.trans ad.lv aH,J.lent,Nat.le_trans g.um W,?_,?_,?_,rfl⟩;{rw[PG.zz,PG.zA,hq];simp};{rw[length_append];have:g.dM p=[(d,.lend p x g.num)]:=by{unfold PG.dM;rw[hq]};rw[this];simp only[length_singleton];lia};{rw[Y,c1]};{rw[Z,c2,append_assoc]}};{obtain⟨c1,c2⟩:=aqD L O hb;have aI:(g.cL p).length≠0:=λz=>hb (length_eq_zero_iff.mp z);refine aL (decide_eq_false λz=>aI (by have z1:((g.cL p).length:Int)=0:=V.int.inj z;lia)) ?_;refine⟨_,?_,A1,{g with miss:=((g.cL p).length:Int)},F++g.cL p,rfl,M4,ad,I,⟨J.w,J.r,J.q⟩,W,?_,?_,?_,rfl⟩;{rw[if_pos L,if_neg (by show((g.cL p).length:Int)≠0;lia)];simp};{rw[length_append];have:=congrArg List.length c2;rw[length_append]at this;lia};{rw[Y,c1]};{rw[Z,c2,append_assoc]}}
  ·refine aL (decide_eq_false λz=>L (V.int.inj z)) ?_;exact wD (done H1 M1 f1 (by unfold PG.cont;rw[if_neg L]))
theorem anm{H:Hp}{vs:List V}{l:UL}{r:List UL}(h:aG H vs ((l::r).map UL.d)):∃b us,vs=.ref b::us/\H b=some (.tup l.vs)/\aG H us (r.map UL.d):=by
 rw[map_cons]at h;obtain⟨v,us,e,z,rl⟩:=aG.cons_inv h;cases l with
 | ask p x=>simp only[UL.d,Rep,aG]at z;obtain⟨b,xs,rfl,F,_,_,rfl,rfl,_,_,rfl,rfl,_,_,rfl,rfl,rfl⟩:=z;exact⟨b,us,e,F,rl⟩
 | ans p o=>cases o<;>(simp only[UL.d,oD,Rep,aG]at z;obtain⟨b,xs,rfl,F,_,_,rfl,rfl,_,_,rfl,rfl,_,_,rfl,rfl,rfl⟩:=z;exact⟨b,us,e,F,rl⟩)
 | gave p x=>simp only[UL.d,Rep,aG]at z;obtain⟨b,xs,rfl,F,_,_,rfl,rfl,_,_,rfl,rfl,_,_,rfl,rfl,rfl⟩:=z;exact⟨b,us,e,F,rl⟩
theorem aaO{H:Hp}{b:Addr}{l:UL}(h:H b=some (.tup l.vs)):Rep H (.ref b) l.d:=by
 cases l with| ask p x=>simp only[UL.d,Rep,aG];exact⟨b,_,rfl,h,_,_,rfl,rfl,_,_,rfl,rfl,_,_,rfl,rfl,rfl⟩| ans p o=>cases o<;>(simp only[UL.d,oD,Rep,aG];exact⟨b,_,rfl,h,_,_,rfl,rfl,_,_,rfl,rfl,_,_,rfl,rfl,rfl⟩)| gave p x=>simp only[UL.d,Rep,aG];exact⟨b,_,rfl,h,_,_,rfl,rfl,_,_,rfl,rfl,_,_,rfl,rfl,rfl⟩
def aAH:Sp:=λvs H Q _=>∃A n m S se,∃d:Nat,∃l r,vs=[.ref (A .bf),.int d]/\bj H A n m S se/\d<n/\S.up d=l::r/\l.pg<m/\WL n (S.pg l.pg)/\((S.pg l.pg).ask=[]↔(S.pg l.pg).miss=0)/\l.good (S.pg l.pg)/\(S.pg l.pg).mu<=900000/\Eb S se (4*(S.pg l.pg).mu+20)/\
 ∀b A' H',bj H' A' n m (S.Ph d l r) (se++((S.pg l.pg).take l.pg d l).2)->oN H H' A n m->Mv H A A' n m->H' b=some (.tup l.vs)->Q (.ref b) H'
theorem af2(T:Txt K w mg t):cX P w K mg base mW 3 t.jA t.Ck ["_law_town","_law_desk"] aAH:=by
 refine T.Vy.ok BL (λvs H Q E h=>?_) (λca A outer s H vs Q E hr h=>?_);{obtain⟨A,n,m,S,se,d,l,r,rfl,_⟩:=h;rfl}
 ·obtain⟨A,n,m,S,se,d,l,r,rfl,M,hd,ba,hp,Y,ay,az,ar,aD,k⟩:=h;have hu:=kY hr;have sl:sizeLine=16777216:=by{decide};refine⟨_,(ao (bu (i:=2) BL.nd rfl (Or.inl rfl) (dZ plainAttrs_list slot_list_pop type_list_pop GK (aN bz (bL hu (pv 0) aC (λ_ _=>rfl)) (pv 1) (λ_ _=>rfl)) (aa aB ak)))
   (ao (bu (i:=3) BL.nd rfl (Or.inl rfl) (aN bz (bL hu (pv 0) aC (λ_ _=>rfl)) (aN bC (pv 2) aB (λ_ _=>rfl)) (λ_ _=>rfl)))
   (ao (bY (aP cQ (aN bC (pv 2) aB (λ_ _=>rfl)) aC (aY _)) (ao (bN (dZ plainAttrs_list PySem.F.slot_list_append PySem.F.type_list_append cu (bL hu (pv 3) aC (λ_ _=>rfl)) (aa (b7 (aa (pv 1) (aa (aN bC (pv 2) aB (λ_ _=>rfl)) ak))) ak)))
   (ao (bN (bZ (aaN T) (hr.mono (by decide):bV 2 _) (by rfl) T.aeR T.T6.kp T.aeQ .nil bW (aa (pv 0) (aa (aN bC (pv 2) aB (λ_ _=>rfl)) ak))))
   (aA (aZ (pv 2))))) bw)
   (ao (bY (yo (wH (aN bC (pv 2) aB (λ_ _=>rfl)))) (aA (mK hu (pv 3) aC (aN bC (pv 2) aB (λ_ _=>rfl)) (by rfl))) bw)
   (ao (bY (aP cQ (aN bC (pv 2) aB (λ_ _=>rfl)) aC (aY _)) (ao (bY (aP cQ (bL hu (pv 3) aC (λ_ _=>rfl)) (pv 1) (aY _)) (aA (mK hu (pv 3) aC (Vk GD aB) (by rfl))) bw)
   (aA (aZ (pv 2)))) bw)
   (ao (mK hu (pv 3) aC (bI Mj (bL hu (pv 3) aC (λ_ _=>rfl)) aB) (by rfl))
   (ao (bY (aP cQ (bL hu (pv 3) aC (λ_ _=>rfl)) aB (aY _)) (ao (bN (bZ (KH T) (hr.mono (by decide):bV 1 _) (by rfl) T.Qi T.Cw.kp T.Qh .nil bW (aa (pv 0) (aa (aN bC (pv 2) aB (λ_ _=>rfl)) ak))))
   (aA (bN (bZ (aaN T) (hr.mono (by decide):bV 2 _) (by rfl) T.aeR T.T6.kp T.aeQ .nil bW (aa (pv 0) (aa (aN bC (pv 2) aB (λ_ _=>rfl)) ak)))))) bw)
   (aA (aZ (pv 2)))))))))),?_⟩
  try dsimp only[dj,Cx.kE]
  show let Z1:L2.TS:=_;let Z2:L2.TS:=_;let Z3:L2.TS:=_;let Z4:L2.TS:=_;let Z5:L2.TS:=_;let Z6:L2.TS:=aV Z3 (aV Z4 (Z5));let Z7:L2.TS:=cR _ Z6 bM;let Z8:L2.TS:=_;let Z9:L2.TS:=cR _ Z8 bM;let z8:L2.TS:=_;let KC:L2.TS:=cR _ z8 bM;let KD:L2.TS:=_;let Qv:L2.TS:=aV KC (KD);let Qw:L2.TS:=cR _ Qv bM;let aK:L2.TS:=_;let aO:L2.TS:=_;let aR:L2.TS:=_;let aS:L2.TS:=aV aO (aR);let aT:L2.TS:=cR _ aS bM;let aW:L2.TS:=_;let D0:Ends:=_;(aV Z1 (aV Z2 (aV Z7 (aV Z9 (aV Qw (aV aK (aV aT (aW)))))))) D0 _ _;intro Z1 Z2 Z3 Z4 Z5 Z6 Z7 Z8 Z9 z8 KC KD Qv Qw aK aO aR aS aT aW D0;obtain⟨uv,u1,u2⟩:=M.up hd;rw[ba]at u2;obtain⟨b,us,rfl,hb,u3⟩:=anm u2;refine WM rfl (eZ M.bf JQ) rfl (bU.of M.ups) (bR hd) ⟨.inl ⟨rfl,_,bU.of u1⟩,A (.up d),_,0,0,_,rfl,rfl,u1,(by decide),(by decide),ap4 _ _,rfl,?_⟩;rw[eraseIdx_cons_zero];obtain⟨M1,f1⟩:=M.aiV hd u3;have I:=(f1.tups M) b _ hb;generalize upd H (A (.up d)) (.lst us)=H1 at M1 f1 I;generalize aE:({S with up:=aM S.up d r}:TS)=S1 at M1;have bb:S1.pg=S.pg:=by{rw[<-aE]};have bc:S1.dn=S.dn:=by{rw[<-aE]};have au:Eb S1 se (4*(S.pg l.pg).mu+20):=⟨λe=>by rw[bc];exact aD.1 e,aD.2⟩;have ag:∀z:PG×List (Nat×Let),z=(S.pg l.pg).take l.pg d l->S1.yV l.pg z.1 z.2=S.Ph d l r:=λz e=>by{rw[e,<-aE];rfl};refine zd rfl (eZ M1.bf lA) (zt rfl (cW.of I) (UL.at1 l) ⟨A .dg,_,_,_,rfl,rfl,bU.of M1.dg,bR hp,?_⟩);have L:bj H1 A n m (S1.yV l.pg (S.pg l.pg) []) se:=by{have:=S1.anl l.pg;rw[bb]at this;rw[this];exact M1};have ai:=L.b8 hp;rw[TS.cA]at ai;generalize hq:l.pg=p0 at hp Y ay az ar aD k au ag L ai ⊢;cases l with
  | ask p x=>
    have al:p=p0:=hq;subst al;have hx:x=.rd\/x=.wr:=az;refine zt rfl (cW.of I) rfl ⟨rfl,_,rfl,?_⟩;refine bH fQ ?_;obtain⟨av,a1,a2⟩:=L.kh hp;rw[TS.cA]at a2;have cf:av.length=(S.pg p).ask.length:=by{rw[a2.length,length_map]};have cg:(S.pg p).ask.length<=900000:=by{unfold PG.mu at ar;lia};refine zd rfl (eZ ai JR) ⟨.inl ⟨rfl,_,bU.of a1⟩,_,rfl,zt rfl (cW.of I) rfl ⟨sS,λtt ht=>?_⟩⟩;have s2:=aq (o:=.tup [.int d,.str x.s]) ht;refine⟨A (.kh p),av,_,rfl,rfl,s2 _ _ a1,by lia,?_⟩;have rp:aG (upd H1 tt (.tup [.int d,.str x.s])) (av++[.ref tt]) (((S.pg p).ask++[(d,x)]).map uh):=by{rw[map_append];refine aG.snoc (a2.aU (aQ s2) (lQ _)) ?_;simp only[uh,Rep,aG];exact⟨tt,_,rfl,aj,_,_,rfl,rfl,_,_,rfl,rfl,rfl⟩};obtain⟨M3,f3⟩:=(L.same s2).avE hp rp;have W:=(f3.tups (L.same s2)) b _ (s2 _ _ I);have O:=(f1.trans (oN.of_same (A:=A) s2) (Mv.refl _ _ _ _)).trans f3 (Mv.refl _ _ _ _);generalize upd (upd H1 tt (.tup [.int d,.str x.s])) (A (.kh p)) (.lst (av++[.ref tt]))=H3 at M3 f3 W O;rw[TS.pN,TS.cA]at M3;have aw:WL n ({S.pg p with ask:=(S.pg p).ask++[(d,x)]}:PG):=⟨Y.w,Y.r,λy hy=>by
     rcases mem_append.mp hy with hy | hy
     ·exact Y.q y hy
     ·have:y=(d,x):=by simpa using hy
      rw[this];exact⟨hd,hx⟩⟩
    have a3:({S.pg p with ask:=(S.pg p).ask++[(d,x)]}:PG).mu=(S.pg p).mu+2:=by{unfold PG.mu;simp;lia};refine⟨_,rfl,zt rfl (cW.of W) rfl ⟨A,n,m,_,se,p,rfl,M3,hp,by rw[TS.cA];exact aw,?_,?_,?_⟩⟩;{rw[TS.cA,a3];have:(S.pg p).mu<=900000:=ar;lia};{have:=Eb.at (acc:=[]) (p:=p) (g:={S.pg p with ask:=(S.pg p).ask++[(d,x)]}) (j:=4*((S.pg p).mu+2)+4) au (by show 0+_<=4*(S.pg p).mu+20;lia);rw[TS.cA,a3];rw[append_nil]at this;exact this};{rw[TS.cA];intro A4 H4 z hz M4 f4 an;have ez:z=(S.pg p).take p d (.ask p x):=by{rw[hz];simp only[PG.take];by_cases e:(S.pg p).ask=[];{rw[if_pos (ay.mp e),if_pos e,e];rfl};{rw[if_neg λy=>e (ay.mpr y),if_neg e]}};have e4:(S1.yV p {S.pg p with ask:=(S.pg p).ask++[(d,x)]} []).yV p z.1 z.2=S1.yV p z.1 z.2:=by{unfold TS.yV;simp only[nP,lq];rfl};rw[e4,ag z ez,ez]at M4;refine⟨_,rfl,k b A4 H4 M4 (O.trans f4 (Mv.refl _ _ _ _)) (λy hy=>(an y hy).imp id λe=>⟨e.1,O.lv _ e.2⟩) ((f4.tups M3) b _ W)⟩}
  | gave p x=>have al:p=p0:=hq;subst al;refine zt rfl (cW.of I) rfl ⟨rfl,_,rfl,?_⟩;refine aL (du ∅) ?_;refine zt rfl (cW.of I) rfl ⟨_,rfl,?_⟩;refine bH rfl ?_;refine zt rfl (cW.of I) rfl ⟨_,rfl,A (.b8 p),_,rfl,dput ai wY Kf,?_⟩;obtain⟨M2,f2⟩:=L.Bk hp (g:={S.pg p with num:=x}) (by rw[TS.cA]) (by rw[TS.cA]);rw[TS.pN]at M2;have Z:=(f2.tups L) b _ I;have aF:=f1.trans f2 (Mv.refl _ _ _ _);generalize upd H1 (A (.b8 p)) (.dK (Ax {S.pg p with num:=x} (A (.jn p)) (A (.kh p))))=H2 at M2 f2 Z aF;have ac:=M2.b8 hp;rw[TS.cA]at ac;refine zt rfl (cW.of Z) rfl ⟨rfl,_,rfl,?_⟩;refine bH fQ ?_;have ek:(S.pg p).take p d (.gave p x)=({S.pg p with num:=x,wr:=if(S.pg p).wr=some d then none else(S.pg p).wr},[]):=rfl;refine zd rfl (eZ ac uW) ⟨_,rfl,rfl,_,rfl,?_⟩;by_cases e:(S.pg p).wr=some d;{refine bH (by show decide (V.int (wrI (S.pg p).wr)=V.int d)=true;rw[e];exact decide_eq_true rfl) ?_;refine⟨_,rfl,_,rfl,A (.b8 p),_,rfl,dput ac wY GX,?_⟩;obtain⟨M3,f3⟩:=M2.Bk hp (g:={S.pg p with num:=x,wr:=none}) (by rw[TS.cA]) (by rw[TS.cA]);rw[TS.pN]at M3;refine⟨_,rfl,k b A _ ?_ (aF.trans f3 (Mv.refl _ _ _ _)) (Mv.refl _ _ _ _) ((f3.tups M2) b _ Z)⟩;have:=ag _ ek.symm;rw[if_pos e]at ek this;rw[<-this];show bj _ A n m _ (se++((S.pg p).take p d (.gave p x)).2);rw[ek,append_nil];exact M3};{refine aL (decide_eq_false λz=>e ?_) ?_;{have z1:wrI (S.pg p).wr=(d:Int):=V.int.inj z;cases hw:(S.pg p).wr with| none=>rw[hw]at z1;have:(-1:Int)=d:=z1;lia| some y=>rw[hw]at z1;have:(y:Int)=d:=z1;exact congrArg some (by lia)};{refine⟨_,rfl,k b A _ ?_ aF (Mv.refl _ _ _ _) Z⟩;have:=ag _ ek.symm;rw[if_neg e]at ek this;rw[<-this];show bj _ A n m _ (se++((S.pg p).take p d (.gave p x)).2);rw[ek,append_nil];exact M2}}
  | ans p o=>
    have al:p=p0:=hq;subst al;refine zt rfl (cW.of I) rfl ⟨rfl,_,rfl,?_⟩;refine aL (du ∅) ?_;try dsimp only[bM]
    refine gF (λb3 H'=>b3=[some (.ref (A .bf)),some (.int d),some (.ref b),some (.ref (A (.b8 p)))]/\bj H' A n m (S1.yV p {S.pg p with num:=o.getD (S.pg p).num} []) se/\oN H H' A n m/\H' b=some (.tup (UL.ans p o).vs)) (λN hN=>?_) ?_;{refine zt rfl (cW.of I) rfl ⟨_,rfl,?_⟩;cases o with| none=>refine aL rfl ?_;exact hN _ _ ⟨rfl,L,f1,I⟩| some x=>refine bH rfl ?_;refine zt rfl (cW.of I) rfl ⟨_,rfl,A (.b8 p),_,rfl,dput ai wY Kf,?_⟩;obtain⟨M2,f2⟩:=L.Bk hp (g:={S.pg p with num:=x}) (by rw[TS.cA]) (by rw[TS.cA]);rw[TS.pN]at M2;exact hN _ _ ⟨rfl,M2,f1.trans f2 (Mv.refl _ _ _ _),(f2.tups L) b _ I⟩}
    ·rintro b3 H2 ⟨rfl,M2,f2,Z⟩;have ac:=M2.b8 hp;rw[TS.cA]at ac;refine zt rfl (cW.of Z) rfl ⟨rfl,_,rfl,?_⟩;refine aL (du ∅) ?_;refine zd rfl (eZ ac wX) ⟨_,_,rfl,rfl,_,rfl,A (.b8 p),_,rfl,dput ac wY GZ,?_⟩;generalize ad:({S.pg p with num:=o.getD (S.pg p).num,miss:=(S.pg p).miss - 1}:PG)=J;obtain⟨M3,f3⟩:=M2.Bk hp (g:=J) (by rw[TS.cA,<-ad]) (by rw[TS.cA,<-ad]);rw[TS.pN]at M3;have W:=(f3.tups M2) b _ Z;have O:=f2.trans f3 (Mv.refl _ _ _ _);generalize upd H2 (A (.b8 p)) (.dK (Ax J (A (.jn p)) (A (.kh p))))=H3 at M3 f3 W O;have a4:=M3.b8 hp;rw[TS.cA]at a4;have gm:J.miss=(S.pg p).miss - 1:=by{rw[<-ad]};have ga:J.ask=(S.pg p).ask:=by{rw[<-ad]};have gr:J.rd=(S.pg p).rd:=by{rw[<-ad]};have aw:WL n J:=by{rw[<-ad];exact⟨Y.w,Y.r,Y.q⟩};have ci:J.mu=(S.pg p).mu:=by{unfold PG.mu;rw[ga,gr]};have ek:(S.pg p).take p d (.ans p o)=if(S.pg p).miss - 1=0 then((J.lent.serve p).1,J.dM p++(J.lent.serve p).2)else(J,[]):=by{simp only[PG.take];rw[ad]};have bl:(S.pg p).mu<=900000:=ar;try dsimp only[bM]
     refine zd rfl (eZ a4 wX) ⟨rfl,_,rfl,?_⟩;by_cases e:(S.pg p).miss - 1=0;{refine bH (by rw[gm,e];exact decide_eq_true rfl) ?_;rw[if_pos e]at ek;have bn:J.ask≠[]:=by{rw[ga];exact az e};refine⟨_,rfl,zt rfl (cW.of W) rfl ⟨A,n,m,_,se,p,rfl,M3,hp,by rw[TS.cA];exact bn,by rw[TS.cA];exact aw,?_,?_,?_⟩⟩;{rw[TS.cA,gr];unfold PG.mu at bl;lia};{have:=Eb.at (acc:=[]) (p:=p) (g:=J) (j:=1) au (by show 0+1<=4*(S.pg p).mu+20;lia);rw[append_nil]at this;exact this};{rw[TS.cA];intro A4 H4 M4 f4 an;have e4:(S1.yV p J []).yV p J.lent (J.dM p)=S1.yV p J.lent (J.dM p):=by{unfold TS.yV;simp only[nP];rfl};rw[e4]at M4;have hA:A4 .bf=A .bf:=an.bf;have a5:=(f4.tups M3) b _ W;have ll:(J.dM p).length<=1:=by{unfold PG.dM;split<;>simp};have ck:=J.um;refine⟨_,rfl,zt rfl (cW.of a5) rfl ⟨A4,n,m,_,se++J.dM p,p,by rw[hA];rfl,M4,hp,by rw[TS.cA];exact aw.lent,?_,?_,?_⟩⟩;{rw[TS.cA];lia};{rw[TS.cA];exact Eb.at au (by show _<=4*(S.pg p).mu+20;lia)};{rw[TS.cA];intro A5 H5 z hz M5 f5 bp;rw[PG.zA,gm,if_pos e]at hz;have e5:(S1.yV p J.lent (J.dM p)).yV p z.1 z.2=S1.yV p z.1 (J.dM p++z.2):=by{unfold TS.yV;simp only[nP,lq]};rw[e5,append_assoc]at M5;have a6:(z.1,J.dM p++z.2)=(S.pg p).take p d (.ans p o):=by{rw[ek,hz]};have:=ag _ a6;have mv:Mv H A A5 n m:=λy hy=>((an.trans f4.lv bp) y hy).imp id λe=>⟨e.1,O.lv _ e.2⟩;refine⟨_,rfl,k b A5 H5 ?_ ((O.trans f4 (Mv.refl _ _ _ _)).trans f5 λy hy=>(an y hy).imp id λe=>⟨e.1,O.lv _ e.2⟩) mv ((f5.tups M4) b _ a5)⟩;rw[<-this];show bj _ A5 n m _ (se++((S.pg p).take p d (.ans p o)).2);rw[<-a6];exact M5}}};{refine aL (by rw[gm];exact decide_eq_false λz=>e (V.int.inj z)) ?_;rw[if_neg e]at ek;refine⟨_,rfl,k b A H3 ?_ O (Mv.refl _ _ _ _) W⟩;have:=ag _ ek.symm;rw[<-this];show bj _ A n m _ (se++((S.pg p).take p d (.ans p o)).2);rw[ek,append_nil];exact M3}
theorem xQ{n p:Nat}(h:p<n):ixN n (p:Int)=some p:=by unfold ixN;rw[if_pos (Int.natCast_nonneg _),if_pos (by lia)];simp
theorem z9{m p:Nat}{f g:Nat->V}{v:V}(hp:p<m)(z:g p=v)(h:∀q,q≠p->g q=f q):((range m).map f).set p v=(range m).map g:=by
 refine ext_getElem? λi=>?_;by_cases e:i=p;{subst e;rw[getElem?_set_self (by simpa using hp),getElem?_map,getElem?_range hp];simp[z]};{rw[getElem?_set_ne (Ne.symm e),getElem?_map,getElem?_map];by_cases hi:i<m;{rw[getElem?_range hi];simp[h i e]};{rw[getElem?_eq_none (by simpa using hi)];rfl}}
def aD6:Sp:=λvs H Q _=>∃r a w,vs=[.str (Rt.s r),.ref a]/\H a=some (.tup (W.vs w))/\Q (.bl (decide (w.need.k<=r.k))) H
def axO:Sp:=λvs H Q _=>∃A n m S se a w,∃d p:Nat,vs=[.ref (A .bf),.int d,.ref a]/\bj H A n m S se/\d<n/\H a=some (.tup (W.vs w))/\w.pg=(p:Int)/\p<m/\S.row.length<=1000000/\
 ∀H',bj H' A n m {S with ds:=aM S.ds d ((S.ds d).done w),row:=cZ S.row d [(w.mC,w.pg,(S.ds d).num w)]} se->oN H H' A n m->Q (.int ((S.ds d).num w)) H'
def aAL:Sp:=λvs H Q _=>∃A n m S se l r,∃d p:Nat,vs=[.ref (A .bf),.int d]/\bj H A n m S se/\d<n/\S.dn d=l::r/\l.pg=(p:Int)/\p<m/\l.nice/\(∀w,(S.ds d).ws=some w->∃q:Nat,q<m/\w.pg=(q:Int))/\S.row.length<=1000000/\(S.up d).length<=1000000/\
 ∀b H',bj H' A n m (S.Bj d l r) se->oN H H' A n m->H' b=some (.tup l.vs)->Q (.ref b) H'
theorem DS.aos(S:DS)(p:Int)(r:Rt)(h:S.rt p=r):S.hold p r (S.nm p)=S:=by
 unfold DS.hold;cases S;congr;{funext q;dsimp only at h ⊢;split<;>simp_all};{funext q;dsimp only at h ⊢;split<;>simp_all}
theorem ajJ{H:Hp}{vs:List V}{l:Let}{r:List Let}(h:aG H vs ((l::r).map Let.d)):∃b us,vs=.ref b::us/\H b=some (.tup l.vs)/\aG H us (r.map Let.d):=by
 rw[map_cons]at h;obtain⟨v,us,e,z,rl⟩:=aG.cons_inv h;cases l with
 | lend p x k=>simp only[Let.d,Rep,aG]at z;obtain⟨b,xs,rfl,F,_,_,rfl,rfl,_,_,rfl,rfl,_,_,rfl,rfl,_,_,rfl,rfl,rfl⟩:=z;exact⟨b,us,e,F,rl⟩
 | back p x=>simp only[Let.d,Rep,aG]at z;obtain⟨b,xs,rfl,F,_,_,rfl,rfl,_,_,rfl,rfl,_,_,rfl,rfl,rfl⟩:=z;exact⟨b,us,e,F,rl⟩
theorem W.axP(w:W):S6 w.vs 0=some (.str w.tag):=by cases w<;>rfl
theorem W.axQ(w:W):S6 w.vs 1=some (.int w.pg):=by cases w<;>rfl
theorem DS.aqG(S:DS)(w:W)(q:Int):(S.done w).rt q=S.rt q:=by
 cases w with| look p=>rfl| put p n=>show(if q=p then S.rt p else S.rt q)=S.rt q;split<;>simp_all
theorem DS.aqH(S:DS)(w:W):(S.done w).nm w.pg=S.num w:=by
 cases w with| look p=>rfl| put p n=>show(if p=p then n else S.nm p)=n;rw[if_pos rfl]
theorem VG(T:Txt K w mg t):cX P w K mg base mW 1 t.lH t.Hv ["_law_right","_law_wish"] aD6:=by
 refine T.My.ok ai7 (λvs H Q E h=>?_) (λF A outer s H vs Q E J h=>?_);{obtain⟨r,a,w,rfl,_⟩:=h;rfl}
 ·obtain⟨r,a,w,rfl,I,k⟩:=h;refine⟨_,(aA (aZ (azM (oA cQ (pv 0) aC (aY _)) (ak6 (aps (oA cQ (pv 0) aC (aY _)) (ak6 (oA cQ (aN bC (pv 1) aB (λ_ _=>rfl)) aC (aY _)))))))),?_⟩;try dsimp only[dj,Cx.kE]
  refine⟨_,rfl,rfl,_,rfl,?_⟩;cases r with
  | wr=>refine bH fQ ?_;cases w<;>exact k
  | rd=>refine aL (p7 (x:="write") (q:=.wr) rfl ⟨⟩) ?_;refine⟨_,rfl,rfl,_,rfl,?_⟩;refine bH fQ ?_;refine zt rfl (cW.of I) (W.axP w) ⟨rfl,?_⟩;cases w with| look p=>exact k| put p n=>have e:decide (V.str (W.put p n).tag=V.str "look")=false:=du (show("put":Str)≠"look" by decide +kernel);rw[e];exact k
  | no=>refine aL (p7 (x:="write") (q:=.wr) rfl ⟨⟩) ?_;refine⟨_,rfl,rfl,_,rfl,?_⟩;refine aL (p7 (x:="read") (q:=.rd) rfl ⟨⟩) ?_;cases w<;>exact k
theorem Ib(T:Txt K w mg t):cX P w K mg base mW 1 t.g8 t.vC ["_law_town","_law_desk","_law_wish"] axO:=by
 refine T.yQ.ok Hr (λvs H Q E h=>?_) (λau A outer s H vs Q E hr h=>?_);{obtain⟨A,n,m,S,se,a,w,d,p,rfl,_⟩:=h;rfl}
 ·obtain⟨A,n,m,S,se,a,w,d,p,rfl,M,hd,L,I,hp,aw,k⟩:=h;have Z:=kY hr;have sl:sizeLine=16777216:=by{decide};refine⟨_,(ao (bY (aP cQ (aN bC (pv 2) aB (λ_ _=>rfl)) aC (aY _)) (aA (uP (aN bC (pv 2) aB (λ_ _=>rfl)) (GC (aN bz (bL Z (pv 0) aC (λ_ _=>rfl)) (pv 1) (λ_ _=>rfl)) (aN bC (pv 2) aB (λ_ _=>rfl)) set_list))) bw)
   (ao (bu (i:=3) Hr.nd rfl (Or.inl rfl) (aN bz (aN bz (bL Z (pv 0) aC (λ_ _=>rfl)) (pv 1) (λ_ _=>rfl)) (aN bC (pv 2) aB (λ_ _=>rfl)) (λ_ _=>rfl)))
   (ao (bN (dZ plainAttrs_list PySem.F.slot_list_append PySem.F.type_list_append cu (bL Z (pv 0) aC (λ_ _=>rfl)) (aa (b7 (aa (aN bC (pv 2) aB (λ_ _=>rfl)) (aa (pv 1) (aa (aN bC (pv 2) aB (λ_ _=>rfl)) (aa (pv 3) ak))))) ak)))
   (aA (aZ (pv 3)))))),?_⟩
  try dsimp only[dj,Cx.kE]
  show let Z1:L2.TS:=_;let Z2:L2.TS:=cR _ Z1 bM;let Z3:L2.TS:=_;let Z4:L2.TS:=_;let Z5:L2.TS:=_;let D0:Ends:=_;(aV Z2 (aV Z3 (aV Z4 (Z5)))) D0 _ _;intro Z1 Z2 Z3 Z4 Z5 D0;try dsimp only[bM]
  refine gF (λam H'=>am=[some (.ref (A .bf)),some (.int d),some (.ref a),none]/\bj H' A n m {S with ds:=aM S.ds d ((S.ds d).done w)} se/\oN H H' A n m/\H' a=some (.tup w.vs)) (λN hN=>?_) ?_
  ·refine zt rfl (cW.of L) (W.axP w) ⟨rfl,_,rfl,?_⟩;cases w with
   | look q=>refine aL (du (show("look":Str)≠"put" by decide +kernel)) ?_;refine hN _ _ ⟨rfl,?_,oN.refl _ _ _ _,L⟩;have:({S with ds:=aM S.ds d ((S.ds d).done (.look q))}:TS)=S:=by{show({S with ds:=aM S.ds d (S.ds d)}:TS)=S;rw[eF]};rw[this];exact M
   | put q x=>have hq:q=(p:Int):=I;subst hq;refine bH fQ ?_;have z:=M.cp hd;refine zt rfl (cW.of L) rfl (WM rfl (eZ M.bf uV) rfl (bU.of M.copies) (bR hd) (zt rfl (cW.of L) rfl ⟨A (.cp d),_,_,p,rfl,rfl,z,xQ (by simpa using hp),?_⟩));obtain⟨M1,f1⟩:=M.aAp hd (D':=(S.ds d).done (.put p x)) (by funext q;exact DS.aqG _ _ _) rfl;have e:((range m).map λq:Nat=>V.int ((S.ds d).nm q)).set p (.int x)=(range m).map λq:Nat=>V.int (((S.ds d).done (.put p x)).nm q):=by{refine z9 hp ?_ λq hq=>?_;{show V.int (if(p:Int)=p then x else _)=_;rw[if_pos rfl]};{show V.int (if(q:Int)=p then x else _)=_;rw[if_neg (by lia)]}};rw[e];exact hN _ _ ⟨rfl,M1,f1,(f1.tups M) a _ L⟩
  ·rintro am H1 ⟨rfl,M1,f1,J⟩;have z:=M1.cp hd;simp only[aJ]at z;have O:((S.ds d).done w).nm (p:Int)=(S.ds d).num w:=by{rw[<-I];exact DS.aqH _ _};refine WM rfl (eZ M1.bf uV) rfl (bU.of M1.copies) (bR hd) (zt rfl (cW.of J) (W.axQ w) ⟨A (.cp d),_,p,.int ((S.ds d).num w),rfl,by rw[I],bU.of z,?_,?_⟩);{rw[bR hp,O]};obtain⟨rv,r1,r2⟩:=M1.row;have ad:rv.length<sizeLine:=by{rw[r2.length,length_map];show S.row.length<_;lia};refine zd rfl (eZ M1.bf asV) ⟨.inl ⟨rfl,_,bU.of r1⟩,zt rfl (cW.of J) (W.axP w) ⟨_,rfl,zt rfl (cW.of J) (W.axQ w) ⟨_,rfl,zz4,λb hb=>?_⟩⟩⟩;have Y:=aq (o:=.tup [.str w.tag,.int d,.int w.pg,.int ((S.ds d).num w)]) hb;refine⟨A .row,rv,_,rfl,rfl,Y _ _ r1,ad,?_⟩;have rp:aG (upd H1 b (.tup [.str w.tag,.int d,.int w.pg,.int ((S.ds d).num w)])) (rv++[.ref b]) ((cZ S.row d [(w.mC,w.pg,(S.ds d).num w)]).map RE.d):=by{unfold cZ;rw[map_append];refine aG.snoc (r2.aU (aQ Y) (bc RE.flat _)) ?_;simp only[RE.d,Rep,aG,<-W.alw];exact⟨b,_,rfl,aj,_,_,rfl,rfl,_,_,rfl,rfl,_,_,rfl,rfl,_,_,rfl,rfl,rfl⟩};obtain⟨M3,f3⟩:=(M1.same Y).aqd rp;exact⟨_,rfl,k _ M3 ((f1.trans (oN.of_same (A:=A) Y) (Mv.refl _ _ _ _)).trans f3 (Mv.refl _ _ _ _))⟩
theorem aaP(T:Txt K w mg t):cX P w K mg base mW 2 t.ie t.vG ["_law_town","_law_desk"] aAL:=by
 refine T.Kw.ok iw (λvs H Q E h=>?_) (λb8 A outer s H vs Q E hr h=>?_);{obtain⟨A,n,m,S,se,l,r,d,p,rfl,_⟩:=h;rfl}
 ·obtain⟨A,n,m,S,se,l,r,d,p,rfl,M,hd,a9,av,hp,aH,ba,bb,b9,k⟩:=h;have hu:=kY hr;have sl:sizeLine=16777216:=by{decide};refine⟨_,(ao (bu (i:=2) iw.nd rfl (Or.inl rfl) (dZ plainAttrs_list slot_list_pop type_list_pop GK (aN bz (bL hu (pv 0) aC (λ_ _=>rfl)) (pv 1) (λ_ _=>rfl)) (aa aB ak)))
   (ao (bu (i:=3) iw.nd rfl (Or.inl rfl) (aN bC (pv 2) aB (λ_ _=>rfl)))
   (ao (bu (i:=4) iw.nd rfl (Or.inl rfl) (aN bz (aN bz (bL hu (pv 0) aC (λ_ _=>rfl)) (pv 1) (λ_ _=>rfl)) (pv 3) (λ_ _=>rfl)))
   (ao (bY (aP cQ (aN bC (pv 2) aB (λ_ _=>rfl)) aC (aY _)) (ao (uP (aN bC (pv 2) aB (λ_ _=>rfl)) (GC (aN bz (bL hu (pv 0) aC (λ_ _=>rfl)) (pv 1) (λ_ _=>rfl)) (pv 3) set_list))
   (ao (uP (aN bC (pv 2) aB (λ_ _=>rfl)) (GC (aN bz (bL hu (pv 0) aC (λ_ _=>rfl)) (pv 1) (λ_ _=>rfl)) (pv 3) set_list))
   (ao (bu (i:=5) iw.nd rfl (Or.inl rfl) (aN bz (bL hu (pv 0) aC (λ_ _=>rfl)) (pv 1) (λ_ _=>rfl)))
   (ao (bY (PW.pt (Gy (yo (wH (pv 5))) (Gy (aP cQ (aN bC (pv 5) aB (λ_ _=>rfl)) (pv 3) (aY _)) (Ba (jo (bZ (VG T) (hr.mono (by decide):bV 1 _) (by rfl) T.aaA T.My.kp T.aaz .nil bW (aa (aN bC (pv 2) aB (λ_ _=>rfl)) (aa (pv 5) ak)))))))) (ao (uP uO (GC (bL hu (pv 0) aC (λ_ _=>rfl)) (pv 1) set_list))
   (aA (bN (bZ (Ib T) (hr.mono (by decide):bV 1 _) (by rfl) T.Kv T.yQ.kp T.Ku .nil bW (aa (pv 0) (aa (pv 1) (aa (pv 5) ak))))))) bw)
   (aA (aZ (pv 2))))))) bw)
   (ao (bu (i:=6) iw.nd rfl (Or.inl rfl) uO)
   (ao (bY (aP cQ (pv 4) aC (aY _)) (aA (bu (i:=6) iw.nd rfl (Or.inl rfl) (aN bz (aN bz (bL hu (pv 0) aC (λ_ _=>rfl)) (pv 1) (λ_ _=>rfl)) (pv 3) (λ_ _=>rfl)))) bw)
   (ao (bY (PW.pt (nJ (aP cQ (pv 4) aC (aY _)) (lZ (aP cQ (aN bC (pv 2) aB (λ_ _=>rfl)) aC (aY _))))) (aA (uP (aN bC (pv 2) aB (λ_ _=>rfl)) (GC (aN bz (bL hu (pv 0) aC (λ_ _=>rfl)) (pv 1) (λ_ _=>rfl)) (pv 3) set_list))) bw)
   (ao (bN (dZ plainAttrs_list PySem.F.slot_list_append PySem.F.type_list_append cu (aN bz (bL hu (pv 0) aC (λ_ _=>rfl)) (pv 1) (λ_ _=>rfl)) (aa (b7 (aa aC (aa (pv 3) (aa (pv 6) ak)))) ak)))
   (aA (aZ (pv 2))))))))))),?_⟩
  try dsimp only[dj,Cx.kE]
  show let Z1:L2.TS:=_;let Z2:L2.TS:=_;let Z3:L2.TS:=_;let Z4:L2.TS:=_;let Z5:L2.TS:=_;let Z6:L2.TS:=_;let Z7:L2.TS:=_;let Z8:L2.TS:=_;let Z9:L2.TS:=aV Z7 (Z8);let z8:L2.TS:=cR _ Z9 bM;let KC:L2.TS:=_;let KD:L2.TS:=aV Z4 (aV Z5 (aV Z6 (aV z8 (KC))));let Qv:L2.TS:=cR _ KD bM;let Qw:L2.TS:=_;let aI:L2.TS:=_;let aK:L2.TS:=cR _ aI bM;let aO:L2.TS:=_;let aR:L2.TS:=cR _ aO bM;let aS:L2.TS:=_;let aT:L2.TS:=_;let D0:Ends:=_;(aV Z1 (aV Z2 (aV Z3 (aV Qv (aV Qw (aV aK (aV aR (aV aS (aT))))))))) D0 _ _;intro Z1 Z2 Z3 Z4 Z5 Z6 Z7 Z8 Z9 z8 KC KD Qv Qw aI aK aO aR aS aT D0;obtain⟨dv,d1,d2⟩:=M.dn hd;rw[a9]at d2;obtain⟨b,us,rfl,hb,d3⟩:=ajJ d2;refine WM rfl (eZ M.bf zE) rfl (bU.of M.downs) (bR hd) ⟨.inl ⟨rfl,_,bU.of d1⟩,A (.dn d),_,0,0,_,rfl,rfl,d1,(by decide),(by decide),ap4 _ _,rfl,?_⟩;rw[eraseIdx_cons_zero];obtain⟨M1,f1⟩:=M.aog hd d3;have I:=(f1.tups M) b _ hb;generalize upd H (A (.dn d)) (.lst us)=H1 at M1 f1 I;generalize Z:({S with dn:=aM S.dn d r}:TS)=L at M1;have O:L.ds=S.ds:=by{rw[<-Z]};have aW:L.up=S.up:=by{rw[<-Z]};have aX:L.row=S.row:=by{rw[<-Z]};have bd:S6 l.vs 1=some (.int p):=by{cases l<;>exact congrArg (λz=>some (V.int z)) av};have ap:=M1.rt hd;rw[O]at ap;refine zt rfl (cW.of I) bd ?_;refine WM rfl (eZ M1.bf m5) rfl (bU.of M1.rights) (bR hd) (zl rfl (bU.of ap) (bR hp) ?_);cases l with
  | lend q x y=>have hq:q=(p:Int):=av;subst hq;have hx:x=.rd\/x=.wr:=aH;refine zt rfl (cW.of I) rfl ⟨rfl,_,rfl,?_⟩;refine bH fQ ?_;refine zt rfl (cW.of I) rfl (WM rfl (eZ M1.bf m5) rfl (bU.of M1.rights) (bR hd) ⟨_,rfl,A (.rt d),_,_,p,rfl,rfl,ap,xQ (by simpa using hp),?_⟩);have e1:((range m).map λq:Nat=>V.str ((S.ds d).rt q).s).set p (.str x.s)=(range m).map λq:Nat=>V.str (({S.ds d with rt:=((S.ds d).hold p x y).rt}:DS).rt q).s:=by{refine z9 hp ?_ λq hq=>?_;{show V.str (if(p:Int)=p then x else _).s=_;rw[if_pos rfl]};{show V.str (if(q:Int)=p then x else _).s=_;rw[if_neg (by lia)]}};rw[e1];obtain⟨M2,f2⟩:=M1.axe hd (D':={S.ds d with rt:=((S.ds d).hold p x y).rt}) (by rw[O]) (by rw[O]);have ah:=(f2.tups M1) b _ I;have a1:=f1.trans f2 (Mv.refl _ _ _ _);generalize upd H1 (A (.rt d)) (.lst ((range m).map λq:Nat=>V.str (({S.ds d with rt:=((S.ds d).hold p x y).rt}:DS).rt q).s))=H2 at M2 f2 ah a1;have ai:=M2.cp hd;simp only[aJ]at ai;refine zt rfl (cW.of ah) rfl (WM rfl (eZ M2.bf uV) rfl (bU.of M2.copies) (bR hd) ⟨_,rfl,A (.cp d),_,_,p,rfl,rfl,ai,xQ (by simpa using hp),?_⟩);have e2:((range m).map λq:Nat=>V.int ((S.ds d).nm q)).set p (.int y)=(range m).map λq:Nat=>V.int (((S.ds d).hold p x y).nm q):=by{refine z9 hp ?_ λq hq=>?_;{show V.int (if(p:Int)=p then y else _)=_;rw[if_pos rfl]};{show V.int (if(q:Int)=p then y else _)=_;rw[if_neg (by lia)]}};dsimp only;rw[e2];obtain⟨M3,f3⟩:=M2.aAp hd (D':=(S.ds d).hold p x y) (by simp only[aJ]) (by simp only[aJ];rfl);simp only[nP,O]at M3;have ac:=(f3.tups M2) b _ ah;have al:=a1.trans f3 (Mv.refl _ _ _ _);generalize upd H2 (A (.cp d)) (.lst ((range m).map λq:Nat=>V.int (((S.ds d).hold p x y).nm q)))=H3 at M3 f3 ac al;generalize ad:({L with ds:=aM S.ds d ((S.ds d).hold p x y)}:TS)=S3 at M3;have aw:S3.ds d=(S.ds d).hold p x y:=by{rw[<-ad];exact aJ _ _ _};obtain⟨wv,w1,w2,w3⟩:=M3.dN;obtain⟨v,v1,v2⟩:=w3 d hd;rw[aw,DS.JP]at v2;have as:S.Bj d (.lend p x y) r={S3 with ds:=aM S3.ds d ((S.ds d).lr p x y).1,up:=S.up,row:=cZ S.row d ((S.ds d).lr p x y).2}:=by{rw[<-ad,<-Z];simp only[TS.Bj,TS.jG,DS.nQ,nP,append_nil,eF]};refine WM rfl (eZ M3.bf lz) rfl (bU.of w1) (iH v1) ?_;have Y:((S.ds d).lr p x y)=((S.ds d).hold p x y,[])->bj H3 A n m (S.Bj d (.lend p x y) r) se:=λe=>by{rw[as,e];have:({S3 with ds:=aM S3.ds d ((S.ds d).hold p x y),up:=S.up,row:=cZ S.row d []}:TS)=S3:=by{rw[<-aw,eF,<-ad,<-Z];unfold cZ;simp};rw[this];exact M3};cases hw:(S.ds d).ws with| none=>rw[hw]at v2;have ev:v=.non:=v2;subst ev;refine⟨_,rfl,_,rfl,?_⟩;refine aL rfl (wD ?_);exact⟨_,rfl,k b H3 (Y (by unfold DS.lr;rw[hw])) al ac⟩| some w=>rw[hw]at v2;obtain⟨wa,ev,ay⟩:=v2;subst ev;obtain⟨q,cg,ch⟩:=ba w hw;refine⟨_,rfl,_,rfl,?_⟩;refine bH rfl ?_;refine zt rfl (cW.of ay) (W.axQ w) ⟨_,rfl,rfl,_,rfl,?_⟩;by_cases af:w.pg=(p:Int);{refine bH (decide_eq_true (by rw[af])) ?_;refine zt rfl (cW.of ac) rfl ⟨_,rfl,x,wa,w,rfl,ay,_,rfl,?_⟩;have a3:((S.ds d).hold p x y).ok w↔w.need.k<=x.k:=by{unfold DS.ok;rw[af,DS.rB]};by_cases hok:w.need.k<=x.k;{refine bH (decide_eq_true hok) ?_;refine zd rfl (eZ M3.bf lz) ⟨_,rfl,A .dN,_,_,d,rfl,rfl,w1,by rw[w2];exact xQ hd,?_⟩;obtain⟨M4,f4⟩:=M3.aqe hd (v:=.non) (o:=none) w1 rfl;rw[aw]at M4;have bn:=(f4.tups M3) wa _ ay;have bo:=(f4.tups M3) b _ ac;refine⟨_,rfl,_,rfl,_,rfl,A,n,m,_,se,wa,w,d,p,rfl,M4,hd,bn,af,hp,?_,λH5 M5 f5=>?_⟩;{show S3.row.length<=_;rw[<-ad];show L.row.length<=_;rw[aX];exact bb};{refine⟨_,rfl,k b H5 ?_ ((al.trans f4 (Mv.refl _ _ _ _)).trans f5 (Mv.refl _ _ _ _)) ((f5.tups M4) b _ bo)⟩;have el:(S.ds d).lr p x y=(({(S.ds d).hold p x y with ws:=none}:DS).done w,[(w.mC,w.pg,((S.ds d).hold p x y).num w)]):=by{unfold DS.lr;rw[hw];dsimp only;rw[if_pos ⟨af,a3.mpr hok⟩]};rw[as,el];simp only[aJ,nP]at M5;have en:({(S.ds d).hold p x y with ws:=none}:DS).num w=((S.ds d).hold p x y).num w:=by{cases w<;>rfl};have er:S3.row=S.row:=by{rw[<-ad];exact aX};have eu:S3.up=S.up:=by{rw[<-ad];exact aW};rw[en,er]at M5;have:({S3 with ds:=aM S3.ds d (({(S.ds d).hold p x y with ws:=none}:DS).done w),up:=S.up,row:=cZ S.row d [(w.mC,w.pg,((S.ds d).hold p x y).num w)]}:TS)={S3 with ds:=aM S3.ds d (({(S.ds d).hold p x y with ws:=none}:DS).done w),row:=cZ S.row d [(w.mC,w.pg,((S.ds d).hold p x y).num w)]}:=by{rw[<-eu]};rw[this];exact M5}};{refine aL (decide_eq_false hok) ?_;exact⟨_,rfl,k b H3 (Y (by unfold DS.lr;rw[hw];dsimp only;rw[if_neg λz=>hok (a3.mp z.2)])) al ac⟩}};{refine aL (decide_eq_false λz=>af (V.int.inj z)) (wD ?_);exact⟨_,rfl,k b H3 (Y (by unfold DS.lr;rw[hw];dsimp only;rw[if_neg λz=>af z.1])) al ac⟩}
  | back q x=>
    have hq:q=(p:Int):=av;subst hq;have hx:x=.rd\/x=.no:=aH;refine zt rfl (cW.of I) rfl ⟨rfl,_,rfl,?_⟩;refine aL (du ∅) ?_;try dsimp only[bM]
    refine gF (λau H'=>au=[some (.ref (A .bf)),some (.int d),some (.ref b),some (.int p),some (.str ((S.ds d).rt p).s),none,some .non]/\H'=H1) (λN hN=>hN _ _ ⟨rfl,rfl⟩) ?_;rintro au bq ⟨rfl,rfl⟩;try dsimp only[bM]
    refine gF (λau H'=>au=[some (.ref (A .bf)),some (.int d),some (.ref b),some (.int p),some (.str ((S.ds d).rt p).s),none,some (oV ((S.ds d).lX p))]/\H'=bq) (λN hN=>?_) ?_;{refine⟨_,rfl,rfl,_,rfl,?_⟩;by_cases e:(S.ds d).rt p=.wr;{refine bH (by rw[e];exact fQ) ?_;have ai:=M1.cp hd;rw[O]at ai;refine WM rfl (eZ M1.bf uV) rfl (bU.of M1.copies) (bR hd) (zl rfl (bU.of ai) (bR hp) ?_);refine hN _ _ ⟨?_,rfl⟩;unfold DS.lX;rw[if_pos e];rfl};{refine aL (p7 (x:="write") (q:=.wr) rfl e) ?_;refine hN _ _ ⟨?_,rfl⟩;unfold DS.lX;rw[if_neg e];rfl}}
    ·rintro au a5 ⟨rfl,rfl⟩;try dsimp only[bM]
     refine gF (λau H'=>au=[some (.ref (A .bf)),some (.int d),some (.ref b),some (.int p),some (.str ((S.ds d).rt p).s),none,some (oV ((S.ds d).lX p))]/\bj H' A n m {L with ds:=aM L.ds d ((S.ds d).down p x)} se/\oN H H' A n m/\H' b=some (.tup (Let.back p x).vs)) (λN hN=>?_) ?_
     ·have ag:∀D',D'=(S.ds d).hold p x ((S.ds d).nm p)->D'=(S.ds d).down p x->
       (awn (Zn (ali K) (jE 2) (tC (.int 2))) (azR (Zn (an4 K) (Zz (jE 0) (tC (.str "rights"))) (jE 1)) (jE 3) avx)) {nx:=N,rt:=Q} [some (.ref (A .bf)),some (.int d),some (.ref b),some (.int p),some (.str ((S.ds d).rt p).s),none,some (oV ((S.ds d).lX p))] a5:=λD' eD bt=>by
       refine zt rfl (cW.of I) rfl (WM rfl (eZ M1.bf m5) rfl (bU.of M1.rights) (bR hd) ⟨_,rfl,A (.rt d),_,_,p,rfl,rfl,ap,xQ (by simpa using hp),?_⟩)
       have e1:((range m).map λq:Nat=>V.str ((S.ds d).rt q).s).set p (.str x.s)=(range m).map λq:Nat=>V.str (D'.rt q).s:=by
        rw[eD]
        refine z9 hp ?_ λq hq=>?_
        ·show V.str (if(p:Int)=p then x else _).s=_;rw[if_pos rfl]
        ·show V.str (if(q:Int)=p then x else _).s=_;rw[if_neg (by lia)]
       rw[e1]
       have bv:D'.nm=(L.ds d).nm:=by rw[eD,O];funext q;show(if q=(p:Int)then(S.ds d).nm p else(S.ds d).nm q)=_;split<;>simp_all
       have bx:D'.ws=(L.ds d).ws:=by rw[eD,O];rfl
       obtain⟨M2,f2⟩:=M1.axe hd (D':=D') bv bx
       exact hN _ _ ⟨rfl,by rw[<-bt];exact M2,f1.trans f2 (Mv.refl _ _ _ _),(f2.tups M1) b _ I⟩
      have stay:(S.ds d).down p x=S.ds d->N [some (.ref (A .bf)),some (.int d),some (.ref b),some (.int p),some (.str ((S.ds d).rt p).s),none,some (oV ((S.ds d).lX p))] a5:=λe=>by{refine hN _ _ ⟨rfl,?_,f1,I⟩;have:({L with ds:=aM L.ds d ((S.ds d).down p x)}:TS)=L:=by{rw[e,<-O,eF]};rw[this];exact M1};refine⟨_,rfl,rfl,_,rfl,?_⟩;cases J:(S.ds d).rt p with
      | wr=>refine bH fQ (p6 ?_);rw[J]at ag;refine ag _ rfl ?_;unfold DS.down;rw[J,if_neg (by rcases hx with z | z<;>rw[z]<;>decide)]
      | rd=>refine aL (p7 (x:="write") (q:=.wr) rfl ⟨⟩) ?_;refine zt rfl (cW.of I) rfl ⟨rfl,_,rfl,?_⟩;rw[J]at ag stay;rcases hx with z | z;{subst z;refine aL (p7 (x:="none") (q:=.no) rfl ⟨⟩) ?_;exact stay (by unfold DS.down;rw[J,if_pos (by decide)])};{subst z;refine bH fQ ?_;exact ag _ rfl (by unfold DS.down;rw[J,if_neg (by decide)])}
      | no=>refine aL (p7 (x:="write") (q:=.wr) rfl ⟨⟩) ?_;refine zt rfl (cW.of I) rfl ⟨rfl,_,rfl,?_⟩;rw[J]at ag stay;rcases hx with z | z;{subst z;refine aL (p7 (x:="none") (q:=.no) rfl ⟨⟩) ?_;exact stay (by unfold DS.down;rw[J,if_pos (by decide)])};{subst z;refine bH fQ ?_;have e0:(S.ds d).down p .no=S.ds d:=by{unfold DS.down;rw[J,if_pos (by decide)]};exact ag _ rfl (by rw[e0];exact DS.aos _ _ _ J)}
     ·rintro au H2 ⟨rfl,M2,f2,ah⟩;obtain⟨uv,u1,u2⟩:=M2.up hd;have bB:uv.length<sizeLine:=by{rw[u2.length,length_map];show(L.up d).length<_;rw[aW];lia};refine WM rfl (eZ M2.bf JQ) rfl (bU.of M2.ups) (bR hd) ⟨.inl ⟨rfl,_,bU.of u1⟩,_,rfl,_,rfl,Zh,λc hc=>?_⟩;have s3:=aq (o:=.tup [.str "answer",.int p,oV ((S.ds d).lX p)]) hc;refine⟨A (.up d),uv,_,rfl,rfl,s3 _ _ u1,bB,?_⟩;have rp:aG (upd H2 c (.tup [.str "answer",.int p,oV ((S.ds d).lX p)])) (uv++[.ref c]) ((L.up d++[UL.ans p ((S.ds d).lX p)]).map UL.d):=by{rw[map_append];exact aG.snoc (u2.aU (aQ s3) (bc UL.flat _)) (aaO (l:=.ans p ((S.ds d).lX p)) aj)};obtain⟨M4,f4⟩:=(M2.same s3).aiV hd rp;refine⟨_,rfl,k b _ ?_ ((f2.trans (oN.of_same (A:=A) s3) (Mv.refl _ _ _ _)).trans f4 (Mv.refl _ _ _ _)) ((f4.tups (M2.same s3)) b _ (s3 _ _ ah))⟩;have:S.Bj d (.back p x) r={L with ds:=aM L.ds d ((S.ds d).down p x),up:=aM L.up d (L.up d++[UL.ans p ((S.ds d).lX p)])}:=by{rw[<-Z];simp only[TS.Bj,TS.jG,DS.nQ,Int.toNat_natCast,cZ];simp};rw[this];exact M4
def bG.dk:bG->Int
 | .look d _=>d
 | .put d _ _=>d
 | .rest d _=>d
 | .up d=>d
 | .down d=>d
def bG.tag:bG->Str
 | .look _ _=>"look"
 | .put _ _ _=>"put"
 | .rest _ _=>"rest"
 | .up _=>"up"
 | .down _=>"down"
theorem bG.at0(x:bG):S6 x.vs 0=some (.str x.tag):=by cases x<;>rfl
theorem bG.at1(x:bG):S6 x.vs 1=some (.int x.dk):=by cases x<;>rfl
def qW(n m:Nat)(S:TS)(x:bG):Str:=if inR x.dk n then(match x with
 | .up d=>bif (S.up d.toNat).isEmpty then "no letter" else ""
 | .down d=>bif (S.dn d.toNat).isEmpty then "no letter" else ""
 | .rest d p=>if inR p m then(bif decide ((S.ds d.toNat).rt p=.no)then "no copy" else "")else "no page"
 | .look d p=>if inR p m then(bif (S.ds d.toNat).ws.isSome then "waiting" else "")else "no page"
 | .put d p _=>if inR p m then(bif (S.ds d.toNat).ws.isSome then "waiting" else "")else "no page")else "no desk"
theorem aaQ{x y:Str}{c:Bool}:S6 [V.str x,V.str y] (if c then 1 else 0)=some (.str (bif c then y else x)):=by cases c<;>rfl
def aAO:Sp:=λvs H Q _=>∃A n m S se a x,vs=[.ref (A .bf),.ref a]/\bj H A n m S se/\H a=some (.tup (bG.vs x))/\∀H',bK H H'->Q (.str (qW n m S x)) H'
theorem Xa(T:Txt K w mg t):cX P w K mg base mW 1 t.gq t.tL ["_law_town","_law_deed"] aAO:=by
 refine T.HS.ok DP (λvs H Q E h=>?_) (λaQ A outer s H vs Q E hr h=>?_);{obtain⟨A,n,m,S,se,a,x,rfl,_⟩:=h;rfl}
 ·obtain⟨A,n,m,S,se,a,x,rfl,M,F,k⟩:=h;have hu:=kY hr;have ag:(("up":Str)++("s":Str))="ups":=∅;have ah:(("down":Str)++("s":Str))="downs":=∅;refine⟨_,(ao (bu (i:=2) DP.nd rfl (Or.inl rfl) (aN bC (pv 1) aB (λ_ _=>rfl)))
   (ao (bY (PW.pt (nJ (aP Vl (pv 2) aB (aY _)) (lZ (aP Oz (pv 2) (cG cJ (by rfl) T.pL PySem.boot_len (aa (bL hu (pv 0) aC (λ_ _=>rfl)) ak)) (aY _))))) (aA (aZ aC)) bw)
   (ao (bY (PW.pt (nJ (aP cQ (aN bC (pv 1) aB (λ_ _=>rfl)) aC (aY _)) (lZ (aP cQ (aN bC (pv 1) aB (λ_ _=>rfl)) aC (aY _))))) (aA (aZ (aN bz (bJ (aa aC (aa aC ak))) (gC nM (by rfl) T.Qo PyProof.Rows.Boot.«int» (aa (oA (apY hr.Zv) (aN bz (bL hu (pv 0) (bI Zr (aN bC (pv 1) aB (λ_ _=>rfl)) aC) (λ_ _=>rfl)) (pv 2) (λ_ _=>rfl)) (bJ ak) (aY _)) ak)) (λ_ _=>rfl)))) bw)
   (ao (bY (PW.pt (nJ (aP Vl (aN bC (pv 1) aB (λ_ _=>rfl)) aB (aY _)) (lZ (aP Oz (aN bC (pv 1) aB (λ_ _=>rfl)) (cG cJ (by rfl) T.pL PySem.boot_len (aa (bL hu (pv 0) aC (λ_ _=>rfl)) ak)) (aY _))))) (aA (aZ aC)) bw)
   (ao (bY (aP cQ (aN bC (pv 1) aB (λ_ _=>rfl)) aC (aY _)) (aA (aZ (aN bz (bJ (aa aC (aa aC ak))) (gC nM (by rfl) T.Qo PyProof.Rows.Boot.«int» (aa (oA cQ (aN bz (aN bz (bL hu (pv 0) aC (λ_ _=>rfl)) (pv 2) (λ_ _=>rfl)) (aN bC (pv 1) aB (λ_ _=>rfl)) (λ_ _=>rfl)) aC (aY _)) ak)) (λ_ _=>rfl)))) bw)
   (aA (aZ (aN bz (bJ (aa aC (aa aC ak))) (gC nM (by rfl) T.Qo PyProof.Rows.Boot.«int» (aa (apr (wH (aN bz (bL hu (pv 0) aC (λ_ _=>rfl)) (pv 2) (λ_ _=>rfl)))) ak)) (λ_ _=>rfl))))))))),?_⟩
  try dsimp only[dj,Cx.kE]
  show let Z1:L2.TS:=_;let Z2:L2.TS:=_;let Z3:L2.TS:=cR _ Z2 bM;let Z4:L2.TS:=_;let Z5:L2.TS:=cR _ Z4 bM;let Z6:L2.TS:=_;let Z7:L2.TS:=cR _ Z6 bM;let Z8:L2.TS:=_;let Z9:L2.TS:=cR _ Z8 bM;let z8:L2.TS:=_;let D0:Ends:=_;(aV Z1 (aV Z3 (aV Z5 (aV Z7 (aV Z9 (z8)))))) D0 _ _;intro Z1 Z2 Z3 Z4 Z5 Z6 Z7 Z8 Z9 z8 D0;obtain⟨ws,w1,w2,w3⟩:=M.dN;refine zt rfl (cW.of F) (bG.at1 x) ?_;refine⟨_,rfl,_,_,rfl,rfl,_,rfl,?_⟩;have ad:¬inR x.dk n->Q (.str "no desk") H:=λh=>by{have:=k H (bK.refl _);unfold qW at this;rw[if_neg h]at this;exact this};by_cases h0:x.dk<0;{refine bH (decide_eq_true h0) (p6 ?_);exact ad λh=>by unfold inR at h;lia}
  ·refine aL (decide_eq_false h0) ?_;refine⟨_,rfl,zd rfl (eZ M.bf lz) ⟨A .dN,ws,rfl,.inl (bU.of w1),_,_,rfl,rfl,_,rfl,?_⟩⟩;rw[w2];by_cases h1:(n:Int)<=x.dk;{refine bH (decide_eq_true h1) ?_;exact ad λh=>by unfold inR at h;lia}
   ·refine aL (decide_eq_false h1) ?_;have al:inR x.dk n:=⟨by lia,by lia⟩;have k':=k;unfold qW at k';rw[if_pos al]at k';obtain⟨d,hd⟩:∃d:Nat,x.dk=(d:Int):=⟨x.dk.toNat,by lia⟩;have I:d<n:=by{lia};rw[hd];cases x with
    | up L=>have e:L=(d:Int):=hd;subst e;simp only[Int.toNat_natCast]at k';refine zt rfl (cW.of F) rfl ⟨rfl,_,rfl,?_⟩;refine bH fQ (p6 ?_);obtain⟨uv,u1,u2⟩:=M.up I;refine⟨sS,λz O=>?_⟩;have s1:=aq (o:=.lst [.str "",.str "no letter"]) O;refine⟨_,rfl,zt rfl (cW.of (s1 _ _ F)) rfl ⟨_,_,rfl,rfl,∅,A .bf,.ref (A .ups),rfl,(by rw[ag];exact eZ (s1 _ _ M.bf) JQ),zl rfl (bU.of (s1 _ _ M.ups)) (bR I) ⟨wF,λe he=>?_⟩⟩⟩;have Z:=aq (o:=.lst []) he;refine⟨A (.up d),e,uv,rfl,rfl,bU.of (Z _ _ (s1 _ _ u1)),bU.of aj,.inr ⟨_,rfl,z,_,_,_,rfl,rfl,bU.of (Z _ _ aj),aaQ,?_⟩⟩;have eu:uv.isEmpty=(S.up d).isEmpty:=by{rw[fV.aG.isEmpty u2];cases S.up d<;>rfl};have:=k' _ (s1.trans Z);rw[<-eu]at this;exact this
    | down L=>have e:L=(d:Int):=hd;subst e;simp only[Int.toNat_natCast]at k';refine zt rfl (cW.of F) rfl ⟨rfl,_,rfl,?_⟩;refine aL (du (show("down":Str)≠"up" by decide +kernel)) ?_;refine zt rfl (cW.of F) rfl ⟨rfl,_,rfl,?_⟩;refine bH fQ ?_;obtain⟨uv,u1,u2⟩:=M.dn I;refine⟨sS,λz O=>?_⟩;have s1:=aq (o:=.lst [.str "",.str "no letter"]) O;refine⟨_,rfl,zt rfl (cW.of (s1 _ _ F)) rfl ⟨_,_,rfl,rfl,∅,A .bf,.ref (A .downs),rfl,(by rw[ah];exact eZ (s1 _ _ M.bf) zE),zl rfl (bU.of (s1 _ _ M.downs)) (bR I) ⟨wF,λe he=>?_⟩⟩⟩;have Z:=aq (o:=.lst []) he;refine⟨A (.dn d),e,uv,rfl,rfl,bU.of (Z _ _ (s1 _ _ u1)),bU.of aj,.inr ⟨_,rfl,z,_,_,_,rfl,rfl,bU.of (Z _ _ aj),aaQ,?_⟩⟩;have eu:uv.isEmpty=(S.dn d).isEmpty:=by{rw[fV.aG.isEmpty u2];cases S.dn d<;>rfl};have:=k' _ (s1.trans Z);rw[<-eu]at this;exact this
    | rest L y=>have e:L=(d:Int):=hd;subst e;simp only[Int.toNat_natCast]at k';refine zt rfl (cW.of F) rfl ⟨rfl,_,rfl,?_⟩;refine aL (du (show("rest":Str)≠"up" by decide +kernel)) ?_;refine zt rfl (cW.of F) rfl ⟨rfl,_,rfl,?_⟩;refine aL (du (show("rest":Str)≠"down" by decide +kernel)) ?_;refine zt rfl (cW.of F) rfl ⟨_,_,rfl,rfl,_,rfl,?_⟩;by_cases h2:y<0;{refine bH (decide_eq_true h2) (p6 ?_);have:=k' H (bK.refl _);rw[if_neg (λh=>by unfold inR at h;lia)]at this;exact this};{refine aL (decide_eq_false h2) ?_;refine zt rfl (cW.of F) rfl (zd rfl (eZ M.bf lA) ⟨A .dg,_,rfl,.inl (bU.of M.dg),_,_,rfl,rfl,_,rfl,?_⟩);rw[length_map,length_range];by_cases Y:(m:Int)<=y;{refine bH (decide_eq_true Y) ?_;have:=k' H (bK.refl _);rw[if_neg (λh=>by unfold inR at h;lia)]at this;exact this};{refine aL (decide_eq_false Y) ?_;have hy:inR y m:=⟨by lia,by lia⟩;obtain⟨p,hp⟩:∃p:Nat,y=(p:Int):=⟨y.toNat,by lia⟩;subst hp;have as:p<m:=by{lia};rw[if_pos hy]at k';refine zt rfl (cW.of F) rfl ⟨rfl,_,rfl,?_⟩;refine bH fQ ?_;refine⟨sS,λz O=>?_⟩;have s1:=aq (o:=.lst [.str "",.str "no copy"]) O;refine WM rfl (eZ (s1 _ _ M.bf) m5) rfl (bU.of (s1 _ _ M.rights)) (bR I) (zt rfl (cW.of (s1 _ _ F)) rfl ⟨A (.rt d),_,p,_,rfl,rfl,bU.of (s1 _ _ (M.rt I)),bR as,rfl,.inr ⟨_,rfl,z,_,_,_,rfl,rfl,bU.of aj,aaQ,?_⟩⟩);have:=k' _ s1;have er:decide (V.str ((S.ds d).rt p).s=V.str "none")=decide ((S.ds d).rt p=.no):=by{by_cases e:(S.ds d).rt p=.no;{rw[e];rfl};{rw[p7 (x:="none") (q:=.no) rfl e,decide_eq_false e]}};rw[<-er]at this;exact this}}
    | look L y=>have e:L=(d:Int):=hd;subst e;simp only[Int.toNat_natCast]at k';refine zt rfl (cW.of F) rfl ⟨rfl,_,rfl,?_⟩;refine aL (du (show("look":Str)≠"up" by decide +kernel)) ?_;refine zt rfl (cW.of F) rfl ⟨rfl,_,rfl,?_⟩;refine aL (du (show("look":Str)≠"down" by decide +kernel)) ?_;refine zt rfl (cW.of F) rfl ⟨_,_,rfl,rfl,_,rfl,?_⟩;by_cases h2:y<0;{refine bH (decide_eq_true h2) (p6 ?_);have:=k' H (bK.refl _);rw[if_neg (λh=>by unfold inR at h;lia)]at this;exact this};{refine aL (decide_eq_false h2) ?_;refine zt rfl (cW.of F) rfl (zd rfl (eZ M.bf lA) ⟨A .dg,_,rfl,.inl (bU.of M.dg),_,_,rfl,rfl,_,rfl,?_⟩);rw[length_map,length_range];by_cases Y:(m:Int)<=y;{refine bH (decide_eq_true Y) ?_;have:=k' H (bK.refl _);rw[if_neg (λh=>by unfold inR at h;lia)]at this;exact this};{refine aL (decide_eq_false Y) ?_;have hy:inR y m:=⟨by lia,by lia⟩;rw[if_pos hy]at k';refine zt rfl (cW.of F) rfl ⟨rfl,_,rfl,?_⟩;refine aL (du (show("look":Str)≠"rest" by decide +kernel)) ?_;refine⟨sS,λz O=>?_⟩;have s1:=aq (o:=.lst [.str "",.str "waiting"]) O;obtain⟨v,v1,W⟩:=w3 d I;have ev:(!decide (v=V.non))=(S.ds d).ws.isSome:=by{cases J:(S.ds d).ws with| none=>rw[J]at W;have e:v=.non:=W;rw[e];rfl| some w'=>rw[J]at W;obtain⟨a',e,_⟩:=W;rw[e];rfl};refine WM rfl (eZ (s1 _ _ M.bf) lz) rfl (bU.of (s1 _ _ w1)) (iH v1) (.inr ⟨_,rfl,z,_,_,_,rfl,rfl,bU.of aj,aaQ,?_⟩);have:=k' _ s1;rw[<-ev]at this;exact this}}
    | put L y q=>have e:L=(d:Int):=hd;subst e;simp only[Int.toNat_natCast]at k';refine zt rfl (cW.of F) rfl ⟨rfl,_,rfl,?_⟩;refine aL (du (show("put":Str)≠"up" by decide +kernel)) ?_;refine zt rfl (cW.of F) rfl ⟨rfl,_,rfl,?_⟩;refine aL (du (show("put":Str)≠"down" by decide +kernel)) ?_;refine zt rfl (cW.of F) rfl ⟨_,_,rfl,rfl,_,rfl,?_⟩;by_cases h2:y<0;{refine bH (decide_eq_true h2) (p6 ?_);have:=k' H (bK.refl _);rw[if_neg (λh=>by unfold inR at h;lia)]at this;exact this};{refine aL (decide_eq_false h2) ?_;refine zt rfl (cW.of F) rfl (zd rfl (eZ M.bf lA) ⟨A .dg,_,rfl,.inl (bU.of M.dg),_,_,rfl,rfl,_,rfl,?_⟩);rw[length_map,length_range];by_cases Y:(m:Int)<=y;{refine bH (decide_eq_true Y) ?_;have:=k' H (bK.refl _);rw[if_neg (λh=>by unfold inR at h;lia)]at this;exact this};{refine aL (decide_eq_false Y) ?_;have hy:inR y m:=⟨by lia,by lia⟩;rw[if_pos hy]at k';refine zt rfl (cW.of F) rfl ⟨rfl,_,rfl,?_⟩;refine aL (du (show("put":Str)≠"rest" by decide +kernel)) ?_;refine⟨sS,λz O=>?_⟩;have s1:=aq (o:=.lst [.str "",.str "waiting"]) O;obtain⟨v,v1,W⟩:=w3 d I;have ev:(!decide (v=V.non))=(S.ds d).ws.isSome:=by{cases J:(S.ds d).ws with| none=>rw[J]at W;have e:v=.non:=W;rw[e];rfl| some w'=>rw[J]at W;obtain⟨a',e,_⟩:=W;rw[e];rfl};refine WM rfl (eZ (s1 _ _ M.bf) lz) rfl (bU.of (s1 _ _ w1)) (iH v1) (.inr ⟨_,rfl,z,_,_,_,rfl,rfl,bU.of aj,aaQ,?_⟩);have:=k' _ s1;rw[<-ev]at this;exact this}}
theorem af3{x:Str}(h:x≠""):(!decide (V.str x=V.str ""))=true:=by rw[du h];rfl
def axR:Sp:=λvs H Q _=>∃A n m S se a x t,vs=[.ref (A .bf),.ref a]/\bj H A n m S se/\H a=some (.tup (bG.vs x))/\ik n m S/\Bd t S se/\t<=1500/\
 ∀v A' H',bj H' A' n m (S.step n m x).1 (se++S.lY n x)->oN H H' A n m->Mv H A A' n m->Rep H' v (S.step n m x).2->Q v H'
theorem ajK{n m:Nat}{S:TS}{x:bG}(h:qW n m S x≠""):S.step n m x=(S,.s (qW n m S x))/\S.lY n x=[]:=by
 unfold qW at h ⊢;by_cases hd:inR x.dk n
 ·rw[if_pos hd]at h ⊢;cases x with
  | up d=>have z:inR d n:=hd;simp only[TS.step,TS.lY,if_pos z,TS.upD]at h ⊢;cases e:S.up d.toNat with| nil=>exact⟨rfl,rfl⟩| cons l r=>rw[e]at h;exact absurd rfl h
  | down d=>have z:inR d n:=hd;simp only[TS.step,TS.lY,if_pos z,TS.Kd]at h ⊢;cases e:S.dn d.toNat with| nil=>exact⟨rfl,trivial⟩| cons l r=>rw[e]at h;exact absurd rfl h
  | rest d p=>have z:inR d n:=hd;simp only[TS.step,TS.lY,if_pos z]at h ⊢;by_cases hp:inR p m;{simp only[if_pos hp]at h ⊢;by_cases e:(S.ds d.toNat).rt p=.no;{simp only[if_pos e,decide_eq_true e,cond_true];exact⟨trivial,trivial⟩};{rw[decide_eq_false e]at h;exact absurd rfl h}};{simp only[if_neg hp];exact⟨trivial,trivial⟩}
  | look d p=>have z:inR d n:=hd;simp only[TS.step,TS.lY,if_pos z]at h ⊢;by_cases hp:inR p m;{simp only[if_pos hp]at h ⊢;cases e:(S.ds d.toNat).ws with| none=>rw[e]at h;exact absurd rfl h| some w=>unfold TS.wish;rw[e];exact⟨rfl,trivial⟩};{simp only[if_neg hp];exact⟨trivial,trivial⟩}
  | put d p y=>have z:inR d n:=hd;simp only[TS.step,TS.lY,if_pos z]at h ⊢;by_cases hp:inR p m;{simp only[if_pos hp]at h ⊢;cases e:(S.ds d.toNat).ws with| none=>rw[e]at h;exact absurd rfl h| some w=>unfold TS.wish;rw[e];exact⟨rfl,trivial⟩};{simp only[if_neg hp];exact⟨trivial,trivial⟩}
 ·rw[if_neg hd]at h ⊢;cases x<;>(simp only[bG.dk]at hd;simp[TS.step,TS.lY,hd])
theorem alR{n m:Nat}{S:TS}{x:bG}(h:qW n m S x=""):inR x.dk n/\(match x with
 | .up d=>S.up d.toNat≠[]
 | .down d=>S.dn d.toNat≠[]
 | .rest d p=>inR p m/\(S.ds d.toNat).rt p≠.no
 | .look d p=>inR p m/\(S.ds d.toNat).ws=none
 | .put d p _=>inR p m/\(S.ds d.toNat).ws=none):=by
 have nd:("no desk":Str)≠"":=∅
 have np:("no page":Str)≠"":=∅
 have nl:("no letter":Str)≠"":=∅
 have nc:("no copy":Str)≠"":=∅
 have nw:("waiting":Str)≠"":=∅
 unfold qW at h
 by_cases hd:inR x.dk n
 ·rw[if_pos hd]at h
  refine⟨hd,?_⟩
  cases x with
  | up d=>intro e;dsimp only at h;rw[e]at h;exact nl h
  | down d=>intro e;dsimp only at h;rw[e]at h;exact nl h
  | rest d p=>
    dsimp only at h ⊢
    by_cases hp:inR p m
    ·rw[if_pos hp]at h
     refine⟨hp,λe=>?_⟩
     rw[decide_eq_true e]at h
     exact nc h
    ·rw[if_neg hp]at h;exact absurd h np
  | look d p=>
    dsimp only at h ⊢
    by_cases hp:inR p m
    ·rw[if_pos hp]at h
     refine⟨hp,?_⟩
     cases e:(S.ds d.toNat).ws with
     | none=>rfl
     | some w=>rw[e]at h;exact absurd h nw
    ·rw[if_neg hp]at h;exact absurd h np
  | put d p y=>
    dsimp only at h ⊢
    by_cases hp:inR p m
    ·rw[if_pos hp]at h
     refine⟨hp,?_⟩
     cases e:(S.ds d.toNat).ws with
     | none=>rfl
     | some w=>rw[e]at h;exact absurd h nw
    ·rw[if_neg hp]at h;exact absurd h np
 ·rw[if_neg hd]at h;exact absurd h nd
theorem Bd.room{t:Nat}{S:TS}{se:List (Nat×Let)}(b:Bd t S se)(z:t<=1500){k:Nat}(hk:k<=6000000):Eb S se k:=by
 have:=avF z;exact⟨λd=>by have:=b.dn d;lia,by have:=b.se;lia⟩
theorem ano{H:Hp}{b:Addr}{l:Let}(h:H b=some (.tup l.vs)):Rep H (.ref b) l.d:=by
 cases l with| lend p x y=>simp only[Let.d,Rep,aG];exact⟨b,_,rfl,h,_,_,rfl,rfl,_,_,rfl,rfl,_,_,rfl,rfl,_,_,rfl,rfl,rfl⟩| back p x=>simp only[Let.d,Rep,aG];exact⟨b,_,rfl,h,_,_,rfl,rfl,_,_,rfl,rfl,_,_,rfl,rfl,rfl⟩
def wd(d:Int):W->bG
 | .look p=>.look d p
 | .put p x=>.put d p x
def aeX(S:DS):W->D
 | .look p=>.i (S.nm p)
 | .put _ _=>.s "done"
theorem axS(w:W):w.vs=.str w.tag::w.vs.tail:=by cases w<;>rfl
theorem aqL(w:W):w.vs.tail≠[]:=by cases w<;>simp[W.vs]
theorem aqM(d:Int)(w:W):S6 (wd d w).vs 2=some (.int w.pg):=by cases w<;>rfl
theorem alS(d:Int)(w:W):S9 (wd d w).vs (some 2) none=w.vs.tail:=by cases w<;>rfl
theorem aqN(d:Int)(w:W):¬(HT.n8 (wd d w).vs.length 0 (some 2)=0/\HT.n8 (wd d w).vs.length (wd d w).vs.length none=(wd d w).vs.length):=by
 cases w with| look p=>intro h;exact absurd (show HT.n8 3 0 (some 2)=0 from h.1) (by decide)| put p x=>intro h;exact absurd (show HT.n8 4 0 (some 2)=0 from h.1) (by decide)
theorem alT(d:Int)(w:W):(wd d w).tag=w.tag:=by cases w<;>rfl
theorem avS(d:Int)(w:W):(wd d w).dk=d:=by cases w<;>rfl
theorem alU(d:Int)(w:W):[V.str w.tag].length+w.vs.tail.length<=sizeLine:=by
 cases w with| look p=>show 2<=16777216;decide| put p x=>show 3<=16777216;decide
theorem aAP(w:W):w.tag≠"up":=by
 cases w with| look p=>show("look":Str)≠"up";decide +kernel| put p x=>show("put":Str)≠"up";decide +kernel
theorem ato(w:W):w.tag≠"down":=by
 cases w with| look p=>show("look":Str)≠"down";decide +kernel| put p x=>show("put":Str)≠"down";decide +kernel
theorem atp(w:W):w.tag≠"rest":=by
 cases w with| look p=>show("look":Str)≠"rest";decide +kernel| put p x=>show("put":Str)≠"rest";decide +kernel
theorem anp{n m:Nat}{S:TS}{d p:Nat}{w:W}(hd:d<n)(hp:p<m)(F:w.pg=(p:Int))(J:(S.ds d).ws=none) :
 S.step n m (wd d w)=(S.jG d ((S.ds d).il w p),if(S.ds d).ok w then aeX (S.ds d) w else .s "waits")/\S.lY n (wd d w)=[]:=by
 have h1:inR (d:Int) n:=⟨by lia,by lia⟩;have h2:inR w.pg m:=by{rw[F];exact⟨by lia,by lia⟩};cases w with| look y=>have I:y=(p:Int):=F;subst I;have z:inR (p:Int) m:=h2;simp only[wd,TS.step,TS.lY,if_pos h1,if_pos z,Int.toNat_natCast,TS.wish,J,aeX];exact⟨trivial,trivial⟩| put y x=>have I:y=(p:Int):=F;subst I;have z:inR (p:Int) m:=h2;simp only[wd,TS.step,TS.lY,if_pos h1,if_pos z,Int.toNat_natCast,TS.wish,J,aeX];exact⟨trivial,trivial⟩
theorem aAQ{n m:Nat}{S:TS}{d:Int}{w:W}(h:qW n m S (wd d w)=""):inR d n/\inR w.pg m/\(S.ds d.toNat).ws=none:=by
 cases w with| look p=>exact alR (x:=.look d p) h| put p x=>exact alR (x:=.put d p x) h
theorem KJ(T:Txt K w mg t):cX P w K mg base mW 4 t.jf t.yL ["_law_town","_law_deed"] axR:=by
 refine T.Cy.ok jT (λvs H Q E h=>?_) (λcl A outer s H vs Q E hr h=>?_);{obtain⟨A,n,m,S,se,a,x,tt,rfl,_⟩:=h;rfl}
 ·obtain⟨A,n,m,S,se,a,x,tt,rfl,M,ha,I,B,ht,k⟩:=h;have hu:=kY hr;have sl:sizeLine=16777216:=by{decide};refine⟨_,(ao (bu (i:=2) jT.nd rfl (Or.inl rfl) (bZ (Xa T) (hr.mono (by decide):bV 1 _) (by rfl) T.aaC T.HS.kp T.aaB .nil bW (aa (pv 0) (aa (pv 1) ak))))
   (ao (bY (aP uQ (pv 2) aC (aY _)) (aA (aZ (pv 2))) bw)
   (ao (bu (i:=3) jT.nd rfl (Or.inl rfl) (aN bC (pv 1) aB (λ_ _=>rfl)))
   (ao (bY (aP cQ (aN bC (pv 1) aB (λ_ _=>rfl)) aC (aY _)) (aA (aZ (bZ (af2 T) (hr.mono (by decide):bV 3 _) (by rfl) T.ajz T.Vy.kp T.ajy .nil bW (aa (pv 0) (aa (pv 3) ak))))) bw)
   (ao (bY (aP cQ (aN bC (pv 1) aB (λ_ _=>rfl)) aC (aY _)) (aA (aZ (bZ (aaP T) (hr.mono (by decide):bV 2 _) (by rfl) T.acT T.Kw.kp T.acS .nil bW (aa (pv 0) (aa (pv 3) ak))))) bw)
   (ao (bu (i:=4) jT.nd rfl (Or.inl rfl) (aN bz (aN bz (bL hu (pv 0) aC (λ_ _=>rfl)) (pv 3) (λ_ _=>rfl)) (aN bC (pv 1) aB (λ_ _=>rfl)) (λ_ _=>rfl)))
   (ao (bY (aP cQ (aN bC (pv 1) aB (λ_ _=>rfl)) aC (aY _)) (ao (bY (aP cQ (pv 4) aC (aY _)) (aA (bN (dZ plainAttrs_list PySem.F.slot_list_append PySem.F.type_list_append cu (aN bz (bL hu (pv 0) aC (λ_ _=>rfl)) (pv 3) (λ_ _=>rfl)) (aa (b7 (aa aC (aa (aN bC (pv 1) aB (λ_ _=>rfl)) (aa (aN bz (aN bz (bL hu (pv 0) aC (λ_ _=>rfl)) (pv 3) (λ_ _=>rfl)) (aN bC (pv 1) aB (λ_ _=>rfl)) (λ_ _=>rfl)) ak)))) ak)))) bw)
   (ao (uP aC (GC (aN bz (bL hu (pv 0) aC (λ_ _=>rfl)) (pv 3) (λ_ _=>rfl)) (aN bC (pv 1) aB (λ_ _=>rfl)) set_list))
   (aA (aZ aC)))) bw)
   (ao (bu (i:=5) jT.nd rfl (Or.inl rfl) (bI amE (b7 (aa (aN bC (pv 1) aB (λ_ _=>rfl)) ak)) (O2 alh (pv 1) (Y8 aB) Y7)))
   (ao (bY (jo (bZ (VG T) (hr.mono (by decide):bV 1 _) (by rfl) T.aaA T.My.kp T.aaz .nil bW (aa (pv 4) (aa (pv 5) ak)))) (ao (bu (i:=6) jT.nd rfl (Or.inl rfl) (bZ (Ib T) (hr.mono (by decide):bV 1 _) (by rfl) T.Kv T.yQ.kp T.Ku .nil bW (aa (pv 0) (aa (pv 3) (aa (pv 5) ak)))))
   (aA (aZ (aN bz (bJ (aa (pv 6) (aa aC ak))) (gC nM (by rfl) T.Qo PyProof.Rows.Boot.«int» (aa (oA cQ (aN bC (pv 1) aB (λ_ _=>rfl)) aC (aY _)) ak)) (λ_ _=>rfl))))) bw)
   (ao (uP (pv 5) (GC (bL hu (pv 0) aC (λ_ _=>rfl)) (pv 3) set_list))
   (ao (bN (dZ plainAttrs_list PySem.F.slot_list_append PySem.F.type_list_append cu (aN bz (bL hu (pv 0) aC (λ_ _=>rfl)) (pv 3) (λ_ _=>rfl)) (aa (b7 (aa aC (aa (aN bC (pv 1) aB (λ_ _=>rfl)) (aa (aN bz (bJ (aa aC (aa aC ak))) (gC nM (by rfl) T.Qo PyProof.Rows.Boot.«int» (aa (oA cQ (aN bC (pv 1) aB (λ_ _=>rfl)) aC (aY _)) ak)) (λ_ _=>rfl)) ak)))) ak)))
   (aA (aZ aC))))))))))))),?_⟩
  try dsimp only[dj,Cx.kE]
  show let Z1:L2.TS:=_;let Z2:L2.TS:=_;let Z3:L2.TS:=cR _ Z2 bM;let Z4:L2.TS:=_;let Z5:L2.TS:=_;let Z6:L2.TS:=cR _ Z5 bM;let Z7:L2.TS:=_;let Z8:L2.TS:=cR _ Z7 bM;let Z9:L2.TS:=_;let z8:L2.TS:=_;let KC:L2.TS:=cR _ z8 bM;let KD:L2.TS:=_;let Qv:L2.TS:=_;let Qw:L2.TS:=aV KC (aV KD (Qv));let aO:L2.TS:=cR _ Qw bM;let aR:L2.TS:=_;let aS:L2.TS:=_;let aT:L2.TS:=_;let aW:L2.TS:=aV aS (aT);let aX:L2.TS:=cR _ aW bM;let a1:L2.TS:=_;let a2:L2.TS:=_;let a3:L2.TS:=_;let D0:Ends:=_;(aV Z1 (aV Z3 (aV Z4 (aV Z6 (aV Z8 (aV Z9 (aV aO (aV aR (aV aX (aV a1 (aV a2 (a3)))))))))))) D0 _ _;intro Z1 Z2 Z3 Z4 Z5 Z6 Z7 Z8 Z9 z8 KC KD Qv Qw aO aR aS aT aW aX a1 a2 a3 D0;refine⟨_,rfl,_,rfl,A,n,m,S,se,a,x,rfl,M,ha,λH1 s1=>?_⟩;have M1:=M.same s1;have f1:oN H H1 A n m:=oN.of_same s1;have L:=s1 _ _ ha;refine⟨_,rfl,rfl,_,rfl,?_⟩;by_cases hw:qW n m S x=""
  ·refine aL (by rw[hw];rfl) ?_;obtain⟨Y,hx⟩:=alR hw;obtain⟨d,hd⟩:∃d:Nat,x.dk=(d:Int):=⟨x.dk.toNat,by unfold inR at Y;lia⟩;have J:d<n:=by{unfold inR at Y;lia};rw[hw];refine zt rfl (cW.of L) (bG.at1 x) ?_;rw[hd];by_cases as:∃Z w,x=wd Z w;{obtain⟨Z,w,rfl⟩:=as;have e:Z=(d:Int):=by{rw[avS]at hd;exact hd};subst e;obtain⟨_,hy,ac⟩:=aAQ hw;simp only[Int.toNat_natCast]at ac;obtain⟨p,hp⟩:∃p:Nat,w.pg=(p:Int):=⟨w.pg.toNat,by unfold inR at hy;lia⟩;have O:p<m:=by{unfold inR at hy;lia};obtain⟨bp,bq⟩:=anp (S:=S) J O hp ac;rw[bp,bq,append_nil]at k;have a0:S6 (wd d w).vs 0=some (.str w.tag):=by{rw[<-alT d w];exact bG.at0 _};have a5:=B.row;have a6:=B.up d;refine zt rfl (cW.of L) a0 ⟨rfl,_,rfl,?_⟩;refine aL (du (aAP w)) ?_;refine zt rfl (cW.of L) a0 ⟨rfl,_,rfl,?_⟩;refine aL (du (ato w)) ?_;refine WM rfl (eZ M1.bf m5) rfl (bU.of M1.rights) (bR J) (zt rfl (cW.of L) (aqM _ _) ⟨A (.rt d),_,p,_,rfl,by rw[hp],bU.of (M1.rt J),bR O,?_⟩);refine zt rfl (cW.of L) a0 ⟨rfl,_,rfl,?_⟩;refine aL (du (atp w)) ?_;refine zt rfl (cW.of L) a0 ⟨zz1,λz1 br=>?_⟩;have s2:=aq (o:=.tup [.str w.tag]) br;have a7:upd H1 z1 (.tup [.str w.tag]) z1=some (.tup [.str w.tag]):=aj;generalize upd H1 z1 (.tup [.str w.tag])=H2 at s2 a7;refine⟨_,rfl,_,rfl,a,_,rfl,cW.of (s2 _ _ L),aqN _ _,λz2 bv=>?_⟩;rw[alS];have s3:=aq (o:=.tup w.vs.tail) bv;have a8:upd H2 z2 (.tup w.vs.tail) z2=some (.tup w.vs.tail):=aj;generalize upd H2 z2 (.tup w.vs.tail)=H3 at s3 a8;refine⟨z1,z2,[.str w.tag],w.vs.tail,rfl,rfl,cW.of (s3 _ _ a7),cW.of a8,by simp,alU d w,λz=>absurd z (aqL w),λ_ z3 bx=>?_⟩;have ew:[V.str w.tag]++w.vs.tail=w.vs:=(axS w).symm;rw[ew];have s4:=aq (o:=.tup w.vs) bx;have ai:upd H3 z3 (.tup w.vs) z3=some (.tup w.vs):=aj;generalize upd H3 z3 (.tup w.vs)=H4 at s4 ai;have sA:=(s2.trans s3).trans s4;have M4:=M1.same sA;have f4:=f1.trans (oN.of_same (A:=A) sA) (Mv.refl _ _ _ _);have ba:=sA _ _ L;refine⟨_,rfl,_,rfl,(S.ds d).rt p,z3,w,rfl,ai,_,rfl,?_⟩;have al:(S.ds d).ok w↔w.need.k<=((S.ds d).rt p).k:=by{unfold DS.ok;rw[hp]};by_cases hok:w.need.k<=((S.ds d).rt p).k;{refine bH (decide_eq_true hok) ?_;rw[if_pos (al.mpr hok)]at k;refine⟨_,rfl,_,rfl,_,rfl,A,n,m,S,se,z3,w,d,p,rfl,M4,J,ai,hp,O,(by lia),λH5 M5 f5=>?_⟩;have ad:=(f5.tups M4) a _ ba;refine⟨_,rfl,sS,λz4 av=>?_⟩;have s6:=aq (o:=.lst [.int ((S.ds d).num w),.str "done"]) av;have aw:(S.ds d).il w p=((S.ds d).done w,[(w.mC,w.pg,(S.ds d).num w)],[]):=by{unfold DS.il;rw[if_pos (al.mpr hok)]};have M6:bj (upd H5 z4 (.lst [.int ((S.ds d).num w),.str "done"])) A n m (S.jG d ((S.ds d).il w p)) se:=by{have:=M5.same s6;rw[aw];have e:S.jG d ((S.ds d).done w,[(w.mC,w.pg,(S.ds d).num w)],[])={S with ds:=aM S.ds d ((S.ds d).done w),row:=cZ S.row d [(w.mC,w.pg,(S.ds d).num w)]}:=by{simp only[TS.jG,append_nil,eF]};rw[e];exact this};have f6:=(f4.trans f5 (Mv.refl _ _ _ _)).trans (oN.of_same (A:=A) s6) (Mv.refl _ _ _ _);refine zt rfl (cW.of (s6 _ _ ad)) a0 ⟨rfl,.inr ⟨_,rfl,z4,_,_,_,rfl,rfl,bU.of aj,aAB,?_⟩⟩;refine k _ A _ M6 f6 (Mv.refl _ _ _ _) ?_;cases w with| look y=>have cs:y=(p:Int):=hp;have e:decide (V.str (W.look y).tag=V.str "put")=false:=du (show("look":Str)≠"put" by decide +kernel);rw[e];simp only[aeX,Rep];rfl| put y q=>have e:decide (V.str (W.put y q).tag=V.str "put")=true:=fQ;rw[e];simp only[aeX,Rep];rfl};{refine aL (decide_eq_false hok) ?_;rw[if_neg λz=>hok (al.mp z)]at k;have aw:(S.ds d).il w p=({S.ds d with ws:=some w},[],[.ask p w.need]):=by{unfold DS.il;rw[if_neg λz=>hok (al.mp z)]};obtain⟨wv,w1,w2,_⟩:=M4.dN;refine⟨_,rfl,zd rfl (eZ M4.bf lz) ⟨_,rfl,A .dN,_,_,d,rfl,rfl,w1,by rw[w2];exact xQ J,?_⟩⟩;obtain⟨M5,f5⟩:=M4.aqe J (v:=.ref z3) (o:=some w) w1 ⟨z3,rfl,ai⟩;have ad:=(f5.tups M4) a _ ba;have bd:=f4.trans f5 (Mv.refl _ _ _ _);generalize upd H4 (A .dN) (.lst (wv.set d (.ref z3)))=H5 at M5 f5 ad bd;obtain⟨uv,u1,u2⟩:=M5.up J;have ay:uv.length<sizeLine:=by{rw[u2.length,length_map];show(S.up d).length<_;lia};refine WM rfl (eZ M5.bf JQ) rfl (bU.of M5.ups) (bR J) ⟨.inl ⟨rfl,_,bU.of u1⟩,zt rfl (cW.of ad) (aqM _ _) ⟨sS,λz4 av=>?_⟩⟩;have s6:=aq (o:=.lst [.str "read",.str "write"]) av;refine zt rfl (cW.of (s6 _ _ ad)) a0 ⟨rfl,.inr ⟨_,rfl,z4,_,_,.str w.need.s,rfl,rfl,bU.of aj,?_,Zh,λc hc=>?_⟩⟩;{cases w with| look y=>have e:decide (V.str (W.look y).tag=V.str "put")=false:=du (show("look":Str)≠"put" by decide +kernel);rw[e];rfl| put y q=>have e:decide (V.str (W.put y q).tag=V.str "put")=true:=fQ;rw[e];rfl};{have s7:=aq (o:=.tup [.str "ask",.int w.pg,.str w.need.s]) hc;rw[hp]at s7 ⊢;have sB:=s6.trans s7;refine⟨A (.up d),uv,_,rfl,rfl,sB _ _ u1,ay,?_⟩;have rp:aG (upd (upd H5 z4 (.lst [.str "read",.str "write"])) c (.tup [.str "ask",.int p,.str w.need.s])) (uv++[.ref c]) ((S.up d++[UL.ask p w.need]).map UL.d):=by{rw[map_append];exact aG.snoc (u2.aU (aQ sB) (bc UL.flat _)) (aaO (l:=.ask p w.need) aj)};obtain⟨M7,f7⟩:=(M5.same sB).aiV J rp;refine k (.str "waits") A _ ?_ ((bd.trans (oN.of_same (A:=A) sB) (Mv.refl _ _ _ _)).trans f7 (Mv.refl _ _ _ _)) (Mv.refl _ _ _ _) (by simp only[Rep]);have e:S.jG d ((S.ds d).il w p)={S with ds:=aM S.ds d {S.ds d with ws:=some w},up:=aM S.up d (S.up d++[UL.ask p w.need])}:=by{rw[aw];simp[TS.jG,cZ]};rw[e];exact M7}}};cases x with
   | up Z=>have e:Z=(d:Int):=hd;subst e;have ae:inR (d:Int) n:=Y;simp only[TS.step,TS.lY,if_pos ae,Int.toNat_natCast,TS.upD]at k hx;obtain⟨l,r,az⟩:=exists_cons_of_ne_nil hx;rw[az]at k;obtain⟨I',af,bE,_⟩:=I.take J az;have cz:=B.mu l.pg;refine zt rfl (cW.of L) rfl ⟨rfl,_,rfl,?_⟩;refine bH fQ ?_;refine⟨_,rfl,_,rfl,A,n,m,S,se,d,l,r,rfl,M1,J,az,af,I.pn _ af,I.am _ af,bE,(by lia),B.room ht (by lia),λb A' H' M' f' bO aD=>?_⟩;exact k (.ref b) A' H' M' (f1.trans f' (Mv.refl _ _ _ _)) (λy hy=>(bO y hy).imp id λe=>⟨e.1,f1.lv _ e.2⟩) (aaO aD)
   | down Z=>have e:Z=(d:Int):=hd;subst e;have ae:inR (d:Int) n:=Y;simp only[TS.step,TS.lY,if_pos ae,Int.toNat_natCast,TS.Kd]at k hx;obtain⟨l,r,ag⟩:=exists_cons_of_ne_nil hx;rw[ag]at k;obtain⟨p,hp,af,bP⟩:=I.dn d J l (by rw[ag];simp);refine zt rfl (cW.of L) rfl ⟨rfl,_,rfl,?_⟩;refine aL (du (show("down":Str)≠"up" by decide +kernel)) ?_;refine zt rfl (cW.of L) rfl ⟨rfl,_,rfl,?_⟩;refine bH fQ ?_;have a5:=B.row;have a6:=B.up d;refine⟨_,rfl,_,rfl,A,n,m,S,se,l,r,d,p,rfl,M1,J,ag,af,hp,bP,I.ws d J,(by lia),(by lia),λb H' M' f' aD=>?_⟩;exact k (.ref b) A H' (by rw[append_nil];exact M') (f1.trans f' (Mv.refl _ _ _ _)) (Mv.refl _ _ _ _) (ano aD)
   | rest Z y=>
     have e:Z=(d:Int):=hd;subst e;have ae:inR (d:Int) n:=Y;obtain⟨hy,ac⟩:=hx;obtain⟨p,hp⟩:∃p:Nat,y=(p:Int):=⟨y.toNat,by unfold inR at hy;lia⟩;subst hp;have O:p<m:=by{unfold inR at hy;lia};simp only[TS.step,TS.lY,if_pos ae,if_pos hy,Int.toNat_natCast]at k ac;rw[if_neg ac]at k;refine zt rfl (cW.of L) rfl ⟨rfl,_,rfl,?_⟩;refine aL (du (show("rest":Str)≠"up" by decide +kernel)) ?_;refine zt rfl (cW.of L) rfl ⟨rfl,_,rfl,?_⟩;refine aL (du (show("rest":Str)≠"down" by decide +kernel)) ?_;refine WM rfl (eZ M1.bf m5) rfl (bU.of M1.rights) (bR J) (zt rfl (cW.of L) rfl ⟨A (.rt d),_,p,_,rfl,rfl,bU.of (M1.rt J),bR O,?_⟩);refine zt rfl (cW.of L) rfl ⟨rfl,_,rfl,?_⟩;refine bH fQ ?_;have a6:=B.up d;try dsimp only[bM]
     refine gF (λck H'=>ck=[some (.ref (A .bf)),some (.ref a),some (.str ""),some (.int d),some (.str ((S.ds d).rt p).s),none,none]/\bj H' A n m {S with up:=aM S.up d (S.up d++(if(S.ds d).rt p=.wr then [UL.gave p ((S.ds d).nm p)]else []))} se/\oN H H' A n m/\H' a=some (.tup (bG.rest d p).vs)) (λN hN=>?_) ?_;{refine⟨_,rfl,rfl,_,rfl,?_⟩;by_cases ew:(S.ds d).rt p=.wr;{refine bH (by rw[ew];exact fQ) ?_;rw[if_pos ew]at hN;obtain⟨uv,u1,u2⟩:=M1.up J;have ay:uv.length<sizeLine:=by{rw[u2.length,length_map];lia};refine WM rfl (eZ M1.bf JQ) rfl (bU.of M1.ups) (bR J) ⟨.inl ⟨rfl,_,bU.of u1⟩,zt rfl (cW.of L) rfl (WM rfl (eZ M1.bf uV) rfl (bU.of M1.copies) (bR J) (zt rfl (cW.of L) rfl ⟨A (.cp d),_,p,_,rfl,rfl,bU.of (M1.cp J),bR O,Zh,λc hc=>?_⟩))⟩;have s3:=aq (o:=.tup [.str "gave",.int p,.int ((S.ds d).nm p)]) hc;refine⟨A (.up d),uv,_,rfl,rfl,s3 _ _ u1,ay,?_⟩;have rp:aG (upd H1 c (.tup [.str "gave",.int p,.int ((S.ds d).nm p)])) (uv++[.ref c]) ((S.up d++[UL.gave p ((S.ds d).nm p)]).map UL.d):=by{rw[map_append];exact aG.snoc (u2.aU (aQ s3) (bc UL.flat _)) (aaO (l:=.gave p ((S.ds d).nm p)) aj)};obtain⟨M4,f4⟩:=(M1.same s3).aiV J rp;exact hN _ _ ⟨rfl,M4,(f1.trans (oN.of_same (A:=A) s3) (Mv.refl _ _ _ _)).trans f4 (Mv.refl _ _ _ _),(f4.tups (M1.same s3)) a _ (s3 _ _ L)⟩};{refine aL (p7 (x:="write") (q:=.wr) rfl ew) ?_;rw[if_neg ew]at hN;refine hN _ _ ⟨rfl,?_,f1,L⟩;have:({S with up:=aM S.up d (S.up d++[])}:TS)=S:=by{rw[append_nil,eF]};rw[this];exact M1}};{rintro ck H2 ⟨rfl,M2,f2,bQ⟩;refine WM rfl (eZ M2.bf m5) rfl (bU.of M2.rights) (bR J) (zt rfl (cW.of bQ) rfl ⟨A (.rt d),_,_,p,rfl,rfl,M2.rt J,xQ (by simpa using O),?_⟩);have e1:((range m).map λq:Nat=>V.str ((S.ds d).rt q).s).set p (.str "none")=(range m).map λq:Nat=>V.str (((S.ds d).hold p .no ((S.ds d).nm p)).rt q).s:=by{refine z9 O ?_ λq hq=>?_;{show V.str (if(p:Int)=p then Rt.no else _).s=_;rw[if_pos rfl];rfl};{show V.str (if(q:Int)=p then Rt.no else _).s=_;rw[if_neg (by lia)]}};dsimp only;rw[e1];have bS:((S.ds d).hold p .no ((S.ds d).nm p)).nm=(S.ds d).nm:=by{funext q;show(if q=(p:Int)then(S.ds d).nm p else(S.ds d).nm q)=_;split<;>simp_all};obtain⟨M3,f3⟩:=M2.axe J (D':=(S.ds d).hold p .no ((S.ds d).nm p)) bS rfl;refine k (.str "done") A _ ?_ (f2.trans f3 (Mv.refl _ _ _ _)) (Mv.refl _ _ _ _) (by simp only[Rep]);rw[append_nil];have:S.lu d p={S with ds:=aM S.ds d ((S.ds d).hold p .no ((S.ds d).nm p)),up:=aM S.up d (S.up d++(if(S.ds d).rt p=.wr then [UL.gave p ((S.ds d).nm p)]else []))}:=by{simp[TS.lu,TS.jG,cZ]};rw[this];exact M3}
   | look Z y=>exact absurd ⟨_,.look _,rfl⟩ as
   | put Z y q=>exact absurd ⟨_,.put _ _,rfl⟩ as
  ·refine bH (af3 hw) ?_;obtain⟨e1,e2⟩:=ajK hw;refine⟨_,rfl,k _ A H1 ?_ f1 (Mv.refl _ _ _ _) ?_⟩;{rw[e1,e2,append_nil];exact M1};{rw[e1];simp only[Rep]}
def atr:Sp:=λvs H Q _=>∃k,vs=[.int k]/\Q (.bl true) H
def axU:Sp:=λvs H Q _=>∃v u d,vs=[v,u]/\Rep H v d/\Rep H u d/\d.size<=1000000/\∀H',bK H H'->Q (.bl true) H'
theorem aaR(T:Txt K w mg t):cX P w K mg base mW 1 t.nU t.Ms ["_law_found"] atr:=by
 refine T.TX.ok alI (λvs H Q E h=>?_) (λz A outer s H vs Q E F h=>?_);{obtain⟨k,rfl,_⟩:=h;rfl}
 ·obtain⟨k,rfl,q⟩:=h;refine⟨_,(aA (aZ (aps (cG iK (by rfl) T.dH PyProof.Rows.Boot.«isinstance» (aa (pv 0) (aa (mX (by rfl) T.Qo PyProof.Rows.Boot.«int») ak))) (ak6 (awj (cG iK (by rfl) T.dH PyProof.Rows.Boot.«isinstance» (aa (pv 0) (aa (mX (by rfl) T.axB PyProof.Rows.Boot.«bool») ak)))))))),?_⟩;try dsimp only[dj,Cx.kE]
  refine⟨_,rfl,_,_,.type "int",true,rfl,.int _,.inl ⟨_,rfl,awO⟩,_,rfl,p6 ?_⟩;exact⟨_,rfl,_,_,.type "int",false,rfl,.int _,.inl ⟨_,rfl,awP⟩,_,rfl,q⟩
theorem aou{H:Hp}{v:V}:∀{d:D},Rep H v d->(d=.n/\v=.non)\/(∃k,d=.i k/\v=.int k)\/(∃x,d=.s x/\v=.str x)\/(∃ds a xs,d=.t ds/\v=.ref a/\H a=some (.tup xs)/\aG H xs ds)\/(∃ds a xs,d=.l ds/\v=.ref a/\H a=some (.lst xs)/\aG H xs ds)
 | .n,r=>by simp only[Rep]at r;exact .inl ⟨rfl,r⟩
 | .i k,r=>by simp only[Rep]at r;exact .inr (.inl ⟨k,rfl,r⟩)
 | .s x,r=>by simp only[Rep]at r;exact .inr (.inr (.inl ⟨x,rfl,r⟩))
 | .t ds,r=>by simp only[Rep]at r;obtain⟨a,xs,h1,h2,z⟩:=r;exact .inr (.inr (.inr (.inl ⟨ds,a,xs,rfl,h1,h2,z⟩)))
 | .l ds,r=>by simp only[Rep]at r;obtain⟨a,xs,h1,h2,z⟩:=r;exact .inr (.inr (.inr (.inr ⟨ds,a,xs,rfl,h1,h2,z⟩)))
theorem ajN{α:Type}(xs:List α)(x:α):(xs++[x])[(xs++[x]).length - 1]? = some x:=by simp
theorem ajO{α:Type}(xs:List α)(x:α):(xs++[x]).dropLast=xs:=by simp
set_option maxHeartbeats 8000000 in
theorem aeY(T:Txt K w mg t):cX P w K mg base mW 2 t.rN t.Tr ["_law_found","_law_due"] axU:=by
 refine T.aay.ok zG (λvs H Q E h=>?_) (λbQ A outer s H vs Q E hr h=>?_);{obtain⟨v,u,d,rfl,_⟩:=h;rfl}
 ·obtain⟨v,u,d,rfl,rv,ru,bT,k⟩:=h;refine⟨_,(ao (bu (i:=2) zG.nd rfl (Or.inl rfl) (bJ (aa (pv 0) ak)))
   (ao (bu (i:=3) zG.nd rfl (Or.inl rfl) (bJ (aa (pv 1) ak)))
   (ao (Ov PassesOwn.never (aP (Pa hr.Zv) (pv 3) (bJ ak) (aY _)) (ao (bu (i:=4) zG.nd rfl (Or.inl rfl) (apG plainAttrs_list slot_list_pop type_list_pop apI (pv 2)))
   (ao (bu (i:=5) zG.nd rfl (Or.inl rfl) (apG plainAttrs_list slot_list_pop type_list_pop apI (pv 3)))
   (aA (bY (jo (cG iK (by rfl) T.dH PyProof.Rows.Boot.«isinstance» (aa (pv 5) (aa (b7 (aa (mX (by rfl) T.yR PyProof.Rows.Boot.«list») (aa (mX (by rfl) T.Qp PyProof.Rows.Boot.«tuple») ak))) ak)))) (ao (bY (aP uQ (cG iK (by rfl) T.dH PyProof.Rows.Boot.«isinstance» (aa (pv 4) (aa (mX (by rfl) T.yR PyProof.Rows.Boot.«list») ak))) (cG iK (by rfl) T.dH PyProof.Rows.Boot.«isinstance» (aa (pv 5) (aa (mX (by rfl) T.yR PyProof.Rows.Boot.«list») ak))) (aY _)) (aA (aZ tU)) bw)
   (ao (bY (PW.pt (nJ (aP uQ (cG iK (by rfl) T.dH PyProof.Rows.Boot.«isinstance» (aa (pv 4) (aa (mX (by rfl) T.Qp PyProof.Rows.Boot.«tuple») ak))) (cG iK (by rfl) T.dH PyProof.Rows.Boot.«isinstance» (aa (pv 5) (aa (mX (by rfl) T.Qp PyProof.Rows.Boot.«tuple») ak))) (aY _)) (lZ (aP uQ (cG cJ (by rfl) T.pL PySem.boot_len (aa (pv 4) ak)) (cG cJ (by rfl) T.pL PySem.boot_len (aa (pv 5) ak)) (aY _))))) (aA (aZ tU)) bw)
   (ao (bN (dZ plainAttrs_list PySem.F.slot_list_extend PySem.F.type_list_extend mY (pv 2) (aa (pv 4) ak)))
   (aA (bN (dZ plainAttrs_list PySem.F.slot_list_extend PySem.F.type_list_extend mY (pv 3) (aa (pv 5) ak))))))) (aA (bY (yo (ak5 (pv 5))) (aA (bY (yo (wH (pv 4))) (aA (aZ tU)) bw)) (aA (bY (jo (cG iK (by rfl) T.dH PyProof.Rows.Boot.«isinstance» (aa (pv 5) (aa (mX (by rfl) T.anj PyProof.Rows.Boot.«str») ak)))) (aA (bY (PW.pt (nJ (oh (jo (cG iK (by rfl) T.dH PyProof.Rows.Boot.«isinstance» (aa (pv 4) (aa (mX (by rfl) T.anj PyProof.Rows.Boot.«str») ak))))) (lZ (aP uQ (pv 4) (pv 5) (aY _))))) (aA (aZ tU)) bw)) (aA (bY (PW.pt (nJ (oh (jo (bZ (aaR T) (hr.mono (by decide):bV 1 _) (by rfl) T.aeP T.TX.kp T.aeO .nil bW (aa (pv 4) ak)))) (lZ (aP uQ (pv 4) (pv 5) (aY _))))) (aA (aZ tU)) bw)))))))))))
   (aA (aZ tU))))),?_⟩
  try dsimp only[dj,Cx.kE]
  show let Z1:L2.TS:=_;let Z2:L2.TS:=_;let Z3:L2.TS:=_;let Z4:L2.TS:=_;let Z5:L2.TS:=_;let Z6:L2.TS:=cR _ Z5 bM;let Z7:L2.TS:=_;let Z8:L2.TS:=cR _ Z7 bM;let Z9:L2.TS:=_;let z8:L2.TS:=_;let KC:L2.TS:=aV Z6 (aV Z8 (aV Z9 (z8)));let KD:L2.TS:=_;let Qv:L2.TS:=cR _ KD bM;let Qw:L2.TS:=_;let aN:L2.TS:=cR _ Qw bM;let aO:L2.TS:=_;let aQ:L2.TS:=cR _ aO bM;let aR:L2.TS:=cR _ aN aQ;let aS:L2.TS:=cR _ Qv aR;let aT:L2.TS:=cR _ KC aS;let aU:L2.TS:=aV Z3 (aV Z4 (aT));let aW:L2.TS:=Zk _ aU;let aX:L2.TS:=_;let D0:Ends:=_;(aV Z1 (aV Z2 (aV aW (aX)))) D0 _ _;intro Z1 Z2 Z3 Z4 Z5 Z6 Z7 Z8 Z9 z8 KC KD Qv Qw aN aO aQ aR aS aT aU aW aX D0;refine⟨_,rfl,zz1,λL hL=>⟨_,rfl,zz1,λR hR=>?_⟩⟩;have ac:L≠R:=λe=>by{subst e;rw[aj]at hR;cases hR};have a4:H R=none:=by{rw[az ac.symm]at hR;exact hR};refine⟨λm σ H2=>∃ds xs ys o1 o2,σ=[some v,some u,some (.ref L),some (.ref R),o1,o2]/\bK H H2/\H2 L=some (.lst xs)/\H2 R=some (.lst ys)/\aG H xs ds/\aG H ys ds/\m=D.sizes ds/\D.sizes ds<=1000000,
   ⟨_,[d],[v],[u],none,none,rfl,(aq hL).trans (aq hR),(by rw[az ac,aj]),aj,by simp only[aG];exact⟨v,[],rfl,rv,rfl⟩,by simp only[aG];exact⟨u,[],rfl,ru,rfl⟩,rfl,by simp only[D.sizes];lia⟩,?_⟩
  rintro m σ H2 ⟨ds,xs,ys,o1,o2,rfl,s2,gL,gR,rx,ry,rfl,hb⟩;refine⟨_,rfl,wF,λe he=>⟨R,e,ys,rfl,rfl,bU.of (aq he _ _ gR),bU.of aj,_,rfl,?_⟩⟩;have s3:bK H (upd H2 e (.lst [])):=s2.trans (aq he);have aB:upd H2 e (.lst []) L=some (.lst xs):=aq he _ _ gL;have a5:upd H2 e (.lst []) R=some (.lst ys):=aq he _ _ gR;generalize upd H2 e (.lst [])=H3 at s3 aB a5;clear gL gR s2 he;rcases eq_nil_or_concat ds with rfl | ⟨ds0,dd,rfl⟩;{simp only[aG]at ry;subst ry;refine aL rfl ?_;exact k H3 s3};{rw[concat_eq_append]at rx ry hb ⊢;obtain⟨I,x,rfl,an,bc⟩:=aG.last rx;obtain⟨J,y,rfl,ap,W⟩:=aG.last ry;refine bH (by simp) ?_;refine⟨λbP H'=>∃m',m'<D.sizes (ds0++[dd])/\∃ds xs ys o1 o2,bP=[some v,some u,some (.ref L),some (.ref R),o1,o2]/\bK H H'/\H' L=some (.lst xs)/\H' R=some (.lst ys)/\aG H xs ds/\aG H ys ds/\m'=D.sizes ds/\D.sizes ds<=1000000,λbP H' z=>z,?_⟩;refine⟨_,rfl,.inl ⟨rfl,_,bU.of aB⟩,L,_,x,rfl,rfl,aB,ajN _ _,?_⟩;rw[ajO];have a6:upd H3 L (.lst I) R=some (.lst (J++[y])):=by{rw[az ac.symm];exact a5};refine⟨_,rfl,.inl ⟨rfl,_,bU.of a6⟩,R,_,y,rfl,rfl,a6,ajN _ _,?_⟩;rw[ajO];have s5:bK H (upd (upd H3 L (.lst I)) R (.lst J)):=λb o ad=>by{rw[az (aF ad a4),az (aF ad hL)];exact s3 b o ad};have ar:upd (upd H3 L (.lst I)) R (.lst J) L=some (.lst I):=by{rw[az ac,aj]};have as:upd (upd H3 L (.lst I)) R (.lst J) R=some (.lst J):=aj;generalize upd (upd H3 L (.lst I)) R (.lst J)=H5 at s5 ar as;have b0:D.sizes (ds0++[dd])=D.sizes ds0+dd.size:=by{rw[D.oF];simp[D.sizes]};have go:∀(H6:Hp),bK H5 H6->∃m',m'<D.sizes (ds0++[dd])/\∃ds xs ys o1 o2,[some v,some u,some (.ref L),some (.ref R),some x,some y]=[some v,some u,some (.ref L),some (.ref R),o1,o2]/\bK H H6/\H6 L=some (.lst xs)/\H6 R=some (.lst ys)/\aG H xs ds/\aG H ys ds/\m'=D.sizes ds/\D.sizes ds<=1000000:=λH6 s6=>by{have:=dd.size_pos;exact⟨_,by lia,ds0,I,J,_,_,rfl,s5.trans s6,s6 _ _ ar,s6 _ _ as,an,ap,rfl,by lia⟩};refine⟨_,rfl,sS,λtt ht=>?_⟩;have s6:bK H5 (upd H5 tt (.tup [.ty "list",.ty "tuple"])):=aq ht;have h6:upd H5 tt (.tup [.ty "list",.ty "tuple"]) tt=some (.tup [.ty "list",.ty "tuple"]):=aj;generalize upd H5 tt (.tup [.ty "list",.ty "tuple"])=H6 at s6 h6;have ag:=s5.trans s6;have ay:∀(es:List D) (zs ws:List V),aG H zs es->aG H ws es->dd.size=1+D.sizes es->∀H7,bK H6 H7->∃m',m'<D.sizes (ds0++[dd])/\∃ds xs ys o1 o2,[some v,some u,some (.ref L),some (.ref R),some x,some y]=[some v,some u,some (.ref L),some (.ref R),o1,o2]/\bK H (upd (upd H7 L (.lst (I++zs))) R (.lst (J++ws)))/\(upd (upd H7 L (.lst (I++zs))) R (.lst (J++ws))) L=some (.lst xs)/\(upd (upd H7 L (.lst (I++zs))) R (.lst (J++ws))) R=some (.lst ys)/\aG H xs ds/\aG H ys ds/\m'=D.sizes ds/\D.sizes ds<=1000000:=λes zs ws rz Y9 he H7 s7=>by{refine⟨_,?_,ds0++es,I++zs,J++ws,_,_,rfl,λb o ad=>?_,by rw[az ac,aj],aj,an.append rz,ap.append Y9,rfl,?_⟩;{rw[D.oF];lia};{rw[az (aF ad a4),az (aF ad hL)];exact s7 b o (ag b o ad)};{rw[D.oF];lia}};rcases aou bc with ⟨rfl,rfl⟩ | ⟨k1,rfl,rfl⟩ | ⟨x1,rfl,rfl⟩ | ⟨es,a,zs,rfl,rfl,ha,rz⟩ | ⟨es,a,zs,rfl,rfl,ha,rz⟩;{simp only[Rep]at W;subst W;refine⟨_,_,_,false,rfl,.non,.inr ⟨tt,_,[.type "list",.type "tuple"],rfl,h6,rfl,awT⟩,_,rfl,wD ?_⟩;refine⟨_,rfl,_,rfl,bH rfl ?_⟩;refine⟨_,rfl,_,rfl,aL rfl ?_⟩;exact go H6 s6};{simp only[Rep]at W;subst W;refine⟨_,_,_,false,rfl,.int _,.inr ⟨tt,_,[.type "list",.type "tuple"],rfl,h6,rfl,awR⟩,_,rfl,wD ?_⟩;refine⟨_,rfl,_,rfl,aL rfl ?_⟩;refine⟨_,rfl,_,_,_,false,rfl,.int _,.inl ⟨_,rfl,kit_is⟩,_,rfl,wD ?_⟩;refine⟨_,rfl,k1,rfl,_,rfl,wD ?_⟩;refine⟨_,rfl,_,rfl,rfl,_,rfl,aL (by simp) ?_⟩;exact go H6 s6};{simp only[Rep]at W;subst W;refine⟨_,_,_,false,rfl,.str _,.inr ⟨tt,_,[.type "list",.type "tuple"],rfl,h6,rfl,awS⟩,_,rfl,wD ?_⟩;refine⟨_,rfl,_,rfl,aL rfl ?_⟩;refine⟨_,rfl,_,_,_,true,rfl,.str _,.inl ⟨_,rfl,afr⟩,_,rfl,p6 ?_⟩;refine⟨_,rfl,_,_,_,true,rfl,.str _,.inl ⟨_,rfl,afr⟩,_,rfl,wD ?_⟩;refine⟨_,rfl,_,rfl,rfl,_,rfl,aL (by simp) ?_⟩;exact go H6 s6};{simp only[Rep]at W;obtain⟨a2,Y,rfl,ah,ai⟩:=W;have Z:=ag _ _ ha;have O:=ag _ _ ah;have aE:=rz.length;have aH:=ai.length;refine⟨_,_,_,true,rfl,.tup O,.inr ⟨tt,_,[.type "list",.type "tuple"],rfl,h6,rfl,kit_at⟩,_,rfl,p6 ?_⟩;refine⟨_,rfl,_,_,_,false,rfl,.tup Z,.inl ⟨_,rfl,ap0⟩,_,rfl,_,_,_,false,rfl,.tup O,.inl ⟨_,rfl,ap0⟩,rfl,_,rfl,aL rfl ?_⟩;refine⟨_,rfl,_,_,_,true,rfl,.tup Z,.inl ⟨_,rfl,afs⟩,_,rfl,_,_,_,true,rfl,.tup O,.inl ⟨_,rfl,afs⟩,rfl,_,rfl,aL rfl ?_⟩;refine⟨_,rfl,a,zs,rfl,.inr (cW.of Z),_,rfl,a2,Y,rfl,.inr (cW.of O),rfl,_,rfl,aL (by rw[aE,aH];simp) ?_⟩;have b1:I.length+zs.length<=sizeLine:=by{have q1:=an.length;have q2:=D.eE ds0;have q3:=D.eE es;have q4:(D.t es).size=1+D.sizes es:=by{simp[D.size]};have:(1000000:Nat)<=sizeLine:=by{decide};lia};have b2:J.length+Y.length<=sizeLine:=by{have q1:=ap.length;have q2:=D.eE ds0;have q3:=D.eE es;have q4:(D.t es).size=1+D.sizes es:=by{simp[D.size]};have:(1000000:Nat)<=sizeLine:=by{decide};lia};have aI:a2≠L:=aF ah hL;have al:=s6 _ _ ar;have am:upd H6 L (.lst (I++zs)) R=some (.lst J):=by{rw[az ac.symm];exact s6 _ _ as};refine⟨_,rfl,.inl ⟨rfl,_,bU.of al⟩,_,rfl,L,a,I,zs,rfl,rfl,al,(.inr (cW.of Z)),b1,?_⟩;refine⟨_,rfl,.inl ⟨rfl,_,bU.of am⟩,_,rfl,R,a2,J,Y,rfl,rfl,am,(.inr (cW.of (by rw[az aI];exact O))),b2,?_⟩;exact ay es zs Y rz ai (by simp[D.size]) H6 (bK.refl _)};{simp only[Rep]at W;obtain⟨a2,Y,rfl,ah,ai⟩:=W;have Z:=ag _ _ ha;have O:=ag _ _ ah;have aE:=rz.length;have aH:=ai.length;refine⟨_,_,_,true,rfl,.lst O,.inr ⟨tt,_,[.type "list",.type "tuple"],rfl,h6,rfl,awQ⟩,_,rfl,p6 ?_⟩;refine⟨_,rfl,_,_,_,true,rfl,.lst Z,.inl ⟨_,rfl,alu⟩,_,rfl,_,_,_,true,rfl,.lst O,.inl ⟨_,rfl,alu⟩,rfl,_,rfl,aL rfl ?_⟩;refine⟨_,rfl,_,_,_,false,rfl,.lst Z,.inl ⟨_,rfl,ap1⟩,_,rfl,_,_,_,false,rfl,.lst O,.inl ⟨_,rfl,ap1⟩,rfl,_,rfl,aL rfl ?_⟩;refine⟨_,rfl,a,zs,rfl,.inl (bU.of Z),_,rfl,a2,Y,rfl,.inl (bU.of O),rfl,_,rfl,aL (by rw[aE,aH];simp) ?_⟩;have b1:I.length+zs.length<=sizeLine:=by{have q1:=an.length;have q2:=D.eE ds0;have q3:=D.eE es;have q4:(D.l es).size=1+D.sizes es:=by{simp[D.size]};have:(1000000:Nat)<=sizeLine:=by{decide};lia};have b2:J.length+Y.length<=sizeLine:=by{have q1:=ap.length;have q2:=D.eE ds0;have q3:=D.eE es;have q4:(D.l es).size=1+D.sizes es:=by{simp[D.size]};have:(1000000:Nat)<=sizeLine:=by{decide};lia};have aI:a2≠L:=aF ah hL;have al:=s6 _ _ ar;have am:upd H6 L (.lst (I++zs)) R=some (.lst J):=by{rw[az ac.symm];exact s6 _ _ as};refine⟨_,rfl,.inl ⟨rfl,_,bU.of al⟩,_,rfl,L,a,I,zs,rfl,rfl,al,(.inl (bU.of Z)),b1,?_⟩;refine⟨_,rfl,.inl ⟨rfl,_,bU.of am⟩,_,rfl,R,a2,J,Y,rfl,rfl,am,(.inl (bU.of (by rw[az aI];exact O))),b2,?_⟩;exact ay es zs Y rz ai (by simp[D.size]) H6 (bK.refl _)}}
def nm0(ns:List Int)(i:Int):Int:=(ns[i.toNat]?).getD 0
def S0(ns:List Int):TS:=⟨λ_=>⟨λ_=>.no,nm0 ns,none⟩,pg0 ns,λ_=>[],λ_=>[],[]⟩
theorem anq(ns:List Int):ns.map V.int=(range ns.length).map λp:Nat=>V.int (nm0 ns p):=by
 refine ext_getElem? λi=>?_;rw[getElem?_map,getElem?_map];by_cases h:i<ns.length;{rw[getElem?_range h,getElem?_eq_getElem h];simp[nm0,h]};{rw[getElem?_eq_none (by lia),getElem?_eq_none (by simpa using h)];rfl}
theorem aov(n:Nat)(v:V):replicate n v=(range n).map λ_=>v:=by
 rw[map_const',length_range]
theorem Aa{n:Nat}{acc:Addr}{te:TE}{σ:St}{H1:Hp}{Q:VK}{c:List V}(O:St->Prop)(h0:O σ)(J:H1 acc=none)(hn:n<=1000)
 (hg:∀i z,O z->O (z.set 0 (some (.int i))))
 (aa:∀z H' (R:VK),O z->bK H1 H'->(∀l F,H' l=none->bK H' F->F l=some (.lst c)->R (.ref l) F)->te z H' R)
 (hd:∀(f:Nat->Addr) H',bK H1 H'->H' acc=some (.lst ((range n).map λd=>V.ref (f d)))->(∀d,d<n->H1 (f d)=none/\f d≠acc/\H' (f d)=some (.lst c))->(∀d e,d<n->e<n->f d=f e->d=e)->Q (.ref acc) H') :
 GQ (Itr 0 n) (aep 0) aob te σ acc H1 Q:=by
 have sl:sizeLine=16777216:=by{decide};let W9:Nat->List V->St->Hp->Prop:=λi zs z H'=>O z/\bK H1 H'/\H' acc=some (.lst zs)/\∃f:Nat->Addr,zs=(range i).map (λd=>V.ref (f d))/\(∀d,d<i->H1 (f d)=none/\f d≠acc/\H' (f d)=some (.lst c))/\∀d e,d<i->e<i->f d=f e->d=e;refine Bh W9 ?_ ?_ ?_ ?_;{exact⟨h0,aq J,aj,λ_=>0,rfl,λd hd=>absurd hd (Nat.not_lt_zero _),λd e hd=>absurd hd (Nat.not_lt_zero _)⟩};{rintro i zs z H' _ ⟨_,_,h,_⟩;exact h};{rintro i zs z H' hi ⟨hp,s',I,f,rfl,Z,inj⟩;refine O9 (aa _ H' _ (hg _ _ hp) s' λl F hl L W=>?_);have ac:=L _ _ I;have Y:acc≠l:=aF I hl;have hz:((range i).map λd=>V.ref (f d)).length<sizeLine:=by{rw[length_map,length_range];lia};refine wK.mk hi ac hz ⟨hg _ _ hp,dB (s'.trans L) J,aj,aM f i l,?_,λd hd=>?_,λd e hd he h=>?_⟩;{rw[range_succ,map_append];congr 1;{refine map_congr_left λd hd=>?_;rw[aX _ _ (ne_of_lt (mem_range.mp hd))]};{show [V.ref l]=[V.ref _];rw[aJ]}};{by_cases e:d=i;{subst e;rw[aJ];exact⟨bK.free s' hl,Y.symm,by rw[az Y.symm];exact W⟩};{rw[aX _ _ e];obtain⟨h1,h2,h3⟩:=Z d (by lia);exact⟨h1,h2,by rw[az h2];exact L _ _ h3⟩}};{have nl:∀d,d<i->f d≠l:=λd hd=>aF (Z d hd).2.2 hl;by_cases h1:d=i;{by_cases h2:e=i;{rw[h1,h2]};{rw[h1,aJ,aX _ _ h2]at h;exact absurd h.symm (nl e (by lia))}};{by_cases h2:e=i;{rw[h2,aJ,aX _ _ h1]at h;exact absurd h (nl d (by lia))};{rw[aX _ _ h1,aX _ _ h2]at h;exact inj d e (by lia) (by lia) h}}}};{rintro zs z H' ⟨_,s',I,f,rfl,Z,inj⟩;exact hd f H' s' I Z inj}
def oc(n:Nat)(ns:List Int)(A:Mb->Addr):Mb->HO
 | .dN=>.lst (replicate n .non)
 | .rights=>.lst ((range n).map λd=>V.ref (A (.rt d)))
 | .copies=>.lst ((range n).map λd=>V.ref (A (.cp d)))
 | .ups=>.lst ((range n).map λd=>V.ref (A (.up d)))
 | .downs=>.lst ((range n).map λd=>V.ref (A (.dn d)))
 | .rt _=>.lst (replicate ns.length (.str "none"))
 | .cp _=>.lst (ns.map V.int)
 | .b8 p=>.dK (Ax (pg0 ns p) (A (.jn p)) (A (.kh p)))
 | _=>.lst []
structure Stg(n:Nat)(ns:List Int)(H Hs:Hp)(A:Mb->Addr)(ok:Mb->Prop)(kv:List (Key×V))(zs:List V):Prop where
 sm:bK H Hs
 inj:∀x y,ok x->ok y->A x=A y->x=y
 fr:∀x,ok x->H (A x)=none
 ct:∀x,ok x->x≠.bf->x≠.dg->Hs (A x)=some (oc n ns A x)
 ot:ok .bf
 os:ok .dg
 tw:Hs (A .bf)=some (.dK kv)
 sh:Hs (A .dg)=some (.lst zs)
theorem Stg.live{n:Nat}{ns:List Int}{H z:Hp}{A:Mb->Addr}{ok:Mb->Prop}{F:List (Key×V)}{zs:List V}(S:Stg n ns H z A ok F zs)(x:Mb)(I:ok x):∃o,z (A x)=some o:=by
 by_cases h1:x=.bf;{rw[h1];exact⟨_,S.tw⟩};{by_cases h2:x=.dg;{rw[h2];exact⟨_,S.sh⟩};{exact⟨_,S.ct x I h1 h2⟩}}
theorem Stg.same{n:Nat}{ns:List Int}{H z H2:Hp}{A:Mb->Addr}{ok:Mb->Prop}{F:List (Key×V)}{zs:List V}(S:Stg n ns H z A ok F zs)(s:bK z H2):Stg n ns H H2 A ok F zs:=
 ⟨S.sm.trans s,S.inj,S.fr,λx I h1 h2=>s _ _ (S.ct x I h1 h2),S.ot,S.os,s _ _ S.tw,s _ _ S.sh⟩
theorem Stg.more{n:Nat}{ns:List Int}{H W H2:Hp}{A A':Mb->Addr}{ok new:Mb->Prop}{kv kv':List (Key×V)}{zs:List V}(S:Stg n ns H W A ok kv zs)(s2:bK W H2)(J:∀x,ok x->A' x=A x)(Y:∀x,ok x->oc n ns A' x=oc n ns A x)
 (Z:∀x,new x->W (A' x)=none/\H2 (A' x)=some (oc n ns A' x)) (hi:∀x y,new x->new y->A' x=A' y->x=y):Stg n ns H (upd H2 (A .bf) (.dK kv')) A' (λx=>ok x\/new x) kv' zs:=by
 have O:∀x,ok x->x≠.bf->A x≠A .bf:=λx F h e=>h (S.inj _ _ F S.ot e);have L:∀x y,ok x->new y->A x≠A' y:=λx y F I e=>by{obtain⟨o,h1⟩:=S.live x F;rw[e,(Z y I).1]at h1;cases h1};have S2:=S.same s2;refine⟨?_,λx y F I e=>?_,λx F=>?_,λx F h1 h2=>?_,.inl S.ot,.inl S.os,?_,?_⟩;{exact dB (S.sm.trans s2) (S.fr _ S.ot)};{rcases F with F | F;{rcases I with I | I;{rw[J x F,J y I]at e;exact S.inj x y F I e};{rw[J x F]at e;exact absurd e (L x y F I)}};{rcases I with I | I;{rw[J y I]at e;exact absurd e.symm (L y x I F)};{exact hi x y F I e}}};{rcases F with F | F;{rw[J x F];exact S.fr x F};{exact bK.free S.sm (Z x F).1}};{rcases F with F | F;{rw[J x F,Y x F,az (O x F h1)];exact S2.ct x F h1 h2};{rw[az (L _ _ S.ot F).symm];exact(Z x F).2}};{rw[J _ S.ot,aj]};{rw[J _ S.os,az (O _ S.os ⟨⟩)];exact S2.sh}
theorem Stg.b8{n:Nat}{ns:List Int}{H W H2:Hp}{A A':Mb->Addr}{ok new:Mb->Prop}{kv:List (Key×V)}{zs zs':List V}(S:Stg n ns H W A ok kv zs)(s2:bK W H2)(J:∀x,ok x->A' x=A x)(Y:∀x,ok x->oc n ns A' x=oc n ns A x)
 (Z:∀x,new x->W (A' x)=none/\H2 (A' x)=some (oc n ns A' x)) (hi:∀x y,new x->new y->A' x=A' y->x=y):Stg n ns H (upd H2 (A .dg) (.lst zs')) A' (λx=>ok x\/new x) kv zs':=by
 have O:∀x,ok x->x≠.dg->A x≠A .dg:=λx F h e=>h (S.inj _ _ F S.os e);have L:∀x y,ok x->new y->A x≠A' y:=λx y F I e=>by{obtain⟨o,h1⟩:=S.live x F;rw[e,(Z y I).1]at h1;cases h1};have S2:=S.same s2;refine⟨?_,λx y F I e=>?_,λx F=>?_,λx F h1 h2=>?_,.inl S.ot,.inl S.os,?_,?_⟩;{exact dB (S.sm.trans s2) (S.fr _ S.os)};{rcases F with F | F;{rcases I with I | I;{rw[J x F,J y I]at e;exact S.inj x y F I e};{rw[J x F]at e;exact absurd e (L x y F I)}};{rcases I with I | I;{rw[J y I]at e;exact absurd e.symm (L y x I F)};{exact hi x y F I e}}};{rcases F with F | F;{rw[J x F];exact S.fr x F};{exact bK.free S.sm (Z x F).1}};{rcases F with F | F;{rw[J x F,Y x F,az (O x F h2)];exact S2.ct x F h1 h2};{rw[az (L _ _ S.os F).symm];exact(Z x F).2}};{rw[J _ S.ot,az (O _ S.ot ⟨⟩)];exact S2.tw};{rw[J _ S.os,aj]}
theorem Stg.weak{n:Nat}{ns:List Int}{H F:Hp}{A:Mb->Addr}{ok ok':Mb->Prop}{I:List (Key×V)}{zs:List V}(S:Stg n ns H F A ok I zs)(h:∀x,ok' x->ok x)(J:ok' .bf)(hs:ok' .dg):Stg n ns H F A ok' I zs:=
 ⟨S.sm,λx y z L e=>S.inj x y (h x z) (h y L) e,λx z=>S.fr x (h x z),λx z=>S.ct x (h x z),J,hs,S.tw,S.sh⟩
theorem Stg.mir{n:Nat}{ns:List Int}{H I:Hp}{A:Mb->Addr}(S:Stg n ns H I A (Mb.ok n ns.length) (tkv A) ((range ns.length).map λp=>V.ref (A (.b8 p)))):bj I A n ns.length (S0 ns) []:=by
 refine⟨S.inj,λx F=>?_⟩;cases x with| bf=>exact⟨_,S.tw,rfl⟩| dg=>exact⟨_,S.sh,rfl⟩| row=>exact⟨_,S.ct .row F ⟨⟩ ⟨⟩,[],rfl,by simp[S0,aG]⟩| sent=>exact⟨_,S.ct .sent F ⟨⟩ ⟨⟩,[],rfl,by simp[aG]⟩| dN=>refine⟨_,S.ct .dN F ⟨⟩ ⟨⟩,_,rfl,length_replicate,λd hd=>⟨.non,?_,rfl⟩⟩;rw[getElem?_replicate,if_pos hd]| rights=>exact⟨_,S.ct .rights F ⟨⟩ ⟨⟩,rfl⟩| copies=>exact⟨_,S.ct .copies F ⟨⟩ ⟨⟩,rfl⟩| ups=>exact⟨_,S.ct .ups F ⟨⟩ ⟨⟩,rfl⟩| downs=>exact⟨_,S.ct .downs F ⟨⟩ ⟨⟩,rfl⟩| rt d=>exact⟨_,S.ct (.rt d) F ⟨⟩ ⟨⟩,by show HO.lst _=HO.lst _;rw[aov];rfl⟩| cp d=>exact⟨_,S.ct (.cp d) F ⟨⟩ ⟨⟩,by show HO.lst _=HO.lst _;rw[anq];rfl⟩| up d=>exact⟨_,S.ct (.up d) F ⟨⟩ ⟨⟩,[],rfl,by simp[S0,aG]⟩| dn d=>exact⟨_,S.ct (.dn d) F ⟨⟩ ⟨⟩,[],rfl,by simp[S0,aG]⟩| b8 p=>exact⟨_,S.ct (.b8 p) F ⟨⟩ ⟨⟩,rfl⟩| jn p=>exact⟨_,S.ct (.jn p) F ⟨⟩ ⟨⟩,rfl⟩| kh p=>exact⟨_,S.ct (.kh p) F ⟨⟩ ⟨⟩,[],rfl,by simp[S0,pg0,aG]⟩
def ok0(x:Mb):Prop:=x=.bf\/x=.row\/x=.dN\/x=.dg\/x=.sent
def ok8(n:Nat)(x:Mb):Prop:=(((ok0 x\/(x=.rights\/∃d,d<n/\x=.rt d))\/(x=.copies\/∃d,d<n/\x=.cp d))\/(x=.ups\/∃d,d<n/\x=.up d))\/(x=.downs\/∃d,d<n/\x=.dn d)
def A0(tw row wi sh se:Addr):Mb->Addr
 | .bf=>tw
 | .row=>row
 | .dN=>wi
 | .dg=>sh
 | _=>se
def A1(A:Mb->Addr)(a:Addr)(f:Nat->Addr):Mb->Addr
 | .rights=>a
 | .rt d=>f d
 | x=>A x
def A2(A:Mb->Addr)(a:Addr)(f:Nat->Addr):Mb->Addr
 | .copies=>a
 | .cp d=>f d
 | x=>A x
def A3(A:Mb->Addr)(a:Addr)(f:Nat->Addr):Mb->Addr
 | .ups=>a
 | .up d=>f d
 | x=>A x
def A4(A:Mb->Addr)(a:Addr)(f:Nat->Addr):Mb->Addr
 | .downs=>a
 | .dn d=>f d
 | x=>A x
def Ot(row wi sh se:Addr):List (Key×V):=[(ks "row",.ref row),(ks "wishes",.ref wi),(ks "shelves",.ref sh),(ks "sent",.ref se)]
theorem aow{row wi sh se:Addr}:Mm [] (Ot row wi sh se)=Ot row wi sh se:=by kernel_rfl
theorem atx{row wi sh se a:Addr}:putK (Ot row wi sh se) (ks "rights") (.ref a)=Ot row wi sh se++[(ks "rights",.ref a)]:=by kernel_rfl
theorem aty{row wi sh se a b:Addr}:putK (Ot row wi sh se++[(ks "rights",.ref a)]) (ks "copies") (.ref b)=Ot row wi sh se++[(ks "rights",.ref a),(ks "copies",.ref b)]:=by kernel_rfl
theorem atz{row wi sh se a b c:Addr}:putK (Ot row wi sh se++[(ks "rights",.ref a),(ks "copies",.ref b)]) (ks "ups") (.ref c)=Ot row wi sh se++[(ks "rights",.ref a),(ks "copies",.ref b),(ks "ups",.ref c)]:=by kernel_rfl
theorem atA{row wi sh se a b c d:Addr}:putK (Ot row wi sh se++[(ks "rights",.ref a),(ks "copies",.ref b),(ks "ups",.ref c)]) (ks "downs") (.ref d)=Ot row wi sh se++[(ks "rights",.ref a),(ks "copies",.ref b),(ks "ups",.ref c),(ks "downs",.ref d)]:=by kernel_rfl
theorem atB{row wi sh se:Addr}{l:List (Key×V)}:gj (Ot row wi sh se++l) (ks "shelves")=some (.ref sh):=by kernel_rfl
theorem anr(n:Nat)(v:V):(replicate n [v]).flatten=replicate n v:=by
 induction n with| zero=>rfl| succ n z=>rw[replicate_succ,flatten_cons,z,replicate_succ];rfl
def kvS(x:Int)(r q:Addr):List (Key×V):=[(ks "number",.int x),(ks "writer",.int (-1)),(ks "readers",.ref r),(ks "asked",.ref q),(ks "missing",.int 0)]
theorem aox{x:Int}{r q:Addr}:Mm [] (kvS x r q)=Ax ⟨x,none,[],[],0⟩ r q:=by kernel_rfl
def aqR:Sp:=λvs H Q _=>∃n l,∃ns:List Int,vs=[.int ((n:Nat):Int),.ref l]/\H l=some (.lst (ns.map V.int))/\n<=1000/\ns.length<=1000/\
 ∀A H',bj H' A n ns.length (S0 ns) []->bK H H'->(∀x:Mb,x.ok n ns.length->H (A x)=none)->Q (.ref (A .bf)) H'
theorem af4(T:Txt K w mg t):cX P w K mg base mW 1 t.jz t.Cj ["_law_count","_law_numbers"] aqR:=by
 refine T.Vx.ok uo (λvs H Q E h=>?_) (λdT A outer s H vs Q E hr h=>?_);{obtain⟨n,l,ns,rfl,_⟩:=h;rfl}
 ·obtain⟨n,l,ns,rfl,hl,hn,hm,k⟩:=h;have hu:=kY hr;have sl:sizeLine=16777216:=by{decide};refine' ⟨_,?sr,?_⟩;case' sr=>refine' ao ?bw ?MF
  case' MF=>refine' ao ?bx ?MJ
  case' MJ=>refine' ao ?bz ?MK
  case' MK=>refine' ao ?bA ?bB
  case' bB=>refine' ao ?bC ?bD
  case' bD=>refine' ao ?bE ?bF
  case' bF=>refine' aA ?bG
  case' bw=>refine' bu (X:=_) (x:="_law_town") (e:=_) (te:=_) (i:=2) ?bH ?bM ?bP ?bQ ?bR ?bS
  case' bH=>exact uo.nd
  case' bM=>rfl
  case' bP=>exact(Or.inl rfl)
  case' bR=>rfl
  case' bS=>exact .inl rfl
  case' bQ=>refine' amK (X:=_) (trs:=_) ?bT ?bV ?bW ?bX ?bY
  case' bV=>rfl
  case' bW=>rfl
  case' bX=>exact cons_ne_nil _ _
  case' bY=>decide
  case' bT=>refine' oE (X:=_) (tk:=_) (tv:=_) (trs:=_) ?bZ ?b0 ?b1
  case' bZ=>exact aC
  case' b0=>refine' (bJ ak)
  case' b1=>refine' oE (X:=_) (tk:=_) (tv:=_) (trs:=_) ?b2 ?b3 ?b4
  case' b2=>exact aC
  case' b3=>refine' bI apJ ?b5 ?b6
  case' b5=>refine' (bJ (aa uO ak))
  case' b6=>refine' (pv 0)
  case' b4=>refine' oE (X:=_) (tk:=_) (tv:=_) (trs:=_) ?b7 ?b9 ?ca
  case' b7=>exact aC
  case' b9=>refine' (bJ ak)
  case' ca=>refine' oE (X:=_) (tk:=_) (tv:=_) (trs:=_) ?cb ?cc ?ce
  case' cb=>exact aC
  case' cc=>refine' (bJ ak)
  case' ce=>exact amJ
  case' bx=>exact(mK hu (pv 2) aC (mO (gD (xs:=["_law_k"]) (ys:=["_law_numbers"]) (js:=[1]) rfl ∅ ∅ ∅ (by rfl) ⟨⟨rfl,Or.inl rfl⟩,trivial⟩) rfl (fU (by rfl) T.jN (aa (pv 0) ak)) (λ_ _ _ _ _=>(cj (i:=0) (show Nodup ((["_law_k"]:List Str)++(["_law_numbers"]:List Str):List Str)by decide +kernel) rfl (Or.inl rfl))) (λ_ _ _ _ _=>oG) (λ_ _ _ _ _=>(bI apJ (bJ (aa aC ak)) (cG (acG (K:=K) rfl) (by rfl) T.pL PySem.boot_len (aa (pv 1) ak))))) (by rfl))
  case' bz=>exact(mK hu (pv 2) aC (mO (gD (xs:=["_law_k"]) (ys:=["_law_numbers"]) (js:=[1]) rfl ∅ ∅ ∅ (by rfl) ⟨⟨rfl,Or.inl rfl⟩,trivial⟩) rfl (fU (by rfl) T.jN (aa (pv 0) ak)) (λ_ _ _ _ _=>(cj (i:=0) (show Nodup ((["_law_k"]:List Str)++(["_law_numbers"]:List Str):List Str)by decide +kernel) rfl (Or.inl rfl))) (λ_ _ _ _ _=>oG) (λ_ _ _ _ _=>(gC (acH (K:=K) rfl) (by rfl) T.yR PyProof.Rows.Boot.«list» (aa (pv 1) ak)))) (by rfl))
  case' bA=>exact(mK hu (pv 2) aC (mO (gD (xs:=["_law_k"]) (ys:=[]) (js:=[]) rfl ∅ ∅ ∅ (by rfl) trivial) rfl (fU (by rfl) T.jN (aa (pv 0) ak)) (λ_ _ _ _ _=>(cj (i:=0) (show Nodup ((["_law_k"]:List Str)++([]:List Str):List Str)by decide +kernel) rfl (Or.inl rfl))) (λ_ _ _ _ _=>oG) (λ_ _ _ _ _=>(bJ ak))) (by rfl))
  case' bC=>exact(mK hu (pv 2) aC (mO (gD (xs:=["_law_k"]) (ys:=[]) (js:=[]) rfl ∅ ∅ ∅ (by rfl) trivial) rfl (fU (by rfl) T.jN (aa (pv 0) ak)) (λ_ _ _ _ _=>(cj (i:=0) (show Nodup ((["_law_k"]:List Str)++([]:List Str):List Str)by decide +kernel) rfl (Or.inl rfl))) (λ_ _ _ _ _=>oG) (λ_ _ _ _ _=>(bJ ak))) (by rfl))
  case' bE=>refine' mU PassesOwn.never rfl (ou (pv 1)) (cj (i:=3) uo.nd rfl (Or.inl rfl)) ?cf
  case' cf=>refine' ao ?cg ?ch
  case' ch=>refine' aA ?ci
  case' cg=>refine' bu (X:=_) (x:="_law_shelf") (e:=_) (te:=_) (i:=4) ?ck ?cl ?cm ?cn ?co ?cq
  case' ck=>exact uo.nd
  case' cl=>rfl
  case' cm=>exact(Or.inl rfl)
  case' co=>rfl
  case' cq=>exact .inl rfl
  case' cn=>refine' amK (X:=_) (trs:=_) ?cr ?cs ?cv ?cw ?cx
  case' cs=>rfl
  case' cv=>rfl
  case' cw=>exact cons_ne_nil _ _
  case' cx=>decide
  case' cr=>refine' oE (X:=_) (tk:=_) (tv:=_) (trs:=_) ?cy ?cz ?cA
  case' cy=>exact aC
  case' cz=>refine' (pv 3)
  case' cA=>refine' oE (X:=_) (tk:=_) (tv:=_) (trs:=_) ?cB ?cC ?cD
  case' cB=>exact aC
  case' cC=>refine' (Vk GD aB)
  case' cD=>refine' oE (X:=_) (tk:=_) (tv:=_) (trs:=_) ?cE ?cF ?cH
  case' cE=>exact aC
  case' cF=>refine' (bJ ak)
  case' cH=>refine' oE (X:=_) (tk:=_) (tv:=_) (trs:=_) ?cI ?cJ ?cK
  case' cI=>exact aC
  case' cJ=>refine' (bJ ak)
  case' cK=>refine' oE (X:=_) (tk:=_) (tv:=_) (trs:=_) ?cL ?cM ?cN
  case' cL=>exact aC
  case' cM=>refine' aB
  case' cN=>exact amJ
  case' ci=>exact(bN (dZ plainAttrs_list PySem.F.slot_list_append PySem.F.type_list_append cu (bL hu (pv 2) aC (λ_ _=>rfl)) (aa (pv 4) ak)))
  case' bG=>exact(aZ (pv 2))
  try dsimp only[dj,Cx.kE]
  show let Z1:L2.TS:=_;let Z2:L2.TS:=_;let Z3:L2.TS:=_;let Z4:L2.TS:=_;let Z5:L2.TS:=_;let Z6:L2.TS:=_;let Z7:L2.TS:=_;let Z8:L2.TS:=aV Z6 (Z7);let Z9:L2.TS:=J3 _ _ Z8;let z8:L2.TS:=_;let D0:Ends:=_;(aV Z1 (aV Z2 (aV Z3 (aV Z4 (aV Z5 (aV Z9 (z8))))))) D0 _ _;intro Z1 Z2 Z3 Z4 Z5 Z6 Z7 Z8 Z9 z8 D0;refine λtw al=>⟨wF,λrow ah=>⟨zz1,λq0 ai=>⟨_,rfl,q0,(n:Int),[.non],rfl,rfl,aj,(by lia),(by lia),?_,λwi Z=>⟨wF,λsh J=>⟨wF,λse L=>?_⟩⟩⟩⟩⟩;{rw[Int.toNat_natCast];simp only[length_singleton];lia};rw[Int.toNat_natCast,anr]at *;have ae:tw≠row:=λz=>by{rw[<-z,aj]at ah;cases ah};have ay:tw≠q0:=λz=>by{rw[<-z,az ae,aj]at ai;cases ai};have af:row≠q0:=λz=>by{rw[<-z,aj]at ai;cases ai};have am:tw≠wi:=λz=>by{rw[<-z,az ay,az ae,aj]at Z;cases Z};have as:row≠wi:=λz=>by{rw[<-z,az af,aj]at Z;cases Z};have a1:q0≠wi:=λz=>by{rw[<-z,aj]at Z;cases Z};have av:tw≠sh:=λz=>by{rw[<-z,az am,az ay,az ae,aj]at J;cases J};have aD:row≠sh:=λz=>by{rw[<-z,az as,az af,aj]at J;cases J};have bi:q0≠sh:=λz=>by{rw[<-z,az a1,aj]at J;cases J};have aE:wi≠sh:=λz=>by{rw[<-z,aj]at J;cases J};have aF:tw≠se:=λz=>by{rw[<-z,az av,az am,az ay,az ae,aj]at L;cases L};have aK:row≠se:=λz=>by{rw[<-z,az aD,az as,az af,aj]at L;cases L};have cO:q0≠se:=λz=>by{rw[<-z,az bi,az a1,aj]at L;cases L};have aL:wi≠se:=λz=>by{rw[<-z,az aE,aj]at L;cases L};have aM:sh≠se:=λz=>by{rw[<-z,aj]at L;cases L};refine⟨by rw[az aF,az av,az am,az ay,az ae,aj],Ot row wi sh se,rfl,(by show 4<=15;decide),?_⟩;rw[aow];have cP:H row=none:=Lv.upd _ ah;have cQ:H wi=none:=Lv.upd _ (Lv.upd _ (Lv.upd _ Z));have cR:H sh=none:=Lv.upd _ (Lv.upd _ (Lv.upd _ (Lv.upd _ J)));have cS:H se=none:=Lv.upd _ (Lv.upd _ (Lv.upd _ (Lv.upd _ (Lv.upd _ L))));have G0:Stg n ns H (upd (upd (upd (upd (upd (upd (upd H tw (.dK [])) row (.lst [])) q0 (.lst [.non])) wi (.lst (replicate n .non))) sh (.lst [])) se (.lst [])) tw (.dK (Ot row wi sh se))) (A0 tw row wi sh se) ok0 (Ot row wi sh se) []:=by
   refine⟨?_,λx y I hy e=>?_,λx I=>?_,λx I h1 h2=>?_,.inl rfl,.inr (.inr (.inr (.inl rfl))),aj,?_⟩;{refine dB ?_ al;exact(((((aq al).trans (aq ah)).trans (aq ai)).trans (aq Z)).trans (aq J)).trans (aq L)}
   ·rcases I with rfl | rfl | rfl | rfl | rfl<;>rcases hy with rfl | rfl | rfl | rfl | rfl<;>first
     | rfl
     | (exfalso;exact ae e) | (exfalso;exact am e) | (exfalso;exact av e) | (exfalso;exact aF e) | (exfalso;exact as e) | (exfalso;exact aD e) | (exfalso;exact aK e) | (exfalso;exact aE e) | (exfalso;exact aL e) | (exfalso;exact aM e)
     | (exfalso;exact ae e.symm) | (exfalso;exact am e.symm) | (exfalso;exact av e.symm) | (exfalso;exact aF e.symm) | (exfalso;exact as e.symm) | (exfalso;exact aD e.symm) | (exfalso;exact aK e.symm) | (exfalso;exact aE e.symm) | (exfalso;exact aL e.symm) | (exfalso;exact aM e.symm)
   ·rcases I with rfl | rfl | rfl | rfl | rfl;{exact al};{exact cP};{exact cQ};{exact cR};{exact cS}
   ·rcases I with rfl | rfl | rfl | rfl | rfl;{exact absurd rfl h1};{show upd _ tw _ row=_;rw[az ae.symm,az aK,az aD,az as,az af,aj];rfl};{show upd _ tw _ wi=_;rw[az am.symm,az aL,az aE,aj];rfl};{exact absurd rfl h2};{show upd _ tw _ se=_;rw[az aF.symm,aj];rfl}
   ·show upd _ tw _ sh=_;rw[az av.symm,az aM,aj]
  generalize upd (upd (upd (upd (upd (upd (upd H tw (.dK [])) row (.lst [])) q0 (.lst [.non])) wi (.lst (replicate n .non))) sh (.lst [])) se (.lst [])) tw (.dK (Ot row wi sh se))=H0 at G0;clear ah ai Z J L ae ay af am as a1 av aD bi aE aF aK cO aL aM;have nb : -(2 ^ 62)<=((n:Nat):Int)/\((n:Nat):Int)<2 ^ 62:=⟨by lia,by lia⟩;refine⟨_,rfl,(n:Int),rfl,nb.1,nb.2,λW bj=>?_⟩;rw[Int.toNat_natCast];refine Aa (c:=replicate ns.length (.str "none")) (λY=>∃o,Y=[o,some (.ref l)]) ⟨_,rfl⟩ bj hn (λi Y h=>by obtain⟨o,rfl⟩:=h;exact⟨_,rfl⟩) (λY H' R ⟨o,e⟩ s' hR=>?_) (λf1 H1 s1 cT aN cU=>?_);{subst e;have a3:=s' _ _ (G0.sm _ _ hl);refine⟨zz1,λq hq=>⟨_,rfl,l,_,rfl,.inl (bU.of (aq hq _ _ a3)),q,_,[.str "none"],rfl,rfl,aj,(by lia),?_,?_,λz hz=>?_⟩⟩;{rw[length_map];lia};{rw[length_map,Int.toNat_natCast];simp only[length_singleton];lia};{rw[length_map,Int.toNat_natCast,anr];exact hR z _ (Lv.upd _ hz) ((aq hq).trans (aq hz)) aj}};have cV:H1 tw=some (.dK _):=s1 _ _ G0.tw;refine⟨_,rfl,tw,_,rfl,dput cV (by show 4<sizeLine;decide) atx,?_⟩;have G1:=G0.more (A':=A1 (A0 tw row wi sh se) W f1) (new:=λx=>x=.rights\/∃d,d<n/\x=.rt d) (kv':=Ot row wi sh se++[(ks "rights",.ref W)]) s1 (λx I=>by rcases I with rfl | rfl | rfl | rfl | rfl<;>rfl) (λx I=>by rcases I with rfl | rfl | rfl | rfl | rfl<;>rfl)
   (λx I=>by
     rcases I with rfl | ⟨d,hd,rfl⟩
     ·exact⟨bj,cT⟩
     ·exact⟨(aN d hd).1,(aN d hd).2.2⟩)
   (λx y I hy e=>by
     rcases I with rfl | ⟨d,hd,rfl⟩<;>rcases hy with rfl | ⟨d',O,rfl⟩
     ·rfl
     ·exact absurd e.symm (aN d' O).2.1
     ·exact absurd e (aN d hd).2.1
     ·rw[cU d d' hd O e])
  have aP:Stg n ns H (upd H1 tw (.dK (Ot row wi sh se++[(ks "rights",.ref W)]))) _ _ _ []:=G1;generalize upd H1 tw (.dK (Ot row wi sh se++[(ks "rights",.ref W)]))=dX at aP;clear G1;refine⟨_,rfl,(n:Int),rfl,nb.1,nb.2,λac bl=>?_⟩;rw[Int.toNat_natCast];refine Aa (c:=ns.map V.int) (λY=>∃o,Y=[o,some (.ref l)]) ⟨_,rfl⟩ bl hn (λi Y h=>by obtain⟨o,rfl⟩:=h;exact⟨_,rfl⟩) (λY H' R ⟨o,e⟩ s' hR=>?_) (λf2 H2 s2 cW aQ cY=>?_);{subst e;have a3:=s' _ _ (aP.sm _ _ hl);exact⟨_,rfl,l,_,rfl,.inl (bU.of a3),λz hz=>hR z _ hz (aq hz) aj⟩};have cZ:H2 tw=some (.dK _):=s2 _ _ aP.tw;refine⟨_,rfl,tw,_,rfl,dput cZ (by show 5<sizeLine;decide) aty,?_⟩;have G2:=aP.more (A':=A2 (A1 (A0 tw row wi sh se) W f1) ac f2) (new:=λx=>x=.copies\/∃d,d<n/\x=.cp d) (kv':=Ot row wi sh se++[(ks "rights",.ref W),(ks "copies",.ref ac)]) s2 (λx I=>by rcases I with (rfl | rfl | rfl | rfl | rfl) | rfl | ⟨d,_,rfl⟩<;>rfl) (λx I=>by rcases I with (rfl | rfl | rfl | rfl | rfl) | rfl | ⟨d,_,rfl⟩<;>rfl)
   (λx I=>by
     rcases I with rfl | ⟨d,hd,rfl⟩
     ·exact⟨bl,cW⟩
     ·exact⟨(aQ d hd).1,(aQ d hd).2.2⟩)
   (λx y I hy e=>by
     rcases I with rfl | ⟨d,hd,rfl⟩<;>rcases hy with rfl | ⟨d',O,rfl⟩
     ·rfl
     ·exact absurd e.symm (aQ d' O).2.1
     ·exact absurd e (aQ d hd).2.1
     ·rw[cY d d' hd O e])
  have a4:Stg n ns H (upd H2 tw (.dK (Ot row wi sh se++[(ks "rights",.ref W),(ks "copies",.ref ac)]))) _ _ _ []:=G2;generalize upd H2 tw (.dK (Ot row wi sh se++[(ks "rights",.ref W),(ks "copies",.ref ac)]))=dY at a4;clear G2;refine⟨_,rfl,(n:Int),rfl,nb.1,nb.2,λau bn=>?_⟩;rw[Int.toNat_natCast];refine Aa (c:=[]) (λY=>∃o,Y=[o]) ⟨_,rfl⟩ bn hn (λi Y h=>by obtain⟨o,rfl⟩:=h;exact⟨_,rfl⟩) (λY H' R ⟨o,e⟩ s' hR=>?_) (λf3 H3 s3 c5 aR c6=>?_);{exact⟨wF,λz hz=>hR z _ hz (aq hz) aj⟩};have c7:H3 tw=some (.dK _):=s3 _ _ a4.tw;refine⟨_,rfl,tw,_,rfl,dput c7 (by show 6<sizeLine;decide) atz,?_⟩;have G3:=a4.more (A':=A3 (A2 (A1 (A0 tw row wi sh se) W f1) ac f2) au f3) (new:=λx=>x=.ups\/∃d,d<n/\x=.up d) (kv':=Ot row wi sh se++[(ks "rights",.ref W),(ks "copies",.ref ac),(ks "ups",.ref au)]) s3 (λx I=>by rcases I with ((rfl | rfl | rfl | rfl | rfl) | rfl | ⟨d,_,rfl⟩) | rfl | ⟨d,_,rfl⟩<;>rfl) (λx I=>by rcases I with ((rfl | rfl | rfl | rfl | rfl) | rfl | ⟨d,_,rfl⟩) | rfl | ⟨d,_,rfl⟩<;>rfl)
   (λx I=>by
     rcases I with rfl | ⟨d,hd,rfl⟩
     ·exact⟨bn,c5⟩
     ·exact⟨(aR d hd).1,(aR d hd).2.2⟩)
   (λx y I hy e=>by
     rcases I with rfl | ⟨d,hd,rfl⟩<;>rcases hy with rfl | ⟨d',O,rfl⟩
     ·rfl
     ·exact absurd e.symm (aR d' O).2.1
     ·exact absurd e (aR d hd).2.1
     ·rw[c6 d d' hd O e])
  have a5:Stg n ns H (upd H3 tw (.dK (Ot row wi sh se++[(ks "rights",.ref W),(ks "copies",.ref ac),(ks "ups",.ref au)]))) _ _ _ []:=G3;generalize upd H3 tw (.dK (Ot row wi sh se++[(ks "rights",.ref W),(ks "copies",.ref ac),(ks "ups",.ref au)]))=d0 at a5;clear G3;refine⟨_,rfl,(n:Int),rfl,nb.1,nb.2,λad bo=>?_⟩;rw[Int.toNat_natCast];refine Aa (c:=[]) (λY=>∃o,Y=[o]) ⟨_,rfl⟩ bo hn (λi Y h=>by obtain⟨o,rfl⟩:=h;exact⟨_,rfl⟩) (λY H' R ⟨o,e⟩ s' hR=>?_) (λf4 H4 s4 c9 aS da=>?_);{exact⟨wF,λz hz=>hR z _ hz (aq hz) aj⟩};have db:H4 tw=some (.dK _):=s4 _ _ a5.tw;refine⟨_,rfl,tw,_,rfl,dput db (by show 7<sizeLine;decide) atA,?_⟩;have G4:=a5.more (A':=A4 (A3 (A2 (A1 (A0 tw row wi sh se) W f1) ac f2) au f3) ad f4) (new:=λx=>x=.downs\/∃d,d<n/\x=.dn d) (kv':=Ot row wi sh se++[(ks "rights",.ref W),(ks "copies",.ref ac),(ks "ups",.ref au),(ks "downs",.ref ad)]) s4 (λx I=>by rcases I with (((rfl | rfl | rfl | rfl | rfl) | rfl | ⟨d,_,rfl⟩) | rfl | ⟨d,_,rfl⟩) | rfl | ⟨d,_,rfl⟩<;>rfl) (λx I=>by rcases I with (((rfl | rfl | rfl | rfl | rfl) | rfl | ⟨d,_,rfl⟩) | rfl | ⟨d,_,rfl⟩) | rfl | ⟨d,_,rfl⟩<;>rfl)
   (λx I=>by
     rcases I with rfl | ⟨d,hd,rfl⟩
     ·exact⟨bo,c9⟩
     ·exact⟨(aS d hd).1,(aS d hd).2.2⟩)
   (λx y I hy e=>by
     rcases I with rfl | ⟨d,hd,rfl⟩<;>rcases hy with rfl | ⟨d',O,rfl⟩
     ·rfl
     ·exact absurd e.symm (aS d' O).2.1
     ·exact absurd e (aS d hd).2.1
     ·rw[da d d' hd O e])
  have a6:Stg n ns H (upd H4 tw (.dK (Ot row wi sh se++[(ks "rights",.ref W),(ks "copies",.ref ac),(ks "ups",.ref au),(ks "downs",.ref ad)]))) _ _ _ []:=G4;generalize upd H4 tw (.dK (Ot row wi sh se++[(ks "rights",.ref W),(ks "copies",.ref ac),(ks "ups",.ref au),(ks "downs",.ref ad)]))=d1 at a6;clear G4;have bp:∀x,ok8 n x->(((ok0 x\/(x=.rights\/∃d,d<n/\x=.rt d))\/(x=.copies\/∃d,d<n/\x=.cp d))\/(x=.ups\/∃d,d<n/\x=.up d))\/(x=.downs\/∃d,d<n/\x=.dn d):=λx I=>I;have G5:=a6.weak (ok':=ok8 n) bp (.inl (.inl (.inl (.inl (.inl rfl))))) (.inl (.inl (.inl (.inl (.inr (.inr (.inr (.inl rfl))))))));clear a6 bp;generalize a7:A4 (A3 (A2 (A1 (A0 tw row wi sh se) W f1) ac f2) au f3) ad f4=AB at G5;have dc:Ot row wi sh se++[(ks "rights",.ref W),(ks "copies",.ref ac),(ks "ups",.ref au),(ks "downs",.ref ad)]=tkv AB:=by{rw[<-a7];rfl};have bq:AB .bf=tw:=by{rw[<-a7];rfl};have de:AB .dg=sh:=by{rw[<-a7];rfl};refine⟨_,rfl,l,rfl,⟨_,bU.of (G5.sm _ _ hl)⟩,?_⟩;let df:Nat->St->Hp->Prop:=λi Y H'=>(∃o3 o4,Y=[some (.int n),some (.ref l),some (.ref tw),o3,o4])/\∃A,(∀x,ok8 n x->A x=AB x)/\Stg n ns H H' A (λx=>ok8 n x\/∃p,p<i/\(x=.b8 p\/x=.jn p\/x=.kh p)) (Ot row wi sh se++[(ks "rights",.ref W),(ks "copies",.ref ac),(ks "ups",.ref au),(ks "downs",.ref ad)]) ((range i).map λp=>V.ref (A (.b8 p)));refine rF (xs:=ns.map V.int) df ?_ ?_ ?_ ?_;{refine⟨⟨_,_,rfl⟩,AB,λx _=>rfl,G5.weak (λx I=>I.elim id λz=>by obtain⟨p,hp,_⟩:=z;exact absurd hp (Nat.not_lt_zero _)) (.inl G5.ot) (.inl G5.os)⟩};{rintro i Y H' _ ⟨_,A',_,G⟩;exact bU.of (G.sm _ _ hl)}
  ·rintro i y Y H' hy ⟨⟨o3,o4,rfl⟩,A',aw,G⟩;have hi:i<ns.length:=by{have:=(List.getElem?_eq_some_iff.mp hy).1;simpa using this};have dl:y=.int ns[i]:=by{rw[getElem?_map,getElem?_eq_getElem hi]at hy;exact(Option.some.inj hy).symm};subst dl;refine λsf a8=>⟨_,rfl,_,rfl,⟨wF,λr hr=>⟨wF,λq hq=>?_⟩⟩⟩;have aI:sf≠r:=λz=>by{rw[<-z,aj]at hr;cases hr};have aT:sf≠q:=λz=>by{rw[<-z,az aI,aj]at hq;cases hq};have af:r≠q:=λz=>by{rw[<-z,aj]at hq;cases hq};have dm:H' r=none:=Lv.upd _ hr;have ai:H' q=none:=Lv.upd _ (Lv.upd _ hq);refine⟨by rw[az aT,az aI,aj],kvS ns[i] r q,rfl,(by show 5<=15;decide),?_⟩;rw[aox];have dp:pg0 ns i=⟨ns[i],none,[],[],0⟩:=by{unfold pg0;rw[getElem?_eq_getElem hi];rfl};rw[<-dp];have s1:bK H' (upd (upd (upd (upd H' sf (.dK [])) r (.lst [])) q (.lst [])) sf (.dK (Ax (pg0 ns i) r q))):=dB (((aq a8).trans (aq hr)).trans (aq hq)) a8;have c1:upd (upd (upd (upd H' sf (.dK [])) r (.lst [])) q (.lst [])) sf (.dK (Ax (pg0 ns i) r q)) sf=some (.dK (Ax (pg0 ns i) r q)):=aj;have c2:upd (upd (upd (upd H' sf (.dK [])) r (.lst [])) q (.lst [])) sf (.dK (Ax (pg0 ns i) r q)) r=some (.lst []):=by{rw[az aI.symm,az af,aj]};have c3:upd (upd (upd (upd H' sf (.dK [])) r (.lst [])) q (.lst [])) sf (.dK (Ax (pg0 ns i) r q)) q=some (.lst []):=by{rw[az aT.symm,aj]};generalize upd (upd (upd (upd H' sf (.dK [])) r (.lst [])) q (.lst [])) sf (.dK (Ax (pg0 ns i) r q))=H2 at s1 c1 c2 c3;have al:A' .bf=tw:=by{rw[aw _ G5.ot,bq]};have J:A' .dg=sh:=by{rw[aw _ G5.os,de]};have gt:=s1 _ _ G.tw;have gs:=s1 _ _ G.sh;rw[al]at gt;rw[J]at gs;refine zd rfl (eZ gt atB) ⟨.inl ⟨rfl,_,bU.of gs⟩,_,rfl,sh,_,_,rfl,rfl,gs,by rw[length_map,length_range];lia,?_⟩;have a9:∀x,(ok8 n x\/∃p,p<i/\(x=.b8 p\/x=.jn p\/x=.kh p))->x≠.b8 i/\x≠.jn i/\x≠.kh i:=by{intro x I;rcases I with I | ⟨p,hp,I⟩;{refine⟨?_,?_,?_⟩<;>(intro z;subst z;simp[ok8,ok0]at I)};{rcases I with rfl | rfl | rfl<;>refine⟨?_,?_,?_⟩<;>(intro z;cases z<;>exact absurd hp (Nat.lt_irrefl _))}};generalize aU:kI (kI (kI A' (.b8 i) sf) (.jn i) r) (.kh i) q=ap;have e1:ap (.b8 i)=sf:=by{rw[<-aU];simp[kI]};have e2:ap (.jn i)=r:=by{rw[<-aU];simp[kI]};have e3:ap (.kh i)=q:=by{rw[<-aU];simp[kI]};have eo:∀x,x≠.b8 i->x≠.jn i->x≠.kh i->ap x=A' x:=λx h1 h2 h3=>by{rw[<-aU,bO _ _ h3,bO _ _ h2,bO _ _ h1]};have G6:=G.b8 (A':=ap) (new:=λx=>x=.b8 i\/x=.jn i\/x=.kh i) (zs':=((range i).map λp=>V.ref (A' (.b8 p)))++[.ref sf]) s1
    (λx I=>by obtain⟨h1,h2,h3⟩:=a9 x I;exact eo x h1 h2 h3)
    (λx I=>by
      obtain⟨h1,h2,h3⟩:=a9 x I
      cases x with
      | b8 p=>
        have hp:p≠i:=λz=>h1 (by rw[z])
        show HO.dK _=HO.dK _
        rw[eo (.jn p) ⟨⟩ (by intro z;cases z;exact hp rfl) ⟨⟩,eo (.kh p) ⟨⟩ ⟨⟩ (by intro z;cases z;exact hp rfl)]
      | rights=>show HO.lst _=HO.lst _;congr 1;exact map_congr_left λd _=>by rw[eo (.rt d) ⟨⟩ ⟨⟩ ⟨⟩]
      | copies=>show HO.lst _=HO.lst _;congr 1;exact map_congr_left λd _=>by rw[eo (.cp d) ⟨⟩ ⟨⟩ ⟨⟩]
      | ups=>show HO.lst _=HO.lst _;congr 1;exact map_congr_left λd _=>by rw[eo (.up d) ⟨⟩ ⟨⟩ ⟨⟩]
      | downs=>show HO.lst _=HO.lst _;congr 1;exact map_congr_left λd _=>by rw[eo (.dn d) ⟨⟩ ⟨⟩ ⟨⟩]
      | _=>rfl)
    (λx I=>by
      rcases I with rfl | rfl | rfl
      ·rw[e1];exact⟨a8,by rw[c1];show some (HO.dK _)=some (HO.dK _);rw[e2,e3]⟩
      ·rw[e2];exact⟨dm,c2⟩
      ·rw[e3];exact⟨ai,c3⟩)
    (λx y I hy e=>by
      rcases I with rfl | rfl | rfl<;>rcases hy with rfl | rfl | rfl<;>first
       | rfl
       | (exfalso;rw[e1,e2]at e;exact aI e) | (exfalso;rw[e1,e3]at e;exact aT e) | (exfalso;rw[e2,e3]at e;exact af e)
       | (exfalso;rw[e2,e1]at e;exact aI e.symm) | (exfalso;rw[e3,e1]at e;exact aT e.symm) | (exfalso;rw[e3,e2]at e;exact af e.symm))
   rw[J]at G6;refine⟨⟨_,_,rfl⟩,ap,λx I=>?_,?_⟩;{obtain⟨h1,h2,h3⟩:=a9 x (.inl I);rw[eo x h1 h2 h3];exact aw x I};{have ez:((range i).map λp=>V.ref (A' (.b8 p)))++[.ref sf]=(range (i+1)).map λp=>V.ref (ap (.b8 p)):=by{rw[range_succ,map_append];congr 1;{exact map_congr_left λp hp=>by rw[eo (.b8 p) (by intro z;cases z;exact absurd (mem_range.mp hp) (Nat.lt_irrefl _)) ⟨⟩ ⟨⟩]};{show [V.ref sf]=[V.ref _];rw[e1]}};rw[ez]at G6 ⊢;refine G6.weak (ok':=λx=>ok8 n x\/∃p,p<i+1/\(x=.b8 p\/x=.jn p\/x=.kh p)) (λx I=>?_) (Or.inl G5.ot) (Or.inl G5.os);rcases I with I | ⟨p,hp,I⟩;{exact .inl (.inl I)};{by_cases e:p=i;{subst e;exact .inr I};{exact .inl (.inr ⟨p,by lia,I⟩)}}}
  ·rintro Y H' ⟨⟨o3,o4,rfl⟩,A',aw,G⟩;rw[length_map]at G;have hk:Ot row wi sh se++[(ks "rights",.ref W),(ks "copies",.ref ac),(ks "ups",.ref au),(ks "downs",.ref ad)]=tkv A':=by{rw[dc];unfold tkv;have o:∀x,ok8 n x->AB x=A' x:=λx I=>(aw x I).symm;rw[o .row (.inl (.inl (.inl (.inl (.inr (.inl rfl)))))),o .dN (.inl (.inl (.inl (.inl (.inr (.inr (.inl rfl))))))),o .dg (.inl (.inl (.inl (.inl (.inr (.inr (.inr (.inl rfl)))))))),o .sent (.inl (.inl (.inl (.inl (.inr (.inr (.inr (.inr rfl)))))))),o .rights (.inl (.inl (.inl (.inr (.inl rfl))))),o .copies (.inl (.inl (.inr (.inl rfl)))),o .ups (.inl (.inr (.inl rfl))),o .downs (.inr (.inl rfl))]};rw[hk]at G;have dt:∀x:Mb,x.ok n ns.length->ok8 n x\/∃p,p<ns.length/\(x=.b8 p\/x=.jn p\/x=.kh p):=by{intro x I;cases x with| bf=>exact .inl (.inl (.inl (.inl (.inl (.inl rfl)))))| row=>exact .inl (.inl (.inl (.inl (.inl (.inr (.inl rfl))))))| dN=>exact .inl (.inl (.inl (.inl (.inl (.inr (.inr (.inl rfl)))))))| dg=>exact .inl (.inl (.inl (.inl (.inl (.inr (.inr (.inr (.inl rfl))))))))| sent=>exact .inl (.inl (.inl (.inl (.inl (.inr (.inr (.inr (.inr rfl))))))))| rights=>exact .inl (.inl (.inl (.inl (.inr (.inl rfl)))))| copies=>exact .inl (.inl (.inl (.inr (.inl rfl))))| ups=>exact .inl (.inl (.inr (.inl rfl)))| downs=>exact .inl (.inr (.inl rfl))| rt d=>exact .inl (.inl (.inl (.inl (.inr (.inr ⟨d,I,rfl⟩)))))| cp d=>exact .inl (.inl (.inl (.inr (.inr ⟨d,I,rfl⟩))))| up d=>exact .inl (.inl (.inr (.inr ⟨d,I,rfl⟩)))| dn d=>exact .inl (.inr (.inr ⟨d,I,rfl⟩))| b8 p=>exact .inr ⟨p,I,.inl rfl⟩| jn p=>exact .inr ⟨p,I,.inr (.inl rfl)⟩| kh p=>exact .inr ⟨p,I,.inr (.inr rfl)⟩};have G7:=G.weak (ok':=Mb.ok n ns.length) dt trivial trivial;have al:A' .bf=tw:=by{rw[aw _ G5.ot,bq]};refine⟨_,rfl,?_⟩;rw[<-al];exact k A' H' G7.mir G7.sm G7.fr
theorem ajU{i j:Int}(h:i=j):decide (V.int i=V.int j)=true:=decide_eq_true (by rw[h])
theorem ajV{i j:Int}(h:i≠j):decide (V.int i=V.int j)=false:=decide_eq_false λz=>h (V.int.inj z)
theorem VH{ns:List Int}{k:Int}(I:0<=k)(h1:k<(ns.length:Nat)):∃z,S6 (ns.map V.int) k=some (.int z):=by
 obtain⟨j,rfl⟩:∃j:Nat,k=(j:Int):=⟨k.toNat,by lia⟩;have F:j<ns.length:=by{lia};exact⟨ns[j],iH (by rw[getElem?_map,getElem?_eq_getElem F];rfl)⟩
theorem bG.flat(x:bG):x.d.flat:=by cases x<;>simp[bG.d,D.flat,D.flats]
theorem Qx{H:Hp}{b:Addr}{x:bG}(h:H b=some (.tup (bG.vs x))):Rep H (.ref b) x.d:=by
 cases x with| look d p=>simp only[bG.d,Rep,aG];exact⟨b,_,rfl,h,_,_,rfl,rfl,_,_,rfl,rfl,_,_,rfl,rfl,rfl⟩| put d p n=>simp only[bG.d,Rep,aG];exact⟨b,_,rfl,h,_,_,rfl,rfl,_,_,rfl,rfl,_,_,rfl,rfl,_,_,rfl,rfl,rfl⟩| rest d p=>simp only[bG.d,Rep,aG];exact⟨b,_,rfl,h,_,_,rfl,rfl,_,_,rfl,rfl,_,_,rfl,rfl,rfl⟩| up d=>simp only[bG.d,Rep,aG];exact⟨b,_,rfl,h,_,_,rfl,rfl,_,_,rfl,rfl,rfl⟩| down d=>simp only[bG.d,Rep,aG];exact⟨b,_,rfl,h,_,_,rfl,rfl,_,_,rfl,rfl,rfl⟩
theorem Qy{H:Hp}{v:V}{x:bG}(h:Rep H v x.d):∃b,v=.ref b/\H b=some (.tup (bG.vs x)):=by
 cases x with
 | look d p=>simp only[bG.d,Rep,aG]at h;obtain⟨b,xs,rfl,z,_,_,rfl,rfl,_,_,rfl,rfl,_,_,rfl,rfl,rfl⟩:=h;exact⟨b,rfl,z⟩
 | put d p n=>simp only[bG.d,Rep,aG]at h;obtain⟨b,xs,rfl,z,_,_,rfl,rfl,_,_,rfl,rfl,_,_,rfl,rfl,_,_,rfl,rfl,rfl⟩:=h;exact⟨b,rfl,z⟩
 | rest d p=>simp only[bG.d,Rep,aG]at h;obtain⟨b,xs,rfl,z,_,_,rfl,rfl,_,_,rfl,rfl,_,_,rfl,rfl,rfl⟩:=h;exact⟨b,rfl,z⟩
 | up d=>simp only[bG.d,Rep,aG]at h;obtain⟨b,xs,rfl,z,_,_,rfl,rfl,_,_,rfl,rfl,rfl⟩:=h;exact⟨b,rfl,z⟩
 | down d=>simp only[bG.d,Rep,aG]at h;obtain⟨b,xs,rfl,z,_,_,rfl,rfl,_,_,rfl,rfl,rfl⟩:=h;exact⟨b,rfl,z⟩
def DL(H:Hp)(vs:List V)(k:Nat):Prop:=∃ds:List bG,aG H vs (ds.map bG.d)/\ds.length<=k
theorem DL.nil(H:Hp):DL H [] 0:=⟨[],by simp[aG],Nat.le_refl _⟩
theorem DL.aU{H H':Hp}{vs:List V}{k:Nat}(t:cz H H')(h:DL H vs k):DL H' vs k:=by obtain⟨ds,r,l⟩:=h;exact⟨ds,r.aU t (bc bG.flat _),l⟩
theorem DL.more{H:Hp}{vs:List V}{k j:Nat}(h:DL H vs k)(hk:k<=j):DL H vs j:=by obtain⟨ds,r,l⟩:=h;exact⟨ds,r,Nat.le_trans l hk⟩
theorem DL.append{H:Hp}{vs us:List V}{k j:Nat}(a:DL H vs k)(b:DL H us j):DL H (vs++us) (k+j):=by
 obtain⟨ds,r,l⟩:=a;obtain⟨es,z,F⟩:=b;exact⟨ds++es,by rw[map_append];exact r.append z,by rw[length_append];lia⟩
theorem DL.cons{H:Hp}{us:List V}{k:Nat}{b:Addr}(x:bG)(h:H b=some (.tup (bG.vs x)))(r:DL H us k):DL H (.ref b::us) (k+1):=by
 obtain⟨ds,r,l⟩:=r;refine⟨x::ds,?_,by simp;lia⟩;simp only[map_cons,aG];exact⟨_,_,rfl,Qx h,r⟩
theorem DL.one{H:Hp}{b:Addr}(x:bG)(h:H b=some (.tup (bG.vs x))):DL H [.ref b] 1:=DL.cons x h (DL.nil H)
theorem DL.len{H:Hp}{vs:List V}{k:Nat}(h:DL H vs k):vs.length<=k:=by obtain⟨ds,r,l⟩:=h;rw[r.length,length_map];exact l
theorem auo{H:Hp}{d z F:Addr}{us zs fs:List V}{Q:VK}{o:Option (Option V)}(J:o=some (some (.ref F)))(hd:H d=some (.lst us))(hz:H z=some (.lst zs))(L:H F=some (.lst fs))(hl:us.length+zs.length+fs.length<=16000000)
 (k:∀r H',bK H H'->H r=none->H' r=some (.lst (us++zs++fs))->Q (.ref r) H'):awA (.ref d) (.ref z) H λx H1=>∃v,o=some (some v)/\awA x v H1 Q:=by
 have O:sizeLine=16777216:=by{decide};refine⟨d,z,us,zs,rfl,rfl,hd,hz,by lia,λp hp=>⟨_,J,p,F,_,fs,rfl,rfl,aj,aq hp _ _ L,by rw[length_append];lia,λq I=>?_⟩⟩;exact k q _ ((aq hp).trans (aq I)) (Lv.upd _ I) aj
def ax4:Sp:=λvs H Q _=>∃c:Int,∃m:Nat,vs=[.int c,.int m]/\m<=1000/\∀l (ns:List Int) H',ns.length=m->H l=none->bK H H'->H' l=some (.lst (ns.map V.int))->Q (.ref l) H'
def aup:Sp:=λvs H Q _=>∃n:Nat,∃c:Int,vs=[.int n,.int c]/\n<=100/\∀l us H',H l=none->bK H H'->H' l=some (.lst us)->DL H' us (20*n+100)->Q (.ref l) H'
theorem Xb(T:Txt K w mg t):cX P w K mg base mW 1 t.gA t.tM ["_law_cell","_law_pages"] ax4:=by
 refine T.HW.ok sZ (λvs H Q E h=>?_) (λaf A outer s H vs Q E hr h=>?_);{obtain⟨c,m,rfl,_⟩:=h;rfl}
 ·obtain⟨c,m,rfl,hm,k⟩:=h;have sl:sizeLine=16777216:=by{decide};refine⟨_,(ao (bu (i:=2) sZ.nd rfl (Or.inl rfl) (bI fc (bI Bc (pv 0) aB) (bI afk aB aB)))
   (ao (bu (i:=3) sZ.nd rfl (Or.inr rfl) (bJ (aa aB (aa (Vk GD aB) (aa aB (aa (pv 2) (aa (bI Mj aB (pv 2)) ak)))))))
   (aA (aZ (mO (gD (xs:=["_law_k"]) (ys:=["_law_some","_law_cell"]) (js:=[3,0]) rfl ∅ ∅ ∅ (by rfl) ⟨⟨rfl,Or.inl rfl⟩,⟨⟨rfl,Or.inl rfl⟩,trivial⟩⟩) rfl (fU (by rfl) T.jN (aa (pv 1) ak)) (λ_ _ _ _ _=>(cj (i:=0) (show Nodup ((["_law_k"]:List Str)++(["_law_some","_law_cell"]:List Str):List Str)by decide +kernel) rfl (Or.inl rfl))) (λ_ _ _ _ _=>oG) (λ_ _ _ _ _=>(bI jU (aN (aAo (K:=K) (r:=an4) bz rfl) (pv 1) (bI fc (bI jU (pv 2) (pv 0)) aB) (λ_ _=>rfl)) (bI Bc aB (pv 0))))))))),?_⟩
  try dsimp only[dj,Cx.kE]
  show let Z:L2.TS:=_;let Z2:L2.TS:=_;let Z3:L2.TS:=_;let D0:Ends:=_;(aV Z (aV Z2 (Z3))) D0 _ _;intro Z Z2 Z3 D0;refine⟨_,rfl,_,_,rfl,rfl,.inr ⟨by decide,by decide⟩,_,_,rfl,rfl,⟨by decide,by decide,by decide⟩,_,_,rfl,rfl,(show(0:Int)<(10:Int) ^ (30:Int).toNat by decide),?_⟩;refine⟨_,rfl,_,rfl,_,rfl,_,_,rfl,rfl,zz5,λz hz=>?_⟩;have W:∃I:Int,bK H (upd H z (.lst [.int 0,.int (-1),.int 1000000000000,.int (c*48271 % (10:Int) ^ (30:Int).toNat),.int (0 - c*48271 % (10:Int) ^ (30:Int).toNat)]))/\upd H z (.lst [.int 0,.int (-1),.int 1000000000000,.int (c*48271 % (10:Int) ^ (30:Int).toNat),.int (0 - c*48271 % (10:Int) ^ (30:Int).toNat)]) z=some (.lst ([0,-1,1000000000000,I,0 - I].map V.int)):=⟨_,aq hz,aj⟩;obtain⟨I,s1,L⟩:=W;have go:∀H1:Hp,bK H H1->H1 z=some (.lst ([0,-1,1000000000000,I,0 - I].map V.int))->∀J,H1 J=none->GQ (Itr 0 m) (aep 0) aob (Zn (rI0 λi j=>V.int (i+j)) (Zn (an4 K) (jE 1) (Zn (rI (λ_ j=>0<j) λi j=>V.int (i % j)) (Zn (rI0 λi j=>V.int (i+j)) (jE 2) (jE 0)) (tC (V.int 5)))) (Zn (rI apw λi j=>V.int (i*j)) (tC (V.int 5)) (jE 0))) [none,some (.ref z),some (.int c)] J H1 Q:=λH1 s1 L J F => ?go;{refine⟨_,rfl,(m:Int),rfl,(by lia),(by lia),λJ F=>?_⟩;exact go _ s1 L J F};let W9:Nat->List V->St->Hp->Prop:=λi zs Y H'=>(∃o,Y=[o,some (.ref z),some (.int c)])/\bK H1 H'/\H' J=some (.lst zs)/\∃ns:List Int,ns.length=i/\zs=ns.map V.int;refine Bh W9 ?_ ?_ ?_ ?_;{exact⟨⟨_,rfl⟩,aq F,aj,[],rfl,rfl⟩};{rintro i zs Y H' _ ⟨_,_,h,_⟩;exact h};{rintro i zs Y H' hi ⟨⟨o,rfl⟩,s',O,ns,hl,rfl⟩;obtain⟨y,hy⟩:=VH (ns:=[0,-1,1000000000000,I,0 - I]) (k:=(c+(0+(i:Int))) % 5) (by lia) (by show _<((5:Nat):Int);lia);refine O9 ⟨_,rfl,_,rfl,_,rfl,_,_,rfl,rfl,_,_,rfl,rfl,(show(0:Int)<5 by decide),z,_,_,_,rfl,rfl,bU.of (s' _ _ L),hy,_,rfl,_,_,rfl,rfl,.inl ⟨by decide,by decide⟩,_,_,rfl,rfl,?_⟩;refine wK.mk hi O (by rw[length_map];lia) ⟨⟨_,rfl⟩,dB s' F,aj,ns++[y+5*(0+(i:Int))],by rw[length_append,hl];rfl,by rw[map_append];rfl⟩};{rintro zs Y H' ⟨_,s',O,ns,hl,rfl⟩;exact k J ns H' hl (bK.free s1 F) (s1.trans s') O}
theorem T9(T:Txt K w mg t):cX P w K mg base mW 1 t.fP t.qO ["_law_count","_law_cell"] aup:=by
 refine T.DX.ok c7 (λvs H Q E h=>?_) (λcI A outer s H vs Q E hr h=>?_);{obtain⟨n,c,rfl,_⟩:=h;rfl}
 ·obtain⟨n,c,rfl,hn,k⟩:=h;have sl:sizeLine=16777216:=by{decide};refine' ⟨_,?sr,?_⟩;case' sr=>refine' ao ?bg ?MF
  case' MF=>refine' ao ?bh ?MJ
  case' MJ=>refine' ao ?bi ?MK
  case' MK=>refine' ao ?bj ?bl
  case' bl=>refine' ao ?bn ?bo
  case' bo=>refine' ao ?bp ?bq
  case' bq=>refine' ao ?br ?bt
  case' bt=>refine' ao ?bv ?bx
  case' bx=>refine' ao ?bA ?bB
  case' bB=>refine' ao ?bC ?bD
  case' bD=>refine' aA ?bE
  case' bg=>exact(bu (i:=2) c7.nd rfl (Or.inl rfl) (bI Mj (pv 0) aB))
  case' bh=>exact(bu (i:=3) c7.nd rfl (Or.inl rfl) (bJ ak))
  case' bi=>refine' mU PassesOwn.never rfl (fU (by rfl) T.jN (aa (pv 0) ak)) (cj (i:=4) c7.nd rfl (Or.inl rfl)) ?bF
  case' bF=>refine' aA ?bL
  case' bL=>exact(bN (dZ plainAttrs_list PySem.F.slot_list_extend PySem.F.type_list_extend mY (pv 3) (aa (bJ (aa (b7 (aa aC (aa (pv 4) ak))) (aa (b7 (aa aC (aa (pv 4) ak))) ak))) ak)))
  case' bj=>exact(bu (i:=3) c7.nd rfl (Or.inl rfl) (bI mV (pv 3) (pv 3)))
  case' bn=>exact(bu (i:=5) c7.nd rfl (Or.inl rfl) (bJ ak))
  case' bp=>refine' mU PassesOwn.never rfl (fU (by rfl) T.jN (aa (pv 0) ak)) (cj (i:=4) c7.nd rfl (Or.inl rfl)) ?bO
  case' bO=>refine' aA ?bP
  case' bP=>exact(bN (dZ plainAttrs_list PySem.F.slot_list_extend PySem.F.type_list_extend mY (pv 5) (aa (bJ (aa (b7 (aa aC (aa (pv 4) (aa aB ak)))) (aa (b7 (aa aC (aa (pv 4) ak))) (aa (b7 (aa aC (aa (pv 4) ak))) ak)))) ak)))
  case' br=>exact(bu (i:=5) c7.nd rfl (Or.inl rfl) (bI mV (pv 5) (bJ (aa (b7 (aa aC (aa aB (aa aB ak)))) (aa (b7 (aa aC (aa aB (aa aB ak)))) (aa (b7 (aa aC (aa aB ak))) (aa (b7 (aa aC (aa aB ak))) ak)))))))
  case' bv=>exact(bu (i:=5) c7.nd rfl (Or.inl rfl) (bI mV (bI mV (pv 5) (bJ (aa (b7 (aa aC (aa (pv 2) (aa aB (aa (aN bz (bJ (aa aB (aa aB ak))) (bI fc (pv 1) aB) (λ_ _=>rfl)) ak))))) (aa (b7 (aa aC (aa (pv 2) ak))) ak)))) (pv 3)))
  case' bA=>exact(bY (aP cQ (bI fc (bI j9 (pv 1) aB) aB) aB (aY _)) (aA (bu (i:=5) c7.nd rfl (Or.inl rfl) (bI mV (bI mV (pv 5) (bJ (aa (b7 (aa aC (aa (pv 2) (aa aB ak)))) ak))) (pv 3)))) bw)
  case' bC=>exact(bu (i:=5) c7.nd rfl (Or.inl rfl) (bI mV (bI mV (pv 5) (bJ (aa (b7 (aa aC (aa aB (aa aB ak)))) (aa (b7 (aa aC (aa aB ak))) ak)))) (pv 3)))
  case' bE=>exact(aZ (bI mV (bI mV (pv 5) (bJ (aa (b7 (aa aC (aa aB (aa aB (aa aB ak))))) (aa (b7 (aa aC (aa aB ak))) ak)))) (pv 3)))
  try dsimp only[dj,Cx.kE]
  show let Z1:L2.TS:=_;let Z2:L2.TS:=_;let Z3:L2.TS:=_;let Z4:L2.TS:=J3 _ _ Z3;let Z5:L2.TS:=_;let Z6:L2.TS:=_;let Z7:L2.TS:=_;let Z8:L2.TS:=J3 _ _ Z7;let Z9:L2.TS:=_;let z8:L2.TS:=_;let KC:L2.TS:=_;let KD:L2.TS:=cR _ KC bM;let Qv:L2.TS:=_;let Qw:L2.TS:=_;let D0:Ends:=_;(aV Z1 (aV Z2 (aV Z4 (aV Z5 (aV Z6 (aV Z8 (aV Z9 (aV z8 (aV KD (aV Qv (Qw))))))))))) D0 _ _;intro Z1 Z2 Z3 Z4 Z5 Z6 Z7 Z8 Z9 z8 KC KD Qv Qw D0;refine⟨_,rfl,_,_,rfl,rfl,?_⟩;refine⟨wF,λfl hfl=>?_⟩;have nb : -(2 ^ 62)<=((n:Nat):Int)/\((n:Nat):Int)<2 ^ 62:=⟨by lia,by lia⟩;refine⟨_,rfl,(n:Int),rfl,nb.1,nb.2,?_⟩;rw[Int.toNat_natCast];let bQ:Nat->St->Hp->Prop:=λi al H'=>(∃o4,al=[some (.int n),some (.int c),some (.int ((n:Int) - 1)),some (.ref fl),o4,none])/\bK H H'/\∃us,H' fl=some (.lst us)/\DL H' us (2*i);refine qC bQ ?_ ?_ ?_;{exact⟨⟨_,rfl⟩,aq hfl,[],aj,DL.nil _⟩};{rintro i al H' hi ⟨⟨o4,rfl⟩,s',us,Z,dl⟩;refine⟨_,rfl,.inl ⟨rfl,_,bU.of Z⟩,⟨_,rfl,sS,λJ h1=>⟨_,rfl,sS,λL h2=>⟨sS,λz W=>?_⟩⟩⟩⟩;have sa:=((aq h1).trans (aq h2)).trans (aq (o:=.lst [.ref J,.ref L]) W);have aM:=dl.len;refine⟨fl,z,us,_,rfl,rfl,sa _ _ Z,.inl (bU.of aj),by simp only[length_cons,length_nil];lia,?_⟩;have bR:J≠L:=λq=>by{rw[<-q,aj]at h2;cases h2};have c1:(upd (upd H' J (.tup [.str "down",.int (0+(i:Int))])) L (.tup [.str "up",.int (0+(i:Int))])) J=some (.tup (bG.down (0+(i:Int))).vs):=by{rw[az bR,aj];rfl};have c2:(upd (upd H' J (.tup [.str "down",.int (0+(i:Int))])) L (.tup [.str "up",.int (0+(i:Int))])) L=some (.tup (bG.up (0+(i:Int))).vs):=by{rw[aj];rfl};have sz:=aq (o:=.lst [.ref J,.ref L]) W;have tl:=iB (vs:=us++[.ref J,.ref L]) (sa _ _ Z);refine⟨⟨_,rfl⟩,dB (s'.trans sa) hfl,_,aj,?_⟩;have:=((dl.aU (aQ sa)).append (DL.cons _ (sz _ _ c1) (DL.one _ (sz _ _ c2)))).aU tl;exact this.more (by lia)}
  ·rintro al H1 ⟨⟨o4,rfl⟩,s1,us,aO,aw⟩;have cM:=aw.len;refine⟨_,rfl,_,rfl,fl,fl,us,us,rfl,rfl,aO,aO,by lia,λac aR=>?_⟩;have s2:=s1.trans (aq (o:=.lst (us++us)) aR);have ax:DL (upd H1 ac (.lst (us++us))) (us++us) (4*n):=((aw.append aw).more (by lia)).aU (aQ (aq aR));have ay:upd H1 ac (.lst (us++us)) ac=some (.lst (us++us)):=aj;generalize upd H1 ac (.lst (us++us))=H2 at s2 ax ay;generalize us++us=fs at ax ay;refine⟨wF,λde aD=>?_⟩;have cA:H de=none:=bK.free s2 aD;have s3:=aq (o:=.lst []) aD;refine⟨_,rfl,(n:Int),rfl,nb.1,nb.2,?_⟩;rw[Int.toNat_natCast];let bT:Nat->St->Hp->Prop:=λi al H'=>(∃o4,al=[some (.int n),some (.int c),some (.int ((n:Int) - 1)),some (.ref ac),o4,some (.ref de)])/\bK H2 H'/\∃us,H' de=some (.lst us)/\DL H' us (3*i);refine qC bT ?_ ?_ ?_;{exact⟨⟨_,rfl⟩,s3,[],aj,DL.nil _⟩};{rintro i al H' hi ⟨⟨o4,rfl⟩,s',us,Z,dl⟩;refine⟨_,rfl,.inl ⟨rfl,_,bU.of Z⟩,⟨_,rfl,Zh,λJ h1=>⟨_,rfl,sS,λL h2=>⟨_,rfl,sS,λb3 h3=>⟨Zh,λz W=>?_⟩⟩⟩⟩⟩;have I:=aq (o:=.tup [.str "up",.int (0+(i:Int))]) h2;have Y:=aq (o:=.tup [.str "down",.int (0+(i:Int))]) h3;have sz:=aq (o:=.lst [.ref J,.ref L,.ref b3]) W;have sa:=(((aq h1).trans I).trans Y).trans sz;have aM:=dl.len;have c1:=sz _ _ (Y _ _ (I _ _ (show upd H' J (.tup [.str "look",.int (0+(i:Int)),.int 0]) J=some (.tup (bG.look (0+(i:Int)) 0).vs)from aj)));have c2:=sz _ _ (Y _ _ (show _=some (.tup (bG.up (0+(i:Int))).vs)from aj));have c3:=sz _ _ (show _=some (.tup (bG.down (0+(i:Int))).vs)from aj);refine⟨de,z,us,_,rfl,rfl,sa _ _ Z,.inl (bU.of aj),by simp only[length_cons,length_nil];lia,?_⟩;have tl:=iB (vs:=us++[.ref J,.ref L,.ref b3]) (sa _ _ Z);refine⟨⟨_,rfl⟩,dB (s'.trans sa) aD,_,aj,?_⟩;have:=((dl.aU (aQ sa)).append (DL.cons _ c1 (DL.cons _ c2 (DL.one _ c3)))).aU tl;exact this.more (by lia)}
   ·rintro al H3 ⟨⟨o4,rfl⟩,ap,af,aT,aE⟩;have aW:=ap _ _ ay;have aX:=ax.aU (aQ ap);have a1:=s2.trans ap;have bW:=aE.len;refine⟨_,rfl,⟨Zh,λJ h1=>⟨Zh,λL h2=>⟨sS,λb3 h3=>⟨sS,λb4 h4=>⟨zz4,λz W=>?_⟩⟩⟩⟩⟩⟩;have I:=aq (o:=.tup [.str "look",.int 0,.int 0]) h2;have Y:=aq (o:=.tup [.str "up",.int 0]) h3;have ag:=aq (o:=.tup [.str "down",.int 0]) h4;have sz:=aq (o:=.lst [.ref J,.ref L,.ref b3,.ref b4]) W;have sa:=((((aq h1).trans I).trans Y).trans ag).trans sz;have c1:=sz _ _ (ag _ _ (Y _ _ (I _ _ (show upd H3 J (.tup [.str "rest",.int 0,.int 0]) J=some (.tup (bG.rest 0 0).vs)from aj))));have c2:=sz _ _ (ag _ _ (Y _ _ (show _=some (.tup (bG.look 0 0).vs)from aj)));have c3:=sz _ _ (ag _ _ (show _=some (.tup (bG.up 0).vs)from aj));have c4:=sz _ _ (show _=some (.tup (bG.down 0).vs)from aj);refine⟨de,z,af,_,rfl,rfl,sa _ _ aT,aj,by simp only[length_cons,length_nil];lia,λd4 a2=>?_⟩;have s4:=aq (o:=.lst (af++[.ref J,.ref L,.ref b3,.ref b4])) a2;have ah:=((aE.aU (aQ sa)).append (DL.cons _ c1 (DL.cons _ c2 (DL.cons _ c3 (DL.one _ c4))))).aU (aQ s4);have ai:=aX.aU (aQ (sa.trans s4));have ar:=(sa.trans s4) _ _ aW;have aF:=a1.trans (sa.trans s4);have as:upd (upd (upd (upd (upd (upd H3 J (.tup [.str "rest",.int 0,.int 0])) L (.tup [.str "look",.int 0,.int 0])) b3 (.tup [.str "up",.int 0])) b4 (.tup [.str "down",.int 0])) z (.lst [.ref J,.ref L,.ref b3,.ref b4])) d4 (.lst (af++[.ref J,.ref L,.ref b3,.ref b4])) d4=some (.lst (af++[.ref J,.ref L,.ref b3,.ref b4])):=aj;generalize upd (upd (upd (upd (upd (upd H3 J (.tup [.str "rest",.int 0,.int 0])) L (.tup [.str "look",.int 0,.int 0])) b3 (.tup [.str "up",.int 0])) b4 (.tup [.str "down",.int 0])) z (.lst [.ref J,.ref L,.ref b3,.ref b4])) d4 (.lst (af++[.ref J,.ref L,.ref b3,.ref b4]))=H4 at ah ai ar aF as;generalize af++[.ref J,.ref L,.ref b3,.ref b4]=u4 at ah as;clear I Y ag sz sa c1 c2 c3 c4 s4 h1 h2 h3 h4 W a2 aE aX aW a1 aT ap bW;have bZ:=ah.len;have cP:=ai.len;have b0:∃x:Int,S6 ([V.int 0,V.int 5]:List V) (c % 2)=some (.int x):=by{have:c % 2=0\/c % 2=1:=by{lia};rcases this with e | e<;>rw[e]<;>exact⟨_,rfl⟩};obtain⟨px,b5⟩:=b0;refine⟨_,rfl,_,rfl,⟨sS,λy hy=>⟨_,rfl,_,_,rfl,rfl,(show(0:Int)<2 by decide),y,_,_,_,rfl,rfl,bU.of aj,b5,zz4,λJ h1=>⟨_,rfl,sS,λL h2=>⟨sS,λz W=>?_⟩⟩⟩⟩⟩;have sy:=aq (o:=.lst [.int 0,.int 5]) hy;have O:=aq (o:=.tup [.str "put",.int ((n:Int) - 1),.int 0,.int px]) h1;have I:=aq (o:=.tup [.str "up",.int ((n:Int) - 1)]) h2;have sz:=aq (o:=.lst [.ref J,.ref L]) W;have sa:=((sy.trans O).trans I).trans sz;have c1:=sz _ _ (I _ _ (show _=some (.tup (bG.put ((n:Int) - 1) 0 px).vs)from aj));have c2:=sz _ _ (show _=some (.tup (bG.up ((n:Int) - 1)).vs)from aj);refine auo rfl (sa _ _ as) aj (sa _ _ ar) (by simp only[length_cons,length_nil];lia) λd5 H5 s5 b6 aG=>?_;have au:DL H5 _ _:=(((ah.aU (aQ sa)).append (DL.cons _ c1 (DL.one _ c2))).append (ai.aU (aQ sa))).aU (aQ s5);have aH:=ai.aU (aQ (sa.trans s5));have aI:=(sa.trans s5) _ _ ar;have a5:=aF.trans (sa.trans s5);generalize (u4++[.ref J,.ref L])++fs=u5 at au aG;clear sy O I sz sa c1 c2 s5 hy h1 h2 W b6 ah ai ar aF as bZ;have cU:=au.len;try dsimp only[bM]
    refine gF (λal H'=>∃o4 d6 aJ,al=[some (.int n),some (.int c),some (.int ((n:Int) - 1)),some (.ref ac),o4,some (.ref d6)]/\bK H H'/\H' ac=some (.lst fs)/\DL H' fs (4*n)/\H' d6=some (.lst aJ)/\DL H' aJ (11*n+20)) (λN hN=>?_) ?_;{refine⟨_,rfl,_,_,rfl,rfl,⟨by decide,by decide⟩,_,_,rfl,rfl,(show(0:Int)<3 by decide),rfl,_,rfl,?_⟩;by_cases e:c / 2 % 3=1;{refine bH (ajU e) ?_;refine⟨_,rfl,⟨_,rfl,Zh,λJ h1=>⟨zz1,λz W=>?_⟩⟩⟩;have O:=aq (o:=.tup [.str "rest",.int ((n:Int) - 1),.int 0]) h1;have sz:=aq (o:=.lst [.ref J]) W;have sa:=O.trans sz;have c1:=sz _ _ (show _=some (.tup (bG.rest ((n:Int) - 1) 0).vs)from aj);refine auo rfl (sa _ _ aG) aj (sa _ _ aI) (by simp only[length_cons,length_nil];lia) λd6 H6 s6 a7 b8=>?_;have av:DL H6 _ _:=(((au.aU (aQ sa)).append (DL.one _ c1)).append (aH.aU (aQ sa))).aU (aQ s6);exact hN _ _ ⟨_,d6,_,rfl,a5.trans (sa.trans s6),(sa.trans s6) _ _ aI,aH.aU (aQ (sa.trans s6)),b8,av.more (by lia)⟩};{refine aL (ajV e) ?_;exact hN _ _ ⟨_,d5,_,rfl,a5,aI,aH,aG,au.more (by lia)⟩}};{rintro al H6 ⟨cV,d6,aJ,rfl,b9,a8,a9,a7,av⟩;have cW:=av.len;refine⟨_,rfl,⟨Zh,λJ h1=>⟨sS,λL h2=>⟨sS,λz W=>?_⟩⟩⟩⟩;have O:=aq (o:=.tup [.str "look",.int 0,.int 0]) h1;have I:=aq (o:=.tup [.str "up",.int 0]) h2;have sz:=aq (o:=.lst [.ref J,.ref L]) W;have sa:=(O.trans I).trans sz;have c1:=sz _ _ (I _ _ (show _=some (.tup (bG.look 0 0).vs)from aj));have c2:=sz _ _ (show _=some (.tup (bG.up 0).vs)from aj);refine auo rfl (sa _ _ a7) aj (sa _ _ a8) (by simp only[length_cons,length_nil];lia) λd7 H7 s7 ca cb=>?_;have bb:DL H7 _ _:=(((av.aU (aQ sa)).append (DL.cons _ c1 (DL.one _ c2))).append (a9.aU (aQ sa))).aU (aQ s7);have cc:=a9.aU (aQ (sa.trans s7));have ce:=(sa.trans s7) _ _ a8;have bc:=b9.trans (sa.trans s7);have cZ:=bb.len;clear O I sz sa c1 c2 s7 h1 h2 W ca;refine⟨_,rfl,⟨zz4,λe1 h1=>⟨sS,λe2 h2=>⟨sS,λz2 W=>?_⟩⟩⟩⟩;have O:=aq (o:=.tup [.str "put",.int 0,.int 0,.int 7]) h1;have I:=aq (o:=.tup [.str "up",.int 0]) h2;have sz:=aq (o:=.lst [.ref e1,.ref e2]) W;have sa:=(O.trans I).trans sz;have c1:=sz _ _ (I _ _ (show _=some (.tup (bG.put 0 0 7).vs)from aj));have c2:=sz _ _ (show _=some (.tup (bG.up 0).vs)from aj);refine auo rfl (sa _ _ cb) aj (sa _ _ ce) (by simp only[length_cons,length_nil];lia) λd8 H8 s8 cf cg=>?_;have ch:DL H8 _ _:=(((bb.aU (aQ sa)).append (DL.cons _ c1 (DL.one _ c2))).append (cc.aU (aQ sa))).aU (aQ s8);exact k d8 _ H8 (bK.free (bc.trans sa) cf) (bc.trans (sa.trans s8)) cg (ch.more (by lia))}
def auy:Sp:=λvs H Q _=>∃l,∃n m:Nat,∃cs:List Int,vs=[.ref l,.int n,.int m]/\H l=some (.lst (cs.map V.int))/\0<n/\n<=100/\0<m/\m<=100/\cs.length<=100/\
 ∀r us H',H r=none->bK H H'->H' r=some (.lst us)->DL H' us (4*(cs.length / 3))->Q (.ref r) H'
def yW:List V:=[.str "look",.str "put",.str "up",.str "down",.str "put",.str "look",.str "rest",.str "down"]
theorem ard{j:Int}(z:0<=j)(h1:j<8):∃s:Str,S6 yW j=some (.str s)/\(s="put"\/s="look"\/s="rest"\/s="up"\/s="down"):=by
 have:j=0\/j=1\/j=2\/j=3\/j=4\/j=5\/j=6\/j=7:=by{lia};rcases this with rfl | rfl | rfl | rfl | rfl | rfl | rfl | rfl;{exact⟨_,rfl,.inr (.inl rfl)⟩};{exact⟨_,rfl,.inl rfl⟩};{exact⟨_,rfl,.inr (.inr (.inr (.inl rfl)))⟩};{exact⟨_,rfl,.inr (.inr (.inr (.inr rfl)))⟩};{exact⟨_,rfl,.inl rfl⟩};{exact⟨_,rfl,.inr (.inl rfl)⟩};{exact⟨_,rfl,.inr (.inr (.inl rfl))⟩};{exact⟨_,rfl,.inr (.inr (.inr (.inr rfl)))⟩}
set_option maxHeartbeats 8000000 in
theorem ac0(T:Txt K w mg t):cX P w K mg base mW 1 t.jg t.yM ["_law_cells","_law_count","_law_pages"] auy:=by
 refine T.Ql.ok cD (λvs H Q E h=>?_) (λdM A outer s H vs Q E hr h=>?_);{obtain⟨l,n,m,cs,rfl,_⟩:=h;rfl}
 ·obtain⟨l,n,m,cs,rfl,hl,dN,hn,dO,hm,dP,k⟩:=h;have sl:sizeLine=16777216:=by{decide};refine' ⟨_,?sr,?_⟩;case' sr=>refine' ao ?bF ?MF
  case' MF=>refine' ao ?bL ?MJ
  case' MJ=>refine' ao ?bO ?MK
  case' MK=>refine' aA ?bP
  case' bF=>exact(bu (i:=3) cD.nd rfl (Or.inl rfl) (bJ (aa aC (aa aC (aa aC (aa aC (aa aC (aa aC (aa aC (aa aC ak))))))))))
  case' bL=>exact(bu (i:=4) cD.nd rfl (Or.inl rfl) (bJ ak))
  case' bO=>refine' mU PassesOwn.never rfl (fU (by rfl) T.jN (aa (bI j9 (cG cJ (by rfl) T.pL PySem.boot_len (aa (pv 0) ak)) aB) ak)) (cj (i:=5) cD.nd rfl (Or.inl rfl)) ?bQ
  case' bQ=>refine' ao ?bR ?bS
  case' bS=>refine' ao ?bT ?bV
  case' bV=>refine' ao ?bW ?bX
  case' bX=>refine' ao ?bZ ?b0
  case' b0=>refine' ao ?b1 ?b3
  case' b3=>refine' ao ?b4 ?b5
  case' b5=>refine' ao ?b6 ?b8
  case' b8=>refine' ao ?b9 ?ca
  case' ca=>refine' ao ?cb ?cc
  case' cc=>refine' aA ?ce
  case' bR=>exact(bu (i:=6) cD.nd rfl (Or.inl rfl) (bI jU (bI j9 (aN bz (pv 0) (bI Bc aB (pv 5)) (λ_ _=>rfl)) aB) (pv 5)))
  case' bT=>exact(bu (i:=7) cD.nd rfl (Or.inl rfl) (bI jU (aN bz (pv 0) (bI jU (bI Bc aB (pv 5)) aB) (λ_ _=>rfl)) (pv 5)))
  case' bW=>exact(bu (i:=8) cD.nd rfl (Or.inl rfl) (bI jU (aN bz (pv 0) (bI jU (bI Bc aB (pv 5)) aB) (λ_ _=>rfl)) (pv 5)))
  case' bZ=>exact(bu (i:=9) cD.nd rfl (Or.inl rfl) (aN bz (pv 3) (bI fc (bI jU (aN bz (pv 0) (bI Bc aB (pv 5)) (λ_ _=>rfl)) (bI Bc aB (pv 5))) aB) (λ_ _=>rfl)))
  case' b1=>exact(bu (i:=10) cD.nd rfl (Or.inl rfl) (bI fc (pv 6) (pv 1)))
  case' b4=>exact(bu (i:=11) cD.nd rfl (Or.inl rfl) (bI fc (pv 7) (pv 2)))
  case' b6=>refine' bY (aP cQ (bI fc (bI j9 (pv 8) aB) aB) aB (aY _)) ?cf ?cg
  case' cf=>refine' ao ?ch ?ci
  case' ci=>refine' aA ?ck
  case' ch=>exact(bu (i:=12) cD.nd rfl (Or.inl rfl) (bI fc (pv 6) (bI afk aB aB)))
  case' ck=>exact(bu (i:=10) cD.nd rfl (Or.inl rfl) (aN bz (bJ (aa (Vk GD aB) (aa (pv 1) (aa aB (aa (bI Mj (Vk GD aB) (pv 12)) (aa (bI jU (pv 1) (pv 12)) ak)))))) (bI fc (pv 6) aB) (λ_ _=>rfl)))
  case' cg=>exact bw
  case' b9=>refine' bY (aP cQ (bI fc (bI j9 (pv 8) aB) aB) aB (aY _)) ?cl ?cm
  case' cl=>refine' ao ?cn ?co
  case' co=>refine' aA ?cq
  case' cn=>exact(bu (i:=12) cD.nd rfl (Or.inl rfl) (bI fc (pv 7) (bI afk aB aB)))
  case' cq=>exact(bu (i:=11) cD.nd rfl (Or.inl rfl) (aN bz (bJ (aa (Vk GD aB) (aa (pv 2) (aa aB (aa (bI Mj (Vk GD aB) (pv 12)) (aa (bI jU (pv 2) (pv 12)) ak)))))) (bI fc (pv 7) aB) (λ_ _=>rfl)))
  case' cm=>exact bw
  case' cb=>refine' bY (aP cQ (pv 9) aC (aY _)) ?cr ?cv
  case' cr=>refine' ao ?cw ?cx
  case' cx=>refine' ao ?cy ?cz
  case' cz=>refine' ao ?cA ?cB
  case' cB=>refine' ao ?cC ?cE
  case' cE=>refine' aA ?cF
  case' cw=>exact(bu (i:=13) cD.nd rfl (Or.inl rfl) (bI Mj (bI fc (bI jU (bI j9 (pv 7) aB) (bI Bc aB (pv 5))) aB) aB))
  case' cy=>refine' bY (aP avs (pv 13) aB (aY _)) ?cH ?cI
  case' cH=>refine' aA ?cK
  case' cK=>exact(bu (i:=13) cD.nd rfl (Or.inl rfl) aB)
  case' cI=>refine' aA ?cL
  case' cL=>exact(bY (aP avs (pv 13) aB (aY _)) (aA (bu (i:=13) cD.nd rfl (Or.inl rfl) (bI jU aB (pv 13)))) bw)
  case' cA=>exact(bu (i:=14) cD.nd rfl (Or.inl rfl) (bI fc (bI Bc (pv 7) aB) (bI afk aB aB)))
  case' cC=>exact(bu (i:=13) cD.nd rfl (Or.inl rfl) (aN bz (bJ (aa (pv 13) (aa (pv 13) (aa (pv 14) (aa (bI Mj aB (pv 14)) ak))))) (bI fc (pv 6) aB) (λ_ _=>rfl)))
  case' cF=>exact(bN (dZ plainAttrs_list PySem.F.slot_list_append PySem.F.type_list_append cu (pv 4) (aa (b7 (aa (pv 9) (aa (pv 10) (aa (pv 11) (aa (pv 13) ak))))) ak)))
  case' cv=>refine' aA ?cM
  case' cM=>refine' bY (PW.pt (nJ (aP cQ (pv 9) aC (aY _)) (lZ (aP cQ (pv 9) aC (aY _))))) ?cN ?cO
  case' cN=>refine' ao ?cP ?cS
  case' cS=>refine' aA ?cT
  case' cP=>exact(bN (dZ plainAttrs_list PySem.F.slot_list_append PySem.F.type_list_append cu (pv 4) (aa (b7 (aa (pv 9) (aa (pv 10) (aa (pv 11) ak)))) ak)))
  case' cT=>exact(bY (PW.pt (Gy (aP cQ (pv 9) aC (aY _)) (Ba (aP cQ (bI fc (bI j9 (pv 7) aB) aB) aB (aY _))))) (aA (bN (dZ plainAttrs_list PySem.F.slot_list_append PySem.F.type_list_append cu (pv 4) (aa (b7 (aa aC (aa (pv 10) (aa (pv 11) ak)))) ak)))) bw)
  case' cO=>refine' aA ?cU
  case' cU=>exact(bN (dZ plainAttrs_list PySem.F.slot_list_append PySem.F.type_list_append cu (pv 4) (aa (b7 (aa (pv 9) (aa (pv 10) ak))) ak)))
  case' ce=>refine' bY (aP Vl (bI fc (pv 8) aB) aB (aY _)) ?cV ?cW
  case' cV=>refine' ao ?cY ?cZ
  case' cZ=>refine' aA ?c0
  case' cY=>exact(bN (dZ plainAttrs_list PySem.F.slot_list_append PySem.F.type_list_append cu (pv 4) (aa (b7 (aa aC (aa (bI fc (pv 8) (pv 1)) ak))) ak)))
  case' c0=>exact(bN (dZ plainAttrs_list PySem.F.slot_list_append PySem.F.type_list_append cu (pv 4) (aa (b7 (aa aC (aa (bI fc (bI jU (bI j9 (pv 8) aB) (pv 5)) (pv 1)) ak))) ak)))
  case' cW=>exact bw
  case' bP=>exact(aZ (pv 4))
  try dsimp only[dj,Cx.kE]
  show let Z1:L2.TS:=_;let Z2:L2.TS:=_;let Z3:L2.TS:=_;let Z4:L2.TS:=_;let Z5:L2.TS:=_;let Z6:L2.TS:=_;let Z7:L2.TS:=_;let Z8:L2.TS:=_;let Z9:L2.TS:=_;let z8:L2.TS:=_;let KC:L2.TS:=aV Z9 (z8);let KD:L2.TS:=cR _ KC bM;let Qv:L2.TS:=_;let Qw:L2.TS:=_;let aM:L2.TS:=aV Qv (Qw);let aO:L2.TS:=cR _ aM bM;let aR:L2.TS:=_;let aS:L2.TS:=_;let aT:L2.TS:=_;let aW:L2.TS:=cR _ aT bM;let aX:L2.TS:=cR _ aS aW;let a1:L2.TS:=_;let a2:L2.TS:=_;let a3:L2.TS:=_;let a4:L2.TS:=aV aR (aV aX (aV a1 (aV a2 (a3))));let a5:L2.TS:=_;let a6:L2.TS:=_;let a7:L2.TS:=cR _ a6 bM;let a8:L2.TS:=aV a5 (a7);let a9:L2.TS:=_;let ba:L2.TS:=cR _ a8 a9;let bb:L2.TS:=cR _ a4 ba;let bc:L2.TS:=_;let bd:L2.TS:=_;let be:L2.TS:=aV bc (bd);let bf:L2.TS:=cR _ be bM;let bg:L2.TS:=aV Z3 (aV Z4 (aV Z5 (aV Z6 (aV Z7 (aV Z8 (aV KD (aV aO (aV bb (bf)))))))));let bh:L2.TS:=J3 _ _ bg;let bi:L2.TS:=_;let D0:Ends:=_;(aV Z1 (aV Z2 (aV bh (bi)))) D0 _ _;intro Z1 Z2 Z3 Z4 Z5 Z6 Z7 Z8 Z9 z8 KC KD Qv Qw aM aO aR aS aT aW aX a1 a2 a3 a4 a5 a6 a7 a8 a9 ba bb bc bd be bf bg bh bi D0;refine⟨zz8,λwl c1=>⟨wF,λI has=>?_⟩⟩;have sw:=aq (o:=.lst yW) c1;have bj:wl≠I:=λz=>by{rw[<-z,aj]at has;cases has};have bl:H I=none:=Lv.upd _ has;have s0:bK H (upd (upd H wl (.lst yW)) I (.lst [])):=sw.trans (aq has);have c2:upd (upd H wl (.lst yW)) I (.lst []) wl=some (.lst yW):=by{rw[az bj,aj]};refine⟨_,rfl,l,_,rfl,.inl (bU.of (s0 _ _ hl)),_,_,rfl,rfl,⟨by decide,by decide⟩,((cs.length / 3:Nat):Int),by rw[length_map];rfl,(by lia),(by lia),?_⟩;rw[Int.toNat_natCast];let W9:Nat->St->Hp->Prop:=λi ad H'=>(∃o5 o6 o7 o8 o9 ax ay aD af ae,ad=[some (.ref l),some (.int n),some (.int m),some (.ref wl),some (.ref I),o5,o6,o7,o8,o9,ax,ay,aD,af,ae])/\bK H H'/\H' wl=some (.lst yW)/\∃us,H' I=some (.lst us)/\DL H' us (4*i);refine qC W9 ?_ ?_ ?_;{exact⟨⟨_,_,_,_,_,_,_,_,_,_,rfl⟩,s0,c2,[],aj,DL.nil _⟩}
  ·rintro i ad H' hi ⟨⟨o5,o6,o7,o8,o9,ax,ay,aD,af,ae,rfl⟩,s',bn,us,aE,dl⟩;have aw:=s' _ _ hl;have dU:=dl.len;obtain⟨x0,bo⟩:=VH (ns:=cs) (k:=3*(0+(i:Int))) (by lia) (by lia);obtain⟨x1,c8⟩:=VH (ns:=cs) (k:=3*(0+(i:Int))+1) (by lia) (by lia);obtain⟨x2,c9⟩:=VH (ns:=cs) (k:=3*(0+(i:Int))+2) (by lia) (by lia);obtain⟨aG,da,db⟩:=ard (j:=(x0+3*(0+(i:Int))) % 8) (by lia) (by lia);have M5:apw 3 (0+(i:Int)):=.inl ⟨by decide,by decide⟩;refine⟨_,rfl,_,rfl,_,_,rfl,rfl,M5,l,_,_,_,rfl,rfl,bU.of aw,bo,_,_,rfl,rfl,⟨by decide,by decide⟩,_,rfl,_,_,rfl,rfl,?_⟩;refine⟨_,rfl,_,rfl,_,_,rfl,rfl,M5,_,_,rfl,rfl,l,_,_,_,rfl,rfl,bU.of aw,c8,_,rfl,_,_,rfl,rfl,?_⟩;refine⟨_,rfl,_,rfl,_,_,rfl,rfl,M5,_,_,rfl,rfl,l,_,_,_,rfl,rfl,bU.of aw,c9,_,rfl,_,_,rfl,rfl,?_⟩;refine⟨_,rfl,_,rfl,_,rfl,_,_,rfl,rfl,M5,l,_,_,_,rfl,rfl,bU.of aw,bo,_,rfl,_,_,rfl,rfl,M5,_,_,rfl,rfl,_,_,rfl,rfl,(show(0:Int)<8 by decide),wl,_,_,_,rfl,rfl,bU.of bn,da,?_⟩;refine⟨_,rfl,_,rfl,_,_,rfl,rfl,(show(0:Int)<n by lia),?_⟩;refine⟨_,rfl,_,rfl,_,_,rfl,rfl,(show(0:Int)<m by lia),?_⟩;have aH:(0:Int)<(10:Int) ^ (30:Int).toNat:=by{decide};try dsimp only[bM]
   refine gF (λad O=>∃dk bq,ad=[some (.ref l),some (.int n),some (.int m),some (.ref wl),some (.ref I),some (.int (0+(i:Int))),some (.int (x0 / 8+(0+(i:Int)))),some (.int (x1+(0+(i:Int)))),some (.int (x2+(0+(i:Int)))),some (.str aG),some (.int dk),some (.int ((x1+(0+(i:Int))) % (m:Int))),bq,af,ae]/\bK H' O) (λN hN=>?_) ?_;{refine⟨_,rfl,_,_,rfl,rfl,⟨by decide,by decide⟩,_,_,rfl,rfl,(show(0:Int)<16 by decide),rfl,_,rfl,?_⟩;by_cases e:(x2+(0+(i:Int))) / 16 % 16=7;{refine bH (ajU e) ?_;refine⟨_,rfl,_,_,rfl,rfl,⟨by decide,by decide,by decide⟩,_,_,rfl,rfl,aH,?_⟩;obtain⟨y,hy⟩:=VH (ns:=[-1,(n:Int),1000000000000,-2 - (x0 / 8+(0+(i:Int))) % (10:Int) ^ (30:Int).toNat,(n:Int)+(x0 / 8+(0+(i:Int))) % (10:Int) ^ (30:Int).toNat]) (k:=(x0 / 8+(0+(i:Int))) % 5) (by lia) (by show _<((5:Nat):Int);lia);refine⟨_,rfl,_,rfl,_,rfl,_,rfl,_,_,rfl,rfl,_,rfl,_,rfl,_,_,rfl,rfl,zz5,λz hz=>⟨_,rfl,_,_,rfl,rfl,(show(0:Int)<5 by decide),z,_,_,_,rfl,rfl,bU.of aj,hy,?_⟩⟩;exact hN _ _ ⟨_,_,rfl,aq hz⟩};{refine aL (ajV e) ?_;exact hN _ _ ⟨_,_,rfl,bK.refl _⟩}};rintro ad H1 ⟨dk,bq,rfl,s1⟩;try dsimp only[bM]
   refine gF (λad O=>∃pg ai,ad=[some (.ref l),some (.int n),some (.int m),some (.ref wl),some (.ref I),some (.int (0+(i:Int))),some (.int (x0 / 8+(0+(i:Int)))),some (.int (x1+(0+(i:Int)))),some (.int (x2+(0+(i:Int)))),some (.str aG),some (.int dk),some (.int pg),ai,af,ae]/\bK H' O) (λN hN=>?_) ?_;{refine⟨_,rfl,_,_,rfl,rfl,⟨by decide,by decide⟩,_,_,rfl,rfl,(show(0:Int)<16 by decide),rfl,_,rfl,?_⟩;by_cases e:(x2+(0+(i:Int))) / 16 % 16=11;{refine bH (ajU e) ?_;refine⟨_,rfl,_,_,rfl,rfl,⟨by decide,by decide,by decide⟩,_,_,rfl,rfl,aH,?_⟩;obtain⟨y,hy⟩:=VH (ns:=[-1,(m:Int),1000000000000,-2 - (x1+(0+(i:Int))) % (10:Int) ^ (30:Int).toNat,(m:Int)+(x1+(0+(i:Int))) % (10:Int) ^ (30:Int).toNat]) (k:=(x1+(0+(i:Int))) % 5) (by lia) (by show _<((5:Nat):Int);lia);refine⟨_,rfl,_,rfl,_,rfl,_,rfl,_,_,rfl,rfl,_,rfl,_,rfl,_,_,rfl,rfl,zz5,λz hz=>⟨_,rfl,_,_,rfl,rfl,(show(0:Int)<5 by decide),z,_,_,_,rfl,rfl,bU.of aj,hy,?_⟩⟩;exact hN _ _ ⟨_,_,rfl,s1.trans (aq hz)⟩};{refine aL (ajV e) ?_;exact hN _ _ ⟨_,_,rfl,s1⟩}};rintro ad H2 ⟨pg,ai,rfl,s2⟩;have J:=s2 _ _ aE;have al:=dl.aU (aQ s2);have am:=s'.trans s2;have an:=s2 _ _ bn;have one:∀(Y:Hp) (x:bG) (b:Addr) (L:List V) (j:Nat),bK H Y->Y wl=some (.lst yW)->Y I=some (.lst L)->DL Y L j->Y b=none->bK H (upd (upd Y b (.tup x.vs)) I (.lst (L++[.ref b])))/\upd (upd Y b (.tup x.vs)) I (.lst (L++[.ref b])) wl=some (.lst yW)/\DL (upd (upd Y b (.tup x.vs)) I (.lst (L++[.ref b]))) (L++[.ref b]) (j+1):=λY x b L j s3 ap Z ar W=>by{have sb:=aq (o:=.tup x.vs) W;have dc:wl≠b:=aF ap W;refine⟨dB (s3.trans sb) bl,by rw[az bj,az dc];exact ap,?_⟩;have tl:=iB (vs:=L++[.ref b]) (sb _ _ Z);exact((ar.aU (aQ sb)).append (DL.one x aj)).aU tl};try dsimp only[bM]
   refine gF (λad O=>∃bv bx bA,ad=[some (.ref l),some (.int n),some (.int m),some (.ref wl),some (.ref I),some (.int (0+(i:Int))),some (.int (x0 / 8+(0+(i:Int)))),some (.int (x1+(0+(i:Int)))),some (.int (x2+(0+(i:Int)))),some (.str aG),some (.int dk),some (.int pg),ai,bv,bx]/\bK H O/\O wl=some (.lst yW)/\O I=some (.lst bA)/\DL O bA (4*i+2)) (λN hN=>?_) ?_
   ·refine⟨_,rfl,rfl,_,rfl,?_⟩;rcases db with e | e | e | e | e
    ·subst e;refine bH fQ ?_;refine⟨_,rfl,_,_,rfl,rfl,⟨by decide,by decide⟩,_,rfl,_,_,rfl,rfl,.inl ⟨by decide,by decide⟩,_,_,rfl,rfl,_,_,rfl,rfl,(show(0:Int)<120 by decide),_,_,rfl,rfl,?_⟩;try dsimp only[bM]
     refine gF (λad O=>∃nb,ad=[some (.ref l),some (.int n),some (.int m),some (.ref wl),some (.ref I),some (.int (0+(i:Int))),some (.int (x0 / 8+(0+(i:Int)))),some (.int (x1+(0+(i:Int)))),some (.int (x2+(0+(i:Int)))),some (.str "put"),some (.int dk),some (.int pg),ai,some (.int nb),ae]/\O=H2) (λN' aI=>?_) ?_;{refine⟨_,rfl,_,_,rfl,rfl,_,rfl,?_⟩;by_cases e1:(69:Int)<((x1+(0+(i:Int))) / 3+7*(0+(i:Int))) % 120 - 20;{refine bH (decide_eq_true e1) ?_;exact aI _ _ ⟨_,rfl,rfl⟩};{refine aL (decide_eq_false e1) ?_;refine⟨_,rfl,_,_,rfl,rfl,_,rfl,?_⟩;by_cases e2:(60:Int)<((x1+(0+(i:Int))) / 3+7*(0+(i:Int))) % 120 - 20;{refine bH (decide_eq_true e2) ?_;refine⟨_,rfl,_,_,rfl,rfl,?_⟩;exact aI _ _ ⟨_,rfl,rfl⟩};{refine aL (decide_eq_false e2) ?_;exact aI _ _ ⟨_,rfl,rfl⟩}}};rintro ad dW ⟨nb,rfl,rfl⟩;refine⟨_,rfl,_,_,rfl,rfl,.inr ⟨by decide,by decide⟩,_,_,rfl,rfl,⟨by decide,by decide,by decide⟩,_,_,rfl,rfl,aH,?_⟩;obtain⟨y,hy⟩:=VH (ns:=[nb,nb,(x1+(0+(i:Int)))*48271 % (10:Int) ^ (30:Int).toNat,0 - (x1+(0+(i:Int)))*48271 % (10:Int) ^ (30:Int).toNat]) (k:=(x0 / 8+(0+(i:Int))) % 4) (by lia) (by show _<((4:Nat):Int);lia);refine⟨_,rfl,_,rfl,_,rfl,_,rfl,_,_,rfl,rfl,zz4,λz hz=>⟨_,rfl,_,_,rfl,rfl,(show(0:Int)<4 by decide),z,_,_,_,rfl,rfl,bU.of aj,hy,?_⟩⟩;have sz:=aq (o:=.lst ([nb,nb,(x1+(0+(i:Int)))*48271 % (10:Int) ^ (30:Int).toNat,0 - (x1+(0+(i:Int)))*48271 % (10:Int) ^ (30:Int).toNat].map V.int)) hz;refine⟨_,rfl,.inl ⟨rfl,_,bU.of (sz _ _ J)⟩,_,rfl,_,rfl,_,rfl,_,rfl,zz4,λb W=>⟨I,us,_,rfl,rfl,(aq W) _ _ (sz _ _ J),by lia,?_⟩⟩;obtain⟨k1,k2,k3⟩:=one _ (.put dk pg y) b us (4*i) (am.trans sz) (sz _ _ an) (sz _ _ J) (al.aU (aQ sz)) W;exact hN _ _ ⟨_,_,_,rfl,k1,k2,aj,k3.more (by lia)⟩
    ·subst e;refine aL (du ∅) ?_;refine⟨_,rfl,rfl,_,rfl,?_⟩;refine bH fQ (p6 ?_);refine⟨_,rfl,.inl ⟨rfl,_,bU.of J⟩,_,rfl,_,rfl,_,rfl,Zh,λb W=>⟨I,us,_,rfl,rfl,(aq W) _ _ J,by lia,?_⟩⟩;obtain⟨k1,k2,k3⟩:=one _ (.look dk pg) b us (4*i) am an J al W;refine⟨_,rfl,rfl,_,rfl,?_⟩;refine aL (du ∅) (wD ?_);exact hN _ _ ⟨_,_,_,rfl,k1,k2,aj,k3.more (by lia)⟩
    ·subst e;refine aL (du ∅) ?_;refine⟨_,rfl,rfl,_,rfl,?_⟩;refine aL (du ∅) ?_;refine⟨_,rfl,rfl,_,rfl,?_⟩;refine bH fQ ?_;refine⟨_,rfl,.inl ⟨rfl,_,bU.of J⟩,_,rfl,_,rfl,_,rfl,Zh,λb W=>⟨I,us,_,rfl,rfl,(aq W) _ _ J,by lia,?_⟩⟩;obtain⟨k1,k2,k3⟩:=one _ (.rest dk pg) b us (4*i) am an J al W;have de:=k3.len;have Z:upd (upd H2 b (.tup (bG.rest dk pg).vs)) I (.lst (us++[.ref b])) I=some (.lst (us++[.ref b])):=aj;have go:∀Y:Hp,bK H Y->Y wl=some (.lst yW)->Y I=some (.lst (us++[.ref b]))->DL Y (us++[.ref b]) (4*i+1)->
      (cR (azJ (aiy (Zn rEq (jE 9) (tC (.str "rest")))) (aiy (Zn rEq (Zn (rI (λ_ j=>0<j) λi j=>V.int (i % j)) (Zn (rI azW λi j=>V.int (i / j)) (jE 7) (tC (.int 3))) (tC (.int 2))) (tC (.int 1))))) (amy (tBM K "list" Be (jE 4) (nO (apA (nO (tC (.str "look")) (nO (jE 10) (nO (jE 11) J4)))) J4))) bM) {nx:=N,rt:=Q} [some (.ref l),some (.int n),some (.int m),some (.ref wl),some (.ref I),some (.int (0+(i:Int))),some (.int (x0 / 8+(0+(i:Int)))),some (.int (x1+(0+(i:Int)))),some (.int (x2+(0+(i:Int)))),some (.str "rest"),some (.int dk),some (.int pg),ai,af,ae] Y:=λY g1 g2 g3 g4=>by
      refine⟨_,rfl,rfl,_,rfl,?_⟩
      refine bH fQ ?_
      refine⟨_,rfl,_,_,rfl,rfl,⟨by decide,by decide⟩,_,_,rfl,rfl,(show(0:Int)<2 by decide),rfl,_,rfl,?_⟩
      by_cases e3:(x1+(0+(i:Int))) / 3 % 2=1
      ·refine bH (ajU e3) ?_
       refine⟨_,rfl,.inl ⟨rfl,_,bU.of g3⟩,_,rfl,_,rfl,Zh,λb2 au=>⟨I,_,_,rfl,rfl,(aq au) _ _ g3,by lia,?_⟩⟩
       obtain⟨m1,m2,m3⟩:=one _ (.look dk pg) b2 _ (4*i+1) g1 g2 g3 g4 au
       exact hN _ _ ⟨_,_,_,rfl,m1,m2,aj,m3.more (by lia)⟩
      ·refine aL (ajV e3) ?_
       exact hN _ _ ⟨_,_,_,rfl,g1,g2,g3,g4.more (by lia)⟩
     exact go _ k1 k2 Z k3
    ·subst e;refine aL (du ∅) ?_;refine⟨_,rfl,rfl,_,rfl,?_⟩;refine aL (du ∅) ?_;refine⟨_,rfl,rfl,_,rfl,?_⟩;refine aL (du ∅) ?_;refine⟨_,rfl,.inl ⟨rfl,_,bU.of J⟩,_,rfl,_,rfl,sS,λb W=>⟨I,us,_,rfl,rfl,(aq W) _ _ J,by lia,?_⟩⟩;obtain⟨k1,k2,k3⟩:=one _ (.up dk) b us (4*i) am an J al W;exact hN _ _ ⟨_,_,_,rfl,k1,k2,aj,k3.more (by lia)⟩
    ·subst e;refine aL (du ∅) ?_;refine⟨_,rfl,rfl,_,rfl,?_⟩;refine aL (du ∅) ?_;refine⟨_,rfl,rfl,_,rfl,?_⟩;refine aL (du ∅) ?_;refine⟨_,rfl,.inl ⟨rfl,_,bU.of J⟩,_,rfl,_,rfl,sS,λb W=>⟨I,us,_,rfl,rfl,(aq W) _ _ J,by lia,?_⟩⟩;obtain⟨k1,k2,k3⟩:=one _ (.down dk) b us (4*i) am an J al W;exact hN _ _ ⟨_,_,_,rfl,k1,k2,aj,k3.more (by lia)⟩
   rintro ad Y ⟨bv,bx,L,rfl,bB,ap,Z,ar⟩;have de:=ar.len;refine⟨_,rfl,_,_,rfl,rfl,(show(0:Int)<5 by decide),_,_,rfl,rfl,_,rfl,?_⟩;by_cases e:(x2+(0+(i:Int))) % 5<4;{refine bH (decide_eq_true e) ?_;refine⟨_,rfl,.inl ⟨rfl,_,bU.of Z⟩,_,rfl,_,rfl,_,_,rfl,rfl,(show(0:Int)<n by lia),sS,λb W=>⟨I,L,_,rfl,rfl,(aq W) _ _ Z,by lia,?_⟩⟩;obtain⟨k1,k2,k3⟩:=one _ (.up ((x2+(0+(i:Int))) % (n:Int))) b L (4*i+2) bB ap Z ar W;have dX:=k3.len;have bC:upd (upd Y b (.tup (bG.up ((x2+(0+(i:Int))) % (n:Int))).vs)) I (.lst (L++[.ref b])) I=some (.lst (L++[.ref b])):=aj;refine⟨_,rfl,.inl ⟨rfl,_,bU.of bC⟩,_,rfl,_,_,rfl,rfl,⟨by decide,by decide⟩,_,rfl,_,_,rfl,rfl,_,rfl,_,_,rfl,rfl,(show(0:Int)<n by lia),sS,λb2 au=>⟨I,L++[.ref b],_,rfl,rfl,aq au I (.lst (L++[.ref b])) aj,by lia,?_⟩⟩;obtain⟨m1,m2,m3⟩:=one _ (.down (((x2+(0+(i:Int))) / 4+(0+(i:Int))) % (n:Int))) b2 _ (4*i+3) k1 k2 bC k3 au;exact⟨⟨_,_,_,_,_,_,_,_,_,_,rfl⟩,m1,m2,_,aj,m3.more (by lia)⟩};{refine aL (decide_eq_false e) ?_;exact⟨⟨_,_,_,_,_,_,_,_,_,_,rfl⟩,bB,ap,_,Z,ar.more (by lia)⟩}
  ·rintro ad H' ⟨⟨o5,o6,o7,o8,o9,ax,ay,aD,af,ae,rfl⟩,s',_,us,aE,dl⟩;exact⟨_,rfl,k I us H' bl s' aE dl⟩
def aEE(K:Frag):Sp:=λvs H Q _=>∃(a:Addr) (ns:List Int) (k:Int),vs=[.ref a,.int k]/\bU K H a (ns.map V.int)/\0<=k/\∀z:Int,Q (.int z) H
theorem Qz(T:Txt K w mg t):cX P w K mg base mW 1 t.Hu t.afI ["_law_script","_law_k"] (aEE K):=by
 refine T.TY.ok atb (λvs H Q E h=>?_) (λW A outer s H vs Q E Z h=>?_);{obtain⟨a,ns,k,rfl,_⟩:=h;rfl}
 ·obtain⟨a,ns,k,rfl,F,hk,q⟩:=h;refine⟨_,(ao (bY (aP Vl (pv 1) (cG cJ (by rfl) T.pL PySem.boot_len (aa (pv 0) ak)) (aY _)) (aA (aZ (aN bz (pv 0) (pv 1) (λ_ _=>rfl)))) bw)
   (aA (aZ aB))),?_⟩
  try dsimp only[dj,Cx.kE]
  show let I:L2.TS:=_;let J:L2.TS:=cR _ I bM;let L:L2.TS:=_;let O:Ends:=_;(aV J (L)) O _ _;intro I J L O;refine⟨_,rfl,_,rfl,a,_,rfl,.inl F,_,_,rfl,rfl,_,rfl,?_⟩;by_cases h:k<((ns.map V.int).length:Nat);{refine bH (decide_eq_true h) ?_;obtain⟨z,Y⟩:=VH hk (by simpa using h);exact⟨_,rfl,_,rfl,a,_,k,_,rfl,rfl,F,Y,q z⟩};{refine aL (decide_eq_false h) ?_;exact q 0}
theorem arf(n p:Nat):cnt n p (λ_=>[]) (λ_=>[])=0:=by
 unfold cnt;induction n with| zero=>rfl| succ n z=>rw[eO,z];rfl
theorem ik.start(n:Nat)(ns:List Int):ik n ns.length (S0 ns) where
 pn p _:=⟨(λx h=>nomatch h),(λx h=>nomatch h),(λx h=>nomatch h)⟩
 am p _:=⟨λ_=>rfl,λ_=>rfl⟩
 up d _ l h:=by cases h
 dn d _ l h:=by cases h
 ws d _ w h:=by cases h
 ct p _:=by rw[show(S0 ns).up=λ_=>[]from rfl,show(S0 ns).dn=λ_=>[]from rfl,arf];rfl
theorem Bd.start(ns:List Int):Bd 0 (S0 ns) []:=⟨λp=>Nat.le_refl _,λd=>Nat.le_refl _,Nat.le_refl _,λd=>zero_le _,zero_le _⟩
theorem Bd.sent{t:Nat}{S:TS}{se:List (Nat×Let)}(b:Bd t S se):Bd t S []:=⟨b.mu,b.up,b.row,b.dn,zero_le _⟩
theorem arh(ns:List Int)(lo hi:Option Int):∃z:List Int,S9 (ns.map V.int) lo hi=z.map V.int/\z.length<=ns.length:=by
 refine⟨((ns.drop (HT.n8 (ns.map V.int).length 0 lo)).take (HT.n8 (ns.map V.int).length (ns.map V.int).length hi - HT.n8 (ns.map V.int).length 0 lo)),?_,?_⟩;{unfold S9;rw[<-map_drop,<-map_take]};{rw[length_take,length_drop];lia}
theorem bU.same{K:Frag}{H H':Hp}{a:Addr}{xs:List V}(h:bU K H a xs)(s:bK H H'):bU K H' a xs:=by
 rcases h with (h | ⟨o,h⟩) | h;{exact .inl (.inl (s _ _ h))};{exact .inl (.inr ⟨o,s _ _ h⟩)};{exact .inr h}
def ari(c:C4)(X:Addr):Sp:=λvs H Q E=>∃B n m S k,∃d:Int,vs=[.ref (B .bf),.int d]/\cH c H B n m S k/\(inR d n->Q .non H)/\(¬inR d n->E (.ref X) none H)
def arj(c:C4)(X:Addr):Sp:=λvs H Q E=>∃B n m S k,∃d:Int,vs=[.ref (B .bf),.int d]/\cH c H B n m S k/\(inR d m->Q .non H)/\(¬inR d m->E (.ref X) none H)
def ays(X:Addr):Sp:=λvs H Q E=>∃s l xs,vs=[s,.ref l]/\H l=some (.lst xs)/\(xs=[]->E (.ref X) none H)/\∀v r,xs=v::r->Q v (upd H l (.lst r))
def anu(c:C4):Sp:=λvs H Q _=>∃B n m S k a l1 l2 xs ys es us,∃d:Nat,vs=[.ref (B .bf),.int d,.ref a]/\cH c H B n m S k/\d<n/\H a=some (.tup [.ref l1,.ref l2])/\H l1=some (.lst xs)/\H l2=some (.lst ys)/\aG H xs (es.map evD)/\aG H ys (us.map UL.d)/\
 (∀x:Tb,x.ok n m->l1≠B x)/\(∀x:Tb,x.ok n m->l2≠B x)/\S.row.length+es.length<=1000000/\(S.up d).length+us.length<=1000000/\
 ∀H',cH c H' B n m {S with up:=aM S.up d (S.up d++us),row:=cZ S.row d es} k->TF H H' B n m->H' l1=some (.lst xs)->aG H' xs (es.map evD)->Q (.ref l1) H'
theorem ajX(es:List Ev):D.flats (es.map evD):=bc (λe=>by simp[evD,D.flat,D.flats]) es
theorem anv{H:Hp}:∀{es:List Ev} {xs:List V} {i:Nat} {y:V},aG H xs (es.map evD)->xs[i]? = some y->∃e,es[i]? = some e/\Rep H y (evD e)
 | [],xs,i,y,h,z=>by simp only[map_nil,aG]at h;subst h;simp at z
 | e::es,xs,i,y,h,z=>by simp only[map_cons,aG]at h;obtain⟨v,us,rfl,F,rl⟩:=h;cases i with| zero=>simp at z;subst z;exact⟨e,rfl,F⟩| succ i=>simp at z;obtain⟨I,h1,h2⟩:=anv rl z;exact⟨I,by simpa using h1,h2⟩
theorem ajY{row:List RE}{d i:Nat}{es:List Ev}{e:Ev}(h:es[i]? = some e):cZ row d (es.take (i+1))=cZ row d (es.take i)++[⟨e.1,d,e.2.1,e.2.2⟩]:=by
 unfold cZ;rw[take_add_one,h];simp
abbrev c4(t:Ht):C4:=⟨t.bF,t.bQ,t.iD,t.aD⟩
theorem MN(T:Txt K w mg t):cX P w K mg base (CX1 P w) 1 t.dD t.m8 ["self","desk"] (ari (c4 t) t.bB):=by
 refine T.PQ.okX Mq (λvs H Q E h=>?_) (λL A outer s H vs Q E W h=>?_);{obtain⟨B,n,m,S,k,d,rfl,_⟩:=h;rfl}
 ·obtain⟨B,n,m,S,k,d,rfl,TA,k1,k2⟩:=h;refine⟨_,(aA (bY (PW.pt (nJ (aP Vl (pv 1) aB (aY _)) (lZ (aP Oz (pv 1) (cG cJ (by rfl) T.pL PySem.boot_len (aa (cM (pv 0) (by rfl)) ak)) (aY _))))) (aA (GP T.aak (by rfl) T.ai9 rfl O7 (aa aC ak))) bw)),?_⟩;try dsimp only[dj,Cx.kE]
  show let z:L2.TS:=_;let F:L2.TS:=cR _ z bM;let I:Ends:=_;(F) I _ _;intro z F I;obtain⟨dx,O⟩:=TA.ob;refine⟨_,rfl,_,_,rfl,rfl,_,rfl,?_⟩;by_cases J:d<0;{refine bH (decide_eq_true J) (p6 ?_);exact⟨zz1,k2 λh=>by unfold inR at h;lia⟩};{refine aL (decide_eq_false J) ?_;refine⟨_,rfl,_,rfl,B .bf,_,dx,_,_,rfl,O,T.dw,T.gf,uM,B .mD,_,rfl,.inl (bU.of TA.ds),_,_,rfl,rfl,_,rfl,?_⟩;rw[length_map,length_range];by_cases h1:(n:Int)<=d;{refine bH (decide_eq_true h1) ?_;exact⟨zz1,k2 λh=>by unfold inR at h;lia⟩};{refine aL (decide_eq_false h1) ?_;exact k1 ⟨by lia,by lia⟩}}
theorem MP(T:Txt K w mg t):cX P w K mg base (CX1 P w) 1 t.dF t.m9 ["self","page"] (arj (c4 t) t.bx):=by
 refine T.P0.okX Mr (λvs H Q E h=>?_) (λL A outer s H vs Q E W h=>?_);{obtain⟨B,n,m,S,k,d,rfl,_⟩:=h;rfl}
 ·obtain⟨B,n,m,S,k,d,rfl,TA,k1,k2⟩:=h;refine⟨_,(aA (bY (PW.pt (nJ (aP Vl (pv 1) aB (aY _)) (lZ (aP Oz (pv 1) (cM (pv 0) (by rfl)) (aY _))))) (aA (GP T.Pz (by rfl) T.aja rfl O7 (aa aC ak))) bw)),?_⟩;try dsimp only[dj,Cx.kE]
  show let z:L2.TS:=_;let F:L2.TS:=cR _ z bM;let I:Ends:=_;(F) I _ _;intro z F I;obtain⟨dx,O⟩:=TA.ob;refine⟨_,rfl,_,_,rfl,rfl,_,rfl,?_⟩;by_cases J:d<0;{refine bH (decide_eq_true J) (p6 ?_);exact⟨zz1,k2 λh=>by unfold inR at h;lia⟩};{refine aL (decide_eq_false J) ?_;refine⟨_,rfl,_,rfl,B .bf,_,dx,_,_,rfl,O,T.dw,T.jM,aoj,_,_,rfl,rfl,_,rfl,?_⟩;by_cases h1:(m:Int)<=d;{refine bH (decide_eq_true h1) ?_;exact⟨zz1,k2 λh=>by unfold inR at h;lia⟩};{refine aL (decide_eq_false h1) ?_;exact k1 ⟨by lia,by lia⟩}}
theorem rZ(T:Txt K w mg t):cX P w K mg base (CX1 P w) 1 t.cY t.lG ["self","road"] (ays t.aK):=by
 refine T.J7.okX Hq (λvs H Q E h=>?_) (λL A outer s H vs Q E O h=>?_);{obtain⟨B,n,m,rfl,_⟩:=h;rfl}
 ·obtain⟨sv,l,xs,rfl,hl,k1,k2⟩:=h;refine⟨_,(ao (bY (oh (GF (pv 1) (λ_=>rfl))) (aA (GP T.nu (by rfl) T.aal rfl O7 (aa aC ak))) bw)
   (aA (aZ (dZ plainAttrs_list slot_list_pop type_list_pop GK (pv 1) (aa aB ak))))),?_⟩
  try dsimp only[dj,Cx.kE]
  show let z:L2.TS:=_;let F:L2.TS:=cR _ z bM;let I:L2.TS:=_;let J:Ends:=_;(aV F (I)) J _ _;intro z F I J;cases xs with| nil=>refine⟨_,rfl,_,.inl ⟨[],bU.of hl,rfl⟩,?_⟩;exact p6 ⟨zz1,k1 rfl⟩| cons v r=>refine⟨_,rfl,_,.inl ⟨v::r,bU.of hl,rfl⟩,wD ?_⟩;exact⟨_,rfl,.inl ⟨rfl,_,bU.of hl⟩,l,_,0,0,_,rfl,rfl,hl,(by decide),(by decide),ap4 _ _,rfl,k2 v r rfl⟩
theorem pO(T:Txt K w mg t):cX P w K mg base mW 1 t.dW t.pD ["self","desk","told"] (anu (c4 t)):=by
 refine T.TV.ok kj (λvs H Q E h=>?_) (λaP A outer s H vs Q E hr h=>?_);{obtain⟨B,n,m,S,k,a,l1,l2,xs,ys,es,us,d,rfl,_⟩:=h;rfl}
 ·obtain⟨B,n,m,S,k,a,l1,l2,xs,ys,es,us,d,rfl,TA,hd,Y,h1,h2,Z,r2,n1,n2,z1,z2,ac⟩:=h;have sl:sizeLine=16777216:=by{decide};refine⟨_,(ao (mU PassesOwn.never rfl (ou (aN bC (pv 2) aB (λ_ _=>rfl))) (Gz rfl (dJ (cj (i:=3) kj.nd rfl (Or.inl rfl)) (dJ (cj (i:=4) kj.nd rfl (Or.inl rfl)) (dJ (cj (i:=5) kj.nd rfl (Or.inl rfl)) ug)))) (aA (bN (dZ plainAttrs_list PySem.F.slot_list_append PySem.F.type_list_append cu (cM (pv 0) (by rfl)) (aa (b7 (aa (pv 3) (aa (pv 1) (aa (pv 4) (aa (pv 5) ak))))) ak)))))
   (ao (bN (dZ plainAttrs_list PySem.F.slot_list_extend PySem.F.type_list_extend mY (aN bz (cM (pv 0) (by rfl)) (pv 1) (λ_ _=>rfl)) (aa (aN bC (pv 2) aB (λ_ _=>rfl)) ak)))
   (aA (aZ (aN bC (pv 2) aB (λ_ _=>rfl)))))),?_⟩
  try dsimp only[dj,Cx.kE]
  show let Z1:L2.TS:=_;let Z2:L2.TS:=J3 _ _ Z1;let Z3:L2.TS:=_;let Z4:L2.TS:=_;let D0:Ends:=_;(aV Z2 (aV Z3 (Z4))) D0 _ _;intro Z1 Z2 Z3 Z4 D0;refine zt rfl (cW.of Y) rfl ⟨l1,rfl,⟨_,bU.of h1⟩,?_⟩;have ad:xs.length=es.length:=by{rw[Z.length,length_map]};let W9:Nat->St->Hp->Prop:=λi J H'=>(∃o1 o2 o3,J=[some (.ref (B .bf)),some (.int d),some (.ref a),o1,o2,o3])/\i<=xs.length/\cH (c4 t) H' B n m {S with row:=cZ S.row d (es.take i)} k/\TF H H' B n m;refine rF (xs:=xs) W9 ?_ ?_ ?_ ?_;{refine⟨⟨_,_,_,rfl⟩,zero_le _,?_,TF.refl _ _ _ _⟩;simpa[cZ] using TA};{rintro i J H' _ ⟨_,_,_,z⟩;exact bU.of (z.kp _ _ h1 n1)};{rintro i y J H' hy ⟨⟨o1,o2,o3,rfl⟩,hi,I,z⟩;have aT:i<xs.length:=(List.getElem?_eq_some_iff.mp hy).1;obtain⟨e,he,re⟩:=anv (Z.aU (z.tups TA) (ajX _)) hy;simp only[evD,Rep,aG]at re;obtain⟨c,aX,rfl,hc,_,_,rfl,rfl,_,_,rfl,rfl,_,_,rfl,rfl,rfl⟩:=re;refine⟨c,_,rfl,cW.of hc,rfl,_,_,rfl,_,_,rfl,_,_,rfl,rfl,?_⟩;obtain⟨dx,ht⟩:=I.ob;obtain⟨rv,e1,e2⟩:=I.row;have al:rv.length<sizeLine:=by{rw[e2.length,length_map];show(cZ S.row d (es.take i)).length<_;unfold cZ;rw[length_append,length_map,length_take];lia};refine⟨_,rfl,B .bf,_,dx,_,_,rfl,ht,T.dw,T.rW,am0,.inl ⟨rfl,_,bU.of e1⟩,_,rfl,_,rfl,_,rfl,_,rfl,zz4,λb am=>?_⟩;have L:=aq (o:=.tup [.str (Vp e.1),.int d,.int e.2.1,.int e.2.2]) am;refine⟨B .row,rv,_,rfl,rfl,L _ _ e1,al,?_⟩;have an:aG (upd H' b (.tup [.str (Vp e.1),.int d,.int e.2.1,.int e.2.2])) (rv++[.ref b]) ((cZ S.row d (es.take (i+1))).map RE.d):=by{rw[ajY he,map_append];refine aG.snoc (e2.aU (aQ L) (bc RE.flat _)) ?_;simp only[RE.d,Rep,aG];exact⟨b,_,rfl,aj,_,_,rfl,rfl,_,_,rfl,rfl,_,_,rfl,rfl,_,_,rfl,rfl,rfl⟩};have T4:=(I.same L).aqd an;exact⟨⟨_,_,_,rfl⟩,by lia,T4,z.trans ((TF.of_same L).trans (TF.wr (x:=.row) trivial) (Tv.refl _ _ _ _)) (Tv.refl _ _ _ _)⟩};{rintro J H' ⟨⟨o1,o2,o3,rfl⟩,_,I,z⟩;rw[ad,take_length]at I;obtain⟨dx,ht⟩:=I.ob;obtain⟨O,u1,u2⟩:=I.up d hd;have ap:=z.tups TA _ _ Y;have ar:=z.kp _ _ h2 n2;have as:=r2.aU (z.tups TA) (bc UL.flat _);have au:O.length+ys.length<=sizeLine:=by{rw[u2.length,r2.length,length_map,length_map];show(S.up d).length+us.length<=_;lia};refine⟨_,rfl,B .bf,_,dx,_,_,rfl,ht,T.dw,T.fY,Zd,_,rfl,B .ups,_,_,_,rfl,rfl,bU.of I.us,bR hd,.inl ⟨rfl,_,bU.of u1⟩,zt rfl (cW.of ap) rfl ⟨B (.up d),l2,O,ys,rfl,rfl,u1,.inl (bU.of ar),au,?_⟩⟩;have ru:aG H' (O++ys) ((S.up d++us).map UL.d):=by{rw[map_append];exact aG.append u2 as};have T5:=I.aiV hd ru;have W:=z.trans (TF.wr (B:=B) (x:=.up d) (n:=n) (m:=m) hd (o:=.lst (O++ys))) (Tv.refl _ _ _ _);have av:=W.tups TA _ _ Y;refine zt rfl (cW.of av) rfl ?_;exact ac _ T5 W (W.kp _ _ h1 n1) (Z.aU (W.tups TA) (ajX _))}
theorem ark{H H1:Hp}{v:V}{es:List Ev}{us:List UL}(t:cz H H1)(r:Rep (nw H H1) v (.t [.l (es.map evD),.l (us.map UL.d)])) :
 ∃a F I xs ys,v=.ref a/\H1 a=some (.tup [.ref F,.ref I])/\H1 F=some (.lst xs)/\H1 I=some (.lst ys)/\aG H1 xs (es.map evD)/\aG H1 ys (us.map UL.d)/\H F=none/\H I=none:=by
 simp only[Rep,aG]at r;obtain⟨a,xs,rfl,O,v1,q1,rfl,⟨F,W,rfl,h1,Y⟩,v2,q2,rfl,⟨I,Z,rfl,h2,r2⟩,rfl⟩:=r;have J:∀{l:Addr} {z:List V},nw H H1 l=some (.lst z)->H l=none:=λ{l z} e=>by{obtain⟨e1,L | ⟨ys,L⟩⟩:=oH e;{exact L};{have:=t _ _ L;rw[e1]at this;cases this}};exact⟨a,F,I,W,Z,rfl,(oH O).1,(oH h1).1,(oH h2).1,Y.mono alv,r2.mono alv,J h1,J h2⟩
theorem aa1{c:C4}{H H1:Hp}{B:Tb->Addr}{n m d:Nat}{S:TS}{k k':Nat}{z:DS×List Ev×List UL}{v:V}{Q:VK}{E:XK}(TA:cH c H B n m S k)(hd:d<n)(z1:z.2.1.length<=1)(z2:z.2.2.length<=1)(hr:S.row.length<=1500)(hu:(S.up d).length<=1500)
 (L:cC c.D H1 (B (.dk d)) (B (.cp d)) z.1 k') (hk:k<=k') (f1:DF H H1 (B (.dk d)) (B (.cp d))) (O:Rep (nw H H1) v (.t [.l (z.2.1.map evD),.l (z.2.2.map UL.d)]))
 (I:∀F xs H2,cH c H2 B n m (S.jG d z) k'->TF H H2 B n m->H2 F=some (.lst xs)->aG H2 xs (z.2.1.map evD)->Q (.ref F) H2):anu c [.ref (B .bf),.int d,v] H1 Q E:=by
 obtain⟨W,g1⟩:=TA.jG hd L f1 hk;obtain⟨a,F,Y,xs,ys,rfl,Z,h1,h2,q1,q2,n1,n2⟩:=ark (g1.tups TA) O;refine⟨B,n,m,_,k',a,F,Y,xs,ys,z.2.1,z.2.2,d,rfl,W,hd,Z,h1,h2,q1,q2,λx J=>(TA.ne J n1).symm,λx J=>(TA.ne J n2).symm,?_,?_,λH2 T2 f2 e1 e2=>I F xs H2 T2 (g1.trans f2 (Tv.refl _ _ _ _)) e1 e2⟩;{show S.row.length+_<=_;lia};{show(S.up d).length+_<=_;lia}
def anw(S:DS):W->D
 | .look p=>if S.ok (.look p)then .i (S.nm p)else .s "waits"
 | .put p x=>if S.ok (.put p x)then .s "done" else .s "waits"
def ayt(c:C4)(X:Addr)(H:Hp)(B:Tb->Addr)(n m:Nat)(S:TS)(k d p:Nat)(w:W)(Q:VK)(E:XK):Prop:=
 ((S.ds d).ws=none->∀v H',cH c H' B n m (S.jG d ((S.ds d).il w p)) (k+2)->TF H H' B n m->Rep H' v (anw (S.ds d) w)->Q v H')/\((S.ds d).ws≠none->∀H',bK H H'->E (.ref X) none H')
def ayu(c:C4)(X:Addr):Sp:=λvs H Q E=>∃B n m S k,∃d p:Nat,vs=[.ref (B .bf),.int d,.int p]/\cH c H B n m S k/\d<n/\S.row.length<=1500/\(S.up d).length<=1500/\k<=800000/\ayt c X H B n m S k d p (.look p) Q E
def aBI(c:C4)(X:Addr):Sp:=λvs H Q E=>∃B n m S k,∃d p:Nat,∃x:Int,vs=[.ref (B .bf),.int d,.int p,.int x]/\cH c H B n m S k/\d<n/\S.row.length<=1500/\(S.up d).length<=1500/\k<=800000/\ayt c X H B n m S k d p (.put p x) Q E
def ayv(c:C4)(X:Addr):Sp:=λvs H Q E=>∃B n m S k,∃d p:Nat,vs=[.ref (B .bf),.int d,.int p]/\cH c H B n m S k/\d<n/\(S.up d).length<=1500/\k<=800000/\
 ((S.ds d).rt p≠.no->∀H',cH c H' B n m (S.lu d p) (k+2)->TF H H' B n m->Q (.str "done") H')/\((S.ds d).rt p=.no->E (.ref X) none H)
theorem Xc(T:Txt K w mg t):cX P w K mg base (CX1 P w) 4 t.fG t.tH ["self","desk","page"] (ayu (c4 t) t.aR):=by
 refine T.aar.okX DN (λvs H Q E h=>?_) (λam A outer s H vs Q E W h=>?_);{obtain⟨B,n,m,S,k,d,p,rfl,_⟩:=h;rfl}
 ·obtain⟨B,n,m,S,k,d,p,rfl,TA,hd,z1,z2,z3,k1,k2⟩:=h;refine⟨_,(ao (bu (i:=3) DN.nd rfl (Or.inl rfl) (cI (pv 0) T.dw T.pK (pO T) (W.mono (by decide):bV 1 _) T.qU .nil bW (aa (pv 1) (aa (cI (aN bz (cM (pv 0) (by rfl)) (pv 1) (λ_ _=>rfl)) T.dI T.PK (Qt T) (W.mono (by decide):bV 3 _) T.Vv .nil Dy (aa (b7 (aa aC (aa (pv 2) ak))) ak)) ak))))
   (aA (aZ (rE (GF (pv 3) (λ_=>rfl)) (aN bC (aN bz (pv 3) aB (λ_ _=>rfl)) aB (λ_ _=>rfl)) (iJ (by rfl) T.ani))))),?_⟩
  try dsimp only[dj,Cx.kE]
  show let Y:L2.TS:=_;let Z:L2.TS:=_;let D0:Ends:=_;(aV Y (Z)) D0 _ _;intro Y Z D0;obtain⟨dx,ht⟩:=TA.ob;obtain⟨⟨zq,wv,g1,_⟩,_⟩:=TA.dk d hd;refine⟨_,rfl,B .bf,dx,_,rfl,ht,alF,_,rfl,_,rfl,B .bf,_,dx,_,_,rfl,ht,T.dw,T.gf,uM,_,rfl,B .mD,_,_,_,rfl,rfl,bU.of TA.ds,bR hd,B (.dk d),zq,_,rfl,g1,fj _ _ ∅ ∅,_,rfl,sS,λb L=>?_⟩;have TB:=TA.new (o:=.tup [.str "look",.int p]) L;refine⟨B (.dk d),B (.cp d),S.ds d,k,b,.look p,rfl,TB.dk d hd,by lia,aj,?_⟩;cases hw:(S.ds d).ws with| some w'=>exact k2 (by rw[hw];exact nofun) _ (aq L)| none=>intro v H1 D1 f1 r1;have e1:=(S.ds d).amR (.look p) (p:=p) rfl;rw[e1]at D1 r1;dsimp only[J4,append_nil];refine aa1 (z:=(S.ds d).il (.look p) p) TB hd (DS.nR _ _ _).1 (DS.nR _ _ _).2 z1 z2 D1 (by lia) f1 r1 λl1 xs H2 T2 f2 h1 I=>?_;have f3:TF H H2 B n m:=(TF.of_same (aq L)).trans f2 (Tv.refl _ _ _ _);have F:=k1 hw;refine⟨_,rfl,_,.inl ⟨xs,bU.of h1,rfl⟩,?_⟩;unfold anw at F;by_cases J:(S.ds d).ok (.look p);{have O:((S.ds d).il (.look p) p).2.1=[(false,(p:Int),(S.ds d).nm p)]:=by{unfold DS.il;rw[if_pos J];rfl};rw[O]at I;simp only[map_cons,map_nil,evD,aG,Rep]at I;obtain⟨_,_,rfl,⟨c,aw,rfl,hc,_,_,rfl,rfl,_,_,rfl,rfl,_,_,rfl,rfl,rfl⟩,rfl⟩:=I;refine p6 ?_;refine⟨_,rfl,l1,_,0,_,rfl,rfl,bU.of h1,rfl,c,_,2,_,rfl,rfl,cW.of hc,rfl,?_⟩;refine F _ _ T2 f3 ?_;dsimp only;rw[if_pos J];simp only[Rep]};{have O:((S.ds d).il (.look p) p).2.1=[]:=by{unfold DS.il;rw[if_neg J]};rw[O]at I;simp only[map_nil,aG]at I;subst I;refine wD ?_;refine F _ _ T2 f3 ?_;dsimp only;rw[if_neg J];simp only[Rep]}
theorem aa2(T:Txt K w mg t):cX P w K mg base (CX1 P w) 4 t.gb t.vA ["self","desk","page","number"] (aBI (c4 t) t.aR):=by
 refine T.acQ.okX Ho (λvs H Q E h=>?_) (λam A outer s H vs Q E W h=>?_);{obtain⟨B,n,m,S,k,d,p,x,rfl,_⟩:=h;rfl}
 ·obtain⟨B,n,m,S,k,d,p,x,rfl,TA,hd,z1,z2,z3,k1,k2⟩:=h;refine⟨_,(ao (bu (i:=4) Ho.nd rfl (Or.inl rfl) (cI (pv 0) T.dw T.pK (pO T) (W.mono (by decide):bV 1 _) T.qU .nil bW (aa (pv 1) (aa (cI (aN bz (cM (pv 0) (by rfl)) (pv 1) (λ_ _=>rfl)) T.dI T.PK (Qt T) (W.mono (by decide):bV 3 _) T.Vv .nil Dy (aa (b7 (aa aC (aa (pv 2) (aa (pv 3) ak)))) ak)) ak))))
   (aA (aZ (rE (GF (pv 4) (λ_=>rfl)) (iJ (by rfl) T.aqt) (iJ (by rfl) T.ani))))),?_⟩
  try dsimp only[dj,Cx.kE]
  show let Y:L2.TS:=_;let Z:L2.TS:=_;let D0:Ends:=_;(aV Y (Z)) D0 _ _;intro Y Z D0;obtain⟨dx,ht⟩:=TA.ob;obtain⟨⟨zq,wv,g1,_⟩,_⟩:=TA.dk d hd;refine⟨_,rfl,B .bf,dx,_,rfl,ht,alF,_,rfl,_,rfl,B .bf,_,dx,_,_,rfl,ht,T.dw,T.gf,uM,_,rfl,B .mD,_,_,_,rfl,rfl,bU.of TA.ds,bR hd,B (.dk d),zq,_,rfl,g1,fj _ _ ∅ ∅,_,rfl,_,rfl,Zh,λb L=>?_⟩;have TB:=TA.new (o:=.tup [.str "put",.int p,.int x]) L;refine⟨B (.dk d),B (.cp d),S.ds d,k,b,.put p x,rfl,TB.dk d hd,by lia,aj,?_⟩;cases hw:(S.ds d).ws with| some w'=>exact k2 (by rw[hw];exact nofun) _ (aq L)| none=>intro v H1 D1 f1 r1;have e1:=(S.ds d).amR (.put p x) (p:=p) rfl;rw[e1]at D1 r1;dsimp only[J4,append_nil];refine aa1 (z:=(S.ds d).il (.put p x) p) TB hd (DS.nR _ _ _).1 (DS.nR _ _ _).2 z1 z2 D1 (by lia) f1 r1 λl1 xs H2 T2 f2 h1 I=>?_;have f3:TF H H2 B n m:=(TF.of_same (aq L)).trans f2 (Tv.refl _ _ _ _);have F:=k1 hw;refine⟨_,rfl,_,.inl ⟨xs,bU.of h1,rfl⟩,?_⟩;unfold anw at F;by_cases J:(S.ds d).ok (.put p x);{have O:((S.ds d).il (.put p x) p).2.1=[(true,(p:Int),x)]:=by{unfold DS.il;rw[if_pos J];rfl};rw[O]at I;simp only[map_cons,map_nil,evD,aG]at I;obtain⟨_,_,rfl,_,rfl⟩:=I;refine p6 ?_;refine F _ _ T2 f3 ?_;dsimp only;rw[if_pos J];simp only[Rep]};{have O:((S.ds d).il (.put p x) p).2.1=[]:=by{unfold DS.il;rw[if_neg J]};rw[O]at I;simp only[map_nil,aG]at I;subst I;refine wD ?_;refine F _ _ T2 f3 ?_;dsimp only;rw[if_neg J];simp only[Rep]}
theorem Xd(T:Txt K w mg t):cX P w K mg base (CX1 P w) 4 t.fH t.tK ["self","desk","page"] (ayv (c4 t) t.bh):=by
 refine T.aau.okX WR (λvs H Q E h=>?_) (λag A outer s H vs Q E hr h=>?_);{obtain⟨B,n,m,S,k,d,p,rfl,_⟩:=h;rfl}
 ·obtain⟨B,n,m,S,k,d,p,rfl,TA,hd,z2,z3,k1,k2⟩:=h;have sl:sizeLine=16777216:=by{decide};refine⟨_,(ao (bN (dZ plainAttrs_list PySem.F.slot_list_extend PySem.F.type_list_extend mY (aN bz (cM (pv 0) (by rfl)) (pv 1) (λ_ _=>rfl)) (aa (cI (aN bz (cM (pv 0) (by rfl)) (pv 1) (λ_ _=>rfl)) T.dI T.afQ (afY T) (hr.mono (by decide):bV 3 _) T.ajj .nil Dy (aa (pv 2) ak)) ak)))
   (aA (aZ (iJ (by rfl) T.aqt)))),?_⟩
  try dsimp only[dj,Cx.kE]
  show let O:L2.TS:=_;let W:L2.TS:=_;let Y:Ends:=_;(aV O (W)) Y _ _;intro O W Y;obtain⟨dx,Z⟩:=TA.ob;obtain⟨⟨zq,wv,g1,_⟩,_⟩:=TA.dk d hd;obtain⟨uv,u1,u2⟩:=TA.up d hd;refine⟨_,rfl,B .bf,_,dx,_,_,rfl,Z,T.dw,T.fY,Zd,_,rfl,B .ups,_,_,_,rfl,rfl,bU.of TA.us,bR hd,.inl ⟨rfl,_,bU.of u1⟩,_,rfl,B .bf,_,dx,_,_,rfl,Z,T.dw,T.gf,uM,_,rfl,B .mD,_,_,_,rfl,rfl,bU.of TA.ds,bR hd,B (.dk d),zq,_,rfl,g1,fj _ _ ∅ ∅,_,rfl,?_⟩;refine⟨B (.dk d),B (.cp d),S.ds d,k,p,rfl,TA.dk d hd,by lia,?_⟩;by_cases e:(S.ds d).rt p=.no;{rw[if_pos e];exact k2 e};{rw[if_neg e];intro v H1 D1 f1 I;obtain⟨T1,g2⟩:=TA.jG hd D1 f1 (by lia);have er:((S.ds d).rest p).2=.l ((if(S.ds d).rt p=.wr then [UL.gave p ((S.ds d).nm p)]else []).map UL.d):=by{unfold DS.rest;dsimp only;split<;>rfl};rw[er]at I;simp only[Rep]at I;obtain⟨l,ys,rfl,hl,r2⟩:=I;obtain⟨J,ap⟩:=oH hl;obtain⟨z,u3,u4⟩:=T1.up d hd;have af:((if(S.ds d).rt p=.wr then [UL.gave p ((S.ds d).nm p)]else []:List UL)).length<=1:=by{split<;>simp};have L:z.length+ys.length<=sizeLine:=by{rw[u4.length,r2.length,length_map,length_map];show(S.up d).length+_<=_;lia};refine⟨B (.up d),l,z,ys,rfl,rfl,u3,.inl (bU.of J),L,?_⟩;have ru:aG H1 (z++ys) ((S.up d++(if(S.ds d).rt p=.wr then [UL.gave p ((S.ds d).nm p)]else [])).map UL.d):=by{rw[map_append];exact aG.append u4 (r2.mono alv)};have T5:=T1.aiV hd ru;have f5:=g2.trans (TF.wr (B:=B) (x:=.up d) (n:=n) (m:=m) hd (o:=.lst (z++ys))) (Tv.refl _ _ _ _);refine k1 e _ ?_ f5;have es:S.lu d p={S with ds:=aM S.ds d ((S.ds d).rest p).1,up:=aM S.up d (S.up d++(if(S.ds d).rt p=.wr then [UL.gave p ((S.ds d).nm p)]else []))}:=by{unfold TS.lu TS.jG cZ DS.rest;simp};rw[es];exact T5}
def aBJ(c:C4)(X:Addr):Sp:=λvs H Q E=>∃B n m S k,∃d:Nat,vs=[.ref (B .bf),.int d]/\cH c H B n m S k/\d<n/\ik n m S/\(∀p,(S.pg p).mu<=3000)/\(∀e,(S.dn e).length<=9030000)/\(S.up d=[]->E (.ref X) none H)/\
 ∀l r,S.up d=l::r->∀b B' H',cH c H' B' n m (S.Ph d l r) k->TF H H' B n m->Tv H B B' n m->B' .bf=B .bf->H' b=some (.tup l.vs)->Q (.ref b) H'
def aBK(c:C4)(X:Addr):Sp:=λvs H Q E=>∃B n m S k,∃d:Nat,vs=[.ref (B .bf),.int d]/\cH c H B n m S k/\d<n/\ik n m S/\S.row.length<=1500/\(S.up d).length<=1500/\k<=800000/\(S.dn d=[]->E (.ref X) none H)/\
 ∀l r,S.dn d=l::r->∀b H',cH c H' B n m (S.Bj d l r) (k+2)->TF H H' B n m->H' b=some (.tup l.vs)->Q (.ref b) H'
theorem aeZ{H:Hp}:∀{l:List (Nat×Let)} {vs:List V} {i:Nat} {v:V},aG H vs (l.map pairD)->vs[i]? = some v->∃x,l[i]? = some x/\Rep H v (pairD x)
 | [],vs,i,v,h,z=>by simp only[map_nil,aG]at h;subst h;simp at z
 | x::l,vs,i,v,h,z=>by simp only[map_cons,aG]at h;obtain⟨u,us,rfl,F,rl⟩:=h;cases i with| zero=>simp at z;subst z;exact⟨x,rfl,F⟩| succ i=>simp at z;obtain⟨I,h1,h2⟩:=aeZ rl z;exact⟨I,by simpa using h1,h2⟩
theorem MT(T:Txt K w mg t):cX P w K mg base (CX1 P w) 6 t.dG t.nj ["self","desk"] (aBK (c4 t) t.aK):=by
 refine T.Qc.okX vh (λvs H Q E h=>?_) (λap A outer s H vs Q E W h=>?_);{obtain⟨B,n,m,S,k,d,rfl,_⟩:=h;rfl}
 ·obtain⟨B,n,m,S,k,d,rfl,TA,hd,I,z1,z2,z3,k1,k2⟩:=h;refine⟨_,(ao (bu (i:=2) vh.nd rfl (Or.inl rfl) (cI (pv 0) T.dw T.rY (rZ T) (W.mono (by decide):bV 1 _) T.uc .nil Dy (aa (aN bz (cM (pv 0) (by rfl)) (pv 1) (λ_ _=>rfl)) ak)))
   (ao (bN (cI (pv 0) T.dw T.pK (pO T) (W.mono (by decide):bV 1 _) T.qU .nil bW (aa (pv 1) (aa (cI (aN bz (cM (pv 0) (by rfl)) (pv 1) (λ_ _=>rfl)) T.dI T.afP (afX T) (W.mono (by decide):bV 4 _) T.ajh .nil bW (aa (pv 2) ak)) ak))))
   (aA (aZ (pv 2))))),?_⟩
  try dsimp only[dj,Cx.kE]
  show let Z1:L2.TS:=_;let Z2:L2.TS:=_;let Z3:L2.TS:=_;let D0:Ends:=_;(aV Z1 (aV Z2 (Z3))) D0 _ _;intro Z1 Z2 Z3 D0;obtain⟨dx,ht⟩:=TA.ob;obtain⟨uv,u1,F⟩:=TA.dn d hd;refine⟨_,rfl,B .bf,dx,_,rfl,ht,aqh,_,rfl,B .bf,_,dx,_,_,rfl,ht,T.dw,T.fZ,Th,_,rfl,B .downs,_,_,_,rfl,rfl,bU.of TA.os,bR hd,?_⟩;refine⟨_,B (.dn d),uv,rfl,u1,λY=>?_,λv r0 Y=>?_⟩;{subst Y;refine k1 ?_;cases e:S.dn d with| nil=>rfl| cons l r=>rw[e]at F;simp only[map_cons,aG]at F;obtain⟨_,_,z,_⟩:=F;cases z};{subst Y;cases e:S.dn d with| nil=>rw[e]at F;simp only[map_nil,aG]at F;cases F| cons l r=>rw[e]at F;obtain⟨b,us,z,hb,u3⟩:=ajJ F;cases z;have J:=TA.aog hd u3;have f1:TF H (upd H (B (.dn d)) (.lst r0)) B n m:=TF.wr (x:=.dn d) hd;have L:=f1.tups TA _ _ hb;generalize upd H (B (.dn d)) (.lst r0)=H1 at J f1 L;obtain⟨zq,O⟩:=J.ob;obtain⟨⟨Z,wv,g1,_⟩,_⟩:=J.dk d hd;obtain⟨p,hp,ac,_⟩:=I.dn d hd l (by rw[e];simp);refine⟨_,rfl,B .bf,zq,_,rfl,O,alF,_,rfl,_,rfl,B .bf,_,zq,_,_,rfl,O,T.dw,T.gf,uM,_,rfl,B .mD,_,_,_,rfl,rfl,bU.of J.ds,bR hd,B (.dk d),Z,_,rfl,g1,fj _ _ ∅ ∅,_,rfl,?_⟩;refine⟨B (.dk d),B (.cp d),S.ds d,k,b,l,rfl,J.dk d hd,by lia,L,λv H2 D2 f2 r2=>?_⟩;rw[(S.ds d).asN l ac]at D2 r2;dsimp only[J4,append_nil];refine aa1 (z:=(S.ds d).nQ l) J hd (DS.JS _ _).1 (DS.JS _ _).2 z1 z2 D2 (by lia) f2 r2 λl1 xs H3 T3 f3 h1 r3=>?_;refine⟨_,rfl,?_⟩;exact k2 l r e b H3 T3 (f1.trans f3 (Tv.refl _ _ _ _)) (f3.tups J _ _ L)}
theorem Ua(T:Txt K w mg t):cX P w K mg base (CX1 P w) 6 t.eN t.qN ["self","desk"] (aBJ (c4 t) t.aK):=by
 refine T.W4.okX jr (λvs H Q E h=>?_) (λbe A outer s H vs Q E hr h=>?_);{obtain⟨B,n,m,S,k,d,rfl,_⟩:=h;rfl}
 ·obtain⟨B,n,m,S,k,d,rfl,TA,hd,I,z1,z2,k1,k2⟩:=h;have sl:sizeLine=16777216:=by{decide};refine⟨_,(ao (bu (i:=2) jr.nd rfl (Or.inl rfl) (cI (pv 0) T.dw T.rY (rZ T) (hr.mono (by decide):bV 1 _) T.uc .nil Dy (aa (aN bz (cM (pv 0) (by rfl)) (pv 1) (λ_ _=>rfl)) ak)))
   (ao (bu (i:=3) jr.nd rfl (Or.inl rfl) (cI (cM (pv 0) (by rfl)) T.alK T.afR (afZ T) (hr.mono (by decide):bV 5 _) T.ajo .nil bW (aa (pv 1) (aa (pv 2) ak))))
   (ao (mU PassesOwn.leaving rfl (ou (pv 3)) (Gz rfl (dJ (cj (i:=4) jr.nd rfl (Or.inl rfl)) (dJ (cj (i:=5) jr.nd rfl (Or.inl rfl)) ug))) (aA (bN (dZ plainAttrs_list PySem.F.slot_list_append PySem.F.type_list_append cu (aN bz (cM (pv 0) (by rfl)) (pv 4) (λ_ _=>rfl)) (aa (pv 5) ak)))))
   (aA (aZ (pv 2)))))),?_⟩
  try dsimp only[dj,Cx.kE]
  show let Z1:L2.TS:=_;let Z2:L2.TS:=_;let Z3:L2.TS:=_;let Z4:L2.TS:=J3 _ _ Z3;let Z5:L2.TS:=_;let D0:Ends:=_;(aV Z1 (aV Z2 (aV Z4 (Z5)))) D0 _ _;intro Z1 Z2 Z3 Z4 Z5 D0;obtain⟨dx,ht⟩:=TA.ob;obtain⟨uv,u1,O⟩:=TA.up d hd;refine⟨_,rfl,B .bf,dx,_,rfl,ht,aqh,_,rfl,B .bf,_,dx,_,_,rfl,ht,T.dw,T.fY,Zd,_,rfl,B .ups,_,_,_,rfl,rfl,bU.of TA.us,bR hd,?_⟩;refine⟨_,B (.up d),uv,rfl,u1,λe0=>?_,λv r0 e0=>?_⟩;{subst e0;refine k1 ?_;cases e:S.up d with| nil=>rfl| cons l r=>rw[e]at O;simp only[map_cons,aG]at O;obtain⟨_,_,z,_⟩:=O;cases z};{subst e0;cases e:S.up d with| nil=>rw[e]at O;simp only[map_nil,aG]at O;cases O| cons l r=>rw[e]at O;obtain⟨b,us,z,hb,u3⟩:=anm O;cases z;obtain⟨_,af,ar,hok⟩:=I.take hd e;have Y:=TA.aiV hd u3;have f1:TF H (upd H (B (.up d)) (.lst r0)) B n m:=TF.wr (x:=.up d) hd;have Z:=f1.tups TA _ _ hb;generalize upd H (B (.up d)) (.lst r0)=H1 at Y f1 Z;obtain⟨zq,as⟩:=Y.ob;obtain⟨au,hh⟩:=Y.hl.ob;refine⟨_,rfl,B .bf,_,zq,_,_,rfl,as,T.dw,T.ur,aqg,B (.h .hall),au,_,rfl,hh,ap8,_,rfl,_,rfl,?_⟩;refine⟨λx=>B (.h x),m,S.pg,b,l,d,rfl,Y.hl,Z,af,ar,(I.pn _ af).rw,by have:=z1 l.pg;lia,?_⟩;intro pl A' vs H2 av aw ax mv nl eh ag ac;obtain⟨T2,f2,ah⟩:=Y.hall aw ax mv eh;have ay:=f2.tups Y _ _ Z;have ai:∀x:Tb,x.ok n m->pl≠mvB B A' x:=λx hx=>by{cases x with| h y=>exact nl y hx| _=>exact(Y.ne hx av).symm};generalize az:mvB B A'=J at T2 ah ai;have et:J .bf=B .bf:=by{rw[<-az];rfl};have aB:=f1.trans f2 (Tv.refl _ _ _ _);have aj:Tv H B J n m:=λx hx=>(ah x hx).imp id λz=>f1.lv _ z;have al:vs.length=((S.pg l.pg).take l.pg d l).2.length:=by{rw[ac.length,length_map]};have aC:=((S.pg l.pg).amY l.pg d l).2;have br:=z1 l.pg;generalize hz:((S.pg l.pg).take l.pg d l).2=zs at ac al aC hok;rw[<-et];refine⟨_,rfl,pl,rfl,⟨_,bU.of ag⟩,?_⟩;let W9:Nat->St->Hp->Prop:=λi ap H'=>(∃o1 o2,ap=[some (.ref (J .bf)),some (.int d),some (.ref b),some (.ref pl),o1,o2])/\i<=vs.length/\cH (c4 t) H' J n m {S with up:=aM S.up d r,pg:=aM S.pg l.pg ((S.pg l.pg).take l.pg d l).1,dn:=post S.dn (zs.take i)} k/\TF H2 H' J n m;refine rF (xs:=vs) W9 ?_ ?_ ?_ ?_;{refine⟨⟨_,_,rfl⟩,zero_le _,?_,TF.refl _ _ _ _⟩;simpa[post] using T2};{rintro i ap H' _ ⟨_,_,_,f'⟩;exact bU.of (f'.kp _ _ ag ai)};{rintro i y ap H' hy ⟨⟨o1,o2,rfl⟩,hi,T',f'⟩;have bw:i<vs.length:=(List.getElem?_eq_some_iff.mp hy).1;obtain⟨q,hq,rq⟩:=aeZ (ac.aU (f'.tups T2) (dm _)) hy;have aF:q∈zs:=mem_of_getElem? hq;have L:q.1<n:=(hok q aF).1;obtain⟨W,ql⟩:=q;simp only[pairD,Rep,aG]at rq;obtain⟨c,bx,rfl,hc,_,_,rfl,rfl,lv,_,rfl,aH,rfl⟩:=rq;have aI:zs.take (i+1)=zs.take i++[(W,ql)]:=by{rw[take_add_one,hq];rfl};refine⟨c,_,rfl,cW.of hc,rfl,_,_,rfl,_,_,rfl,rfl,?_⟩;obtain⟨aJ,aL⟩:=T'.ob;obtain⟨dv,d1,d2⟩:=T'.dn W L;have aP:dv.length<sizeLine:=by{rw[d2.length,length_map];show(post S.dn (zs.take i) W).length<_;have h1:=Pg S.dn (zs.take i) W;have h2:=z2 W;have h3:(zs.take i).length<=zs.length:=by{rw[length_take];lia};lia};refine⟨_,rfl,J .bf,_,aJ,_,_,rfl,aL,T.dw,T.fZ,Th,_,rfl,J .downs,_,_,_,rfl,rfl,bU.of T'.os,bR L,.inl ⟨rfl,_,bU.of d1⟩,_,rfl,J (.dn W),dv,_,rfl,rfl,d1,aP,?_⟩;have aQ:aG H' (dv++[lv]) ((post S.dn (zs.take i) W++[ql]).map Let.d):=by{rw[map_append];exact aG.snoc d2 aH};have T4:=T'.aog L aQ;refine⟨⟨_,_,rfl⟩,by lia,?_,f'.trans (TF.wr (x:=.dn W) L) (Tv.refl _ _ _ _)⟩;rw[aI,aeD];exact T4};{rintro ap H' ⟨⟨o1,o2,rfl⟩,_,T',f'⟩;rw[al,take_length]at T';refine⟨_,rfl,?_⟩;refine k2 l r e b J H' ?_ (aB.trans f' aj) aj et (f'.tups T2 _ _ ay);unfold TS.Ph;rw[hz];exact T'}}
end
def xOf(nd np wt nc nl:Addr)(s:Str):Addr:=if s="no desk" then nd else if s="no page" then np else if s="waiting" then wt else if s="no copy" then nc else nl
section
variable{nd np wt nc nl:Addr}
theorem arl:xOf nd np wt nc nl "no desk"=nd:=by kernel_rfl
theorem arn:xOf nd np wt nc nl "no page"=np:=by kernel_rfl
theorem aro:xOf nd np wt nc nl "waiting"=wt:=by kernel_rfl
theorem arp:xOf nd np wt nc nl "no copy"=nc:=by kernel_rfl
theorem al3:xOf nd np wt nc nl "no letter"=nl:=by kernel_rfl
end
def ayw(c:C4)(X:Str->Addr):Sp:=λvs H Q E=>∃B n m S k a x se,∃tt:Nat,vs=[.ref (B .bf),.ref a]/\cH c H B n m S k/\H a=some (.tup (bG.vs x))/\ik n m S/\Bd tt S se/\tt<=1500/\k<=800000/\
 (qW n m S x=""->∀v B' H',cH c H' B' n m (S.step n m x).1 (k+2)->TF H H' B n m->Tv H B B' n m->B' .bf=B .bf->Rep H' v (S.step n m x).2->Q v H')/\
 ∀s,qW n m S x=s->s≠""->∀H',bK H H'->E (.ref (X s)) none H'
section
variable{n m d:Nat}{S:TS}(h1:inR (d:Int) n)
include h1
theorem anx:qW n m S (.up d)=bif (S.up d).isEmpty then("no letter":Str)else "":=by show(if inR (d:Int) n then _ else _)=_;rw[if_pos h1];rfl
theorem ae0:qW n m S (.down d)=bif (S.dn d).isEmpty then("no letter":Str)else "":=by show(if inR (d:Int) n then _ else _)=_;rw[if_pos h1];rfl
theorem ae1{p:Int}(h2:inR p m):qW n m S (.rest d p)=bif decide ((S.ds d).rt p=.no)then("no copy":Str)else "":=by show(if inR (d:Int) n then(if inR p m then _ else _)else _)=_;rw[if_pos h1,if_pos h2];rfl
theorem aoA{p:Int}(h2:inR p m):qW n m S (.look d p)=bif (S.ds d).ws.isSome then("waiting":Str)else "":=by show(if inR (d:Int) n then(if inR p m then _ else _)else _)=_;rw[if_pos h1,if_pos h2];rfl
theorem arq{p y:Int}(h2:inR p m):qW n m S (.put d p y)=bif (S.ds d).ws.isSome then("waiting":Str)else "":=by show(if inR (d:Int) n then(if inR p m then _ else _)else _)=_;rw[if_pos h1,if_pos h2];rfl
theorem anz{q:W}(h2:inR q.pg m):qW n m S (wd d q)=bif (S.ds d).ws.isSome then("waiting":Str)else "":=by
 cases q with| look p=>exact aoA h1 h2| put p y=>exact arq h1 h2
theorem auA{p:Int}{x:bG}(h2:¬inR p m)(z:x=.look d p\/(∃y,x=.put d p y)\/x=.rest d p):qW n m S x="no page":=by
 rcases z with rfl | ⟨y,rfl⟩ | rfl<;>(show(if inR (d:Int) n then(if inR p m then _ else _)else _)=_;rw[if_pos h1,if_neg h2])
end
theorem ars(S:DS)(w:W):anw S w=if S.ok w then aeX S w else .s "waits":=by cases w<;>rfl
section
variable{P:Program}{w:World}{K:Frag}{mg:Str->Option Value}{base:Heap}{t:Ht}
abbrev xT(t:Ht):Str->Addr:=xOf t.bB t.bx t.aR t.bh t.aK
theorem Xe(T:Txt K w mg t):cX P w K mg base (CX1 P w) 7 t.fD t.tG ["self","deed"] (ayw (c4 t) (xT t)):=by
 refine T.aap.okX mR (λvs H Q E h=>?_) (λaQ A outer s H vs Q E Y h=>?_);{obtain⟨B,n,m,S,k,a,x,se,tt,rfl,_⟩:=h;rfl}
 ·obtain⟨B,n,m,S,k,a,x,se,tt,rfl,TA,ha,I,bd,al,hk,k1,k2⟩:=h;have n1:("no desk":Str)≠"":=∅;have n2:("no page":Str)≠"":=∅;have n3:("no letter":Str)≠"":=∅;have n4:("no copy":Str)≠"":=∅;have n5:("waiting":Str)≠"":=∅;have a1:=avF al;obtain⟨dx,J⟩:=TA.ob;have ar:=bd.row;refine⟨_,(ao (bu (i:=2) mR.nd rfl (Or.inl rfl) (aN bC (pv 1) aB (λ_ _=>rfl)))
   (ao (bu (i:=3) mR.nd rfl (Or.inl rfl) (aN bC (pv 1) aB (λ_ _=>rfl)))
   (ao (bN (cI (pv 0) T.dw T.Mu (MN T) (Y.mono (by decide):bV 1 _) T.PX .nil Dy (aa (pv 3) ak)))
   (ao (bY (aP cQ (pv 2) aC (aY _)) (aA (aZ (cI (pv 0) T.dw T.TQ (Ua T) (Y.mono (by decide):bV 6 _) T.W5 .nil Dy (aa (pv 3) ak)))) bw)
   (ao (bY (aP cQ (pv 2) aC (aY _)) (aA (aZ (cI (pv 0) T.dw T.Mx (MT T) (Y.mono (by decide):bV 6 _) T.Qd .nil Dy (aa (pv 3) ak)))) bw)
   (ao (bu (i:=4) mR.nd rfl (Or.inl rfl) (aN bC (pv 1) aB (λ_ _=>rfl)))
   (ao (bN (cI (pv 0) T.dw T.Mw (MP T) (Y.mono (by decide):bV 1 _) T.Qa .nil Dy (aa (pv 4) ak)))
   (ao (bY (aP cQ (pv 2) aC (aY _)) (aA (aZ (cI (pv 0) T.dw T.W3 (Xd T) (Y.mono (by decide):bV 4 _) T.aav .nil Dy (aa (pv 3) (aa (pv 4) ak))))) bw)
   (ao (bY (aP cQ (pv 2) aC (aY _)) (aA (aZ (cI (pv 0) T.dw T.W2 (Xc T) (Y.mono (by decide):bV 4 _) T.aas .nil Dy (aa (pv 3) (aa (pv 4) ak))))) bw)
   (aA (aZ (cI (pv 0) T.dw T.aat (aa2 T) (Y.mono (by decide):bV 4 _) T.acR .nil Dy (aa (pv 3) (aa (pv 4) (aa (aN bC (pv 1) aB (λ_ _=>rfl)) ak))))))))))))))),?_⟩
  try dsimp only[dj,Cx.kE]
  show let Z1:L2.TS:=_;let Z2:L2.TS:=_;let Z3:L2.TS:=_;let Z4:L2.TS:=_;let Z5:L2.TS:=cR _ Z4 bM;let Z6:L2.TS:=_;let Z7:L2.TS:=cR _ Z6 bM;let Z8:L2.TS:=_;let Z9:L2.TS:=_;let z8:L2.TS:=_;let KC:L2.TS:=cR _ z8 bM;let KD:L2.TS:=_;let Qv:L2.TS:=cR _ KD bM;let Qw:L2.TS:=_;let D0:Ends:=_;(aV Z1 (aV Z2 (aV Z3 (aV Z5 (aV Z7 (aV Z8 (aV Z9 (aV KC (aV Qv (Qw)))))))))) D0 _ _;intro Z1 Z2 Z3 Z4 Z5 Z6 Z7 Z8 Z9 z8 KC KD Qv Qw D0;refine zt rfl (cW.of ha) (bG.at0 x) ?_;refine zt rfl (cW.of ha) (bG.at1 x) ?_;refine⟨_,rfl,B .bf,dx,_,rfl,J,axg,_,rfl,B,n,m,S,k,x.dk,rfl,TA,λZ=>?_,λhn=>?_⟩
  ·obtain⟨d,hd⟩:∃d:Nat,x.dk=(d:Int):=⟨x.dk.toNat,by unfold inR at Z;lia⟩;have z:d<n:=by{unfold inR at Z;lia};have F:inR (d:Int) n:=by{rw[<-hd];exact Z};have a3:=bd.up d;rw[hd];have dN:∀(wq:W) (p:Nat),x=wd d wq->wq.pg=(p:Int)->p<m->ayt (c4 t) t.aR H B n m S k d p wq Q E:=λwq p ex ew hp=>by
    subst ex;have h2:inR wq.pg m:=by{rw[ew];exact⟨by lia,by lia⟩};refine⟨λh0 v H' T' f' r'=>?_,λh0 H' s'=>?_⟩;{have st:=(anp z hp ew h0).1;refine k1 ?_ v B H' ?_ f' (Tv.refl _ _ _ _) rfl ?_;{rw[anz F h2,h0];rfl};{rw[st];exact T'};{rw[st,<-ars];exact r'}}
    ·have:=k2 "waiting" (by
      obtain⟨w',am⟩:=Option.ne_none_iff_exists'.mp h0
      rw[anz F h2,am];rfl) n5 H' s'
     rw[show xT t "waiting"=t.aR from aro]at this;exact this
   have ae:∀p:Int,¬inR p m->(x=.look d p\/(∃y,x=.put d p y)\/x=.rest d p)->E (.ref t.bx) none H:=λp hp hx=>by{have:=k2 "no page" (auA F hp hx) n2 H (bK.refl _);rw[show xT t "no page"=t.bx from arn]at this;exact this};refine⟨_,rfl,rfl,_,rfl,?_⟩;cases x with
   | up L=>have O:L=(d:Int):=hd;subst O;refine bH fQ ?_;refine⟨_,rfl,B .bf,dx,_,rfl,J,axl,_,rfl,B,n,m,S,k,d,rfl,TA,z,I,λp=>by have:=bd.mu p;lia,λe=>by have:=bd.dn e;lia,λe=>?_,λl r e b B' H' T' f' an ap af=>?_⟩;{have:=k2 "no letter" (by rw[anx F,e];rfl) n3 H (bK.refl _);rw[show xT t "no letter"=t.aK from al3]at this;exact this};{have st:S.step n m (.up d)=(S.Ph d l r,l.d):=by{simp only[TS.step];rw[if_pos F,Int.toNat_natCast];unfold TS.upD;rw[e]};refine k1 (by rw[anx F,e];rfl) _ B' H' ?_ f' an ap ?_;{rw[st];exact T'.more (by lia)};{rw[st];exact aaO af}}
   | down L=>have O:L=(d:Int):=hd;subst O;refine aL (du (a:="down") (b:="up") ∅) ?_;refine⟨_,rfl,rfl,_,rfl,?_⟩;refine bH fQ ?_;refine⟨_,rfl,B .bf,dx,_,rfl,J,axm,_,rfl,B,n,m,S,k,d,rfl,TA,z,I,by lia,by lia,hk,λe=>?_,λl r e b H' T' f' af=>?_⟩;{have:=k2 "no letter" (by rw[ae0 F,e];rfl) n3 H (bK.refl _);rw[show xT t "no letter"=t.aK from al3]at this;exact this};{have st:S.step n m (.down d)=(S.Bj d l r,l.d):=by{simp only[TS.step];rw[if_pos F,Int.toNat_natCast];unfold TS.Kd;rw[e]};refine k1 (by rw[ae0 F,e];rfl) _ B H' ?_ f' (Tv.refl _ _ _ _) rfl ?_;{rw[st];exact T'};{rw[st];exact ano af}}
   | rest L p=>have O:L=(d:Int):=hd;subst O;refine aL (du (a:="rest") (b:="up") ∅) ?_;refine⟨_,rfl,rfl,_,rfl,?_⟩;refine aL (du (a:="rest") (b:="down") ∅) ?_;refine zt rfl (cW.of ha) rfl ?_;refine⟨_,rfl,B .bf,dx,_,rfl,J,alE,_,rfl,B,n,m,S,k,p,rfl,TA,λhp=>?_,λhp=>ae p hp (.inr (.inr rfl))⟩;obtain⟨pn,rfl⟩:∃q:Nat,p=(q:Int):=⟨p.toNat,by unfold inR at hp;lia⟩;refine⟨_,rfl,rfl,_,rfl,?_⟩;refine bH fQ ?_;refine⟨_,rfl,B .bf,dx,_,rfl,J,axk,_,rfl,_,rfl,B,n,m,S,k,d,pn,rfl,TA,z,by lia,hk,λe H' T' f'=>?_,λe=>?_⟩;{have st:S.step n m (.rest d pn)=(S.lu d pn,.s "done"):=by{simp only[TS.step];rw[if_pos F,if_pos hp,Int.toNat_natCast,if_neg e,Int.toNat_natCast]};refine k1 (by rw[ae1 F hp,decide_eq_false e];rfl) _ B H' ?_ f' (Tv.refl _ _ _ _) rfl ?_;{rw[st];exact T'};{rw[st];simp only[Rep]}};{have:=k2 "no copy" (by rw[ae1 F hp,decide_eq_true e];rfl) n4 H (bK.refl _);rw[show xT t "no copy"=t.bh from arp]at this;exact this}
   | look L p=>have O:L=(d:Int):=hd;subst O;refine aL (du (a:="look") (b:="up") ∅) ?_;refine⟨_,rfl,rfl,_,rfl,?_⟩;refine aL (du (a:="look") (b:="down") ∅) ?_;refine zt rfl (cW.of ha) rfl ?_;refine⟨_,rfl,B .bf,dx,_,rfl,J,alE,_,rfl,B,n,m,S,k,p,rfl,TA,λhp=>?_,λhp=>ae p hp (.inl rfl)⟩;obtain⟨pn,rfl⟩:∃q:Nat,p=(q:Int):=⟨p.toNat,by unfold inR at hp;lia⟩;refine⟨_,rfl,rfl,_,rfl,?_⟩;refine aL (du (a:="look") (b:="rest") ∅) ?_;refine⟨_,rfl,rfl,_,rfl,?_⟩;refine bH fQ ?_;exact⟨_,rfl,B .bf,dx,_,rfl,J,axi,_,rfl,_,rfl,B,n,m,S,k,d,pn,rfl,TA,z,by lia,by lia,hk,dN (.look pn) pn rfl rfl (by unfold inR at hp;lia)⟩
   | put L p y=>have O:L=(d:Int):=hd;subst O;refine aL (du (a:="put") (b:="up") ∅) ?_;refine⟨_,rfl,rfl,_,rfl,?_⟩;refine aL (du (a:="put") (b:="down") ∅) ?_;refine zt rfl (cW.of ha) rfl ?_;refine⟨_,rfl,B .bf,dx,_,rfl,J,alE,_,rfl,B,n,m,S,k,p,rfl,TA,λhp=>?_,λhp=>ae p hp (.inr (.inl ⟨y,rfl⟩))⟩;obtain⟨pn,rfl⟩:∃q:Nat,p=(q:Int):=⟨p.toNat,by unfold inR at hp;lia⟩;refine⟨_,rfl,rfl,_,rfl,?_⟩;refine aL (du (a:="put") (b:="rest") ∅) ?_;refine⟨_,rfl,rfl,_,rfl,?_⟩;refine aL (du (a:="put") (b:="look") ∅) ?_;exact⟨_,rfl,B .bf,dx,_,rfl,J,axj,_,rfl,_,rfl,zt rfl (cW.of ha) rfl ⟨B,n,m,S,k,d,pn,y,rfl,TA,z,by lia,by lia,hk,dN (.put pn y) pn rfl rfl (by unfold inR at hp;lia)⟩⟩
  ·have:=k2 "no desk" (by unfold qW;rw[if_neg hn]) n1 H (bK.refl _);rw[show xT t "no desk"=t.bB from arl]at this;exact this
structure Kp(p:Addr)(H H':Hp):Prop where
 kp:∀b o,H b=some o->b≠p->H' b=some o
 lv:Lv H H'
theorem Kp.trans{p:Addr}{H H1 H2:Hp}(x:Kp p H H1)(y:Kp p H1 H2):Kp p H H2:=⟨λb o h n=>y.kp b o (x.kp b o h n) n,x.lv.trans y.lv⟩
theorem Kp.same{p:Addr}{H H1:Hp}(s:bK H H1):Kp p H H1:=⟨λb o h _=>s b o h,Lv.same s⟩
theorem Kp.upd{p:Addr}{H:Hp}{o:HO}:Kp p H (upd H p o):=⟨λb u h n=>by rw[az n];exact h,Lv.upd⟩
theorem Kp.tups{p:Addr}{H H1:Hp}(k:Kp p H H1){o:HO}(hp:H p=some o)(F:∀xs,o≠.tup xs):cz H H1:=λb xs e=>k.kp b _ e λz=>by rw[z,hp]at e;exact F xs (Option.some.inj e)
theorem aoB{ι:Type}{A:ι->Addr}{ok:ι->Prop}(z:ι->Nat)(F:Nat->Hp)(mono:∀i,Lv (F i) (F (i+1)))(new:∀x,ok x->F (z x) (A x)=none)(live:∀x,ok x->∃o,F (z x+1) (A x)=some o)
 (same:∀x y,ok x->ok y->z x=z y->A x=A y->x=y):∀x y,ok x->ok y->A x=A y->x=y:=by
 have O:∀k i,Lv (F i) (F (i+k)):=λk=>by{induction k with| zero=>exact λi=>Lv.refl _| succ k W=>exact λi=>(W i).trans (mono (i+k))};have I:∀x y,ok x->ok y->z x<z y->A x≠A y:=λx y J L h e=>by{obtain⟨o,h1⟩:=live x J;have h2:=O (z y - (z x+1)) (z x+1) (A x);rw[show z x+1+(z y - (z x+1))=z y by lia,e,new y L]at h2;rw[e,h2 rfl]at h1;cases h1};intro x y J L e;rcases Nat.lt_trichotomy (z x) (z y)with h | h | h;{exact absurd e (I x y J L h)};{exact same x y J L h e};{exact absurd e.symm (I y x L J h)}
def ds0:DS:=⟨λ_=>.no,λ_=>0,none⟩
theorem al5{C:Addr}{n:Nat}{acc:Addr}{te:TE}{σ:St}{H1:Hp}{Q:VK}(Z:St->Prop)(h0:Z σ)(O:H1 acc=none)(hn:n<=1000)
 (hg:∀i I,Z I->Z (I.set 0 (some (.int i))))
 (ah:∀I H' (R:VK),Z I->(∀x d J,H' x=none->H' d=none->bK H' J->cC C J x d ds0 0->R (.ref x) J)->te I H' R)
 (hd:∀(f g:Nat->Addr) H',bK H1 H'->H' acc=some (.lst ((range n).map λd=>V.ref (f d)))->(∀d,d<n->H1 (f d)=none/\H1 (g d)=none/\f d≠acc/\g d≠acc/\cC C H' (f d) (g d) ds0 0)->(∀d e,d<n->e<n->f d=f e->d=e)->(∀d e,d<n->e<n->g d=g e->d=e)->Q (.ref acc) H') :
 GQ (Itr 0 n) (aep 0) aob te σ acc H1 Q:=by
 have sl:sizeLine=16777216:=by{decide};let W9:Nat->List V->St->Hp->Prop:=λi zs I H'=>Z I/\bK H1 H'/\H' acc=some (.lst zs)/\∃f g:Nat->Addr,zs=(range i).map (λd=>V.ref (f d))/\(∀d,d<i->H1 (f d)=none/\H1 (g d)=none/\f d≠acc/\g d≠acc/\cC C H' (f d) (g d) ds0 0)/\(∀d e,d<i->e<i->f d=f e->d=e)/\∀d e,d<i->e<i->g d=g e->d=e;refine Bh W9 ?_ ?_ ?_ ?_;{exact⟨h0,aq O,aj,λ_=>0,λ_=>0,rfl,λd hd=>absurd hd (Nat.not_lt_zero _),λd e hd=>absurd hd (Nat.not_lt_zero _),λd e hd=>absurd hd (Nat.not_lt_zero _)⟩};{rintro i zs I H' _ ⟨_,_,h,_⟩;exact h};{rintro i zs I H' hi ⟨hp,s',F,f,g,rfl,hf,inj,W⟩;refine O9 (ah _ H' _ (hg _ _ hp) λx d J hx L Y ai=>?_);have aa:=Y _ _ F;have ac:acc≠x:=aF F hx;have ad:acc≠d:=aF F L;have hz:((range i).map λd=>V.ref (f d)).length<sizeLine:=by{rw[length_map,length_range];lia};have tl:=iB (vs:=(range i).map (λd=>V.ref (f d))++[.ref x]) aa;have live:∀e,e<i->(∃o,H' (f e)=some o)/\∃o,H' (g e)=some o:=λe he=>by{obtain⟨⟨dx,v,e1,_⟩,⟨kvs,e2,_⟩⟩:=(hf e he).2.2.2.2;exact⟨⟨_,e1⟩,⟨_,e2⟩⟩};refine wK.mk hi aa hz ⟨hg _ _ hp,dB (s'.trans Y) O,aj,aM f i x,aM g i d,?_,λe he=>?_,λa e hd he h=>?_,λa e hd he h=>?_⟩;{rw[range_succ,map_append];congr 1;{refine map_congr_left λd hd=>?_;rw[aX _ _ (ne_of_lt (mem_range.mp hd))]};{show [V.ref x]=[V.ref _];rw[aJ]}};{by_cases y:e=i;{subst y;rw[aJ,aJ];exact⟨bK.free s' hx,bK.free s' L,ac.symm,ad.symm,ai.keep tl (λo z=>by rw[az ac.symm];exact z) λo z=>by rw[az ad.symm];exact z⟩};{rw[aX _ _ y,aX _ _ y];obtain⟨h1,h2,h3,h4,h5⟩:=hf e (by lia);exact⟨h1,h2,h3,h4,(h5.same Y).keep tl (λo z=>by rw[az h3];exact z) λo z=>by rw[az h4];exact z⟩}};{by_cases h1:a=i;{by_cases h2:e=i;{rw[h1,h2]};{rw[h1,aJ,aX _ _ h2]at h;obtain⟨⟨o,z⟩,_⟩:=live e (by lia);rw[<-h,hx]at z;cases z}};{by_cases h2:e=i;{rw[h2,aJ,aX _ _ h1]at h;obtain⟨⟨o,z⟩,_⟩:=live a (by lia);rw[h,hx]at z;cases z};{rw[aX _ _ h1,aX _ _ h2]at h;exact inj a e (by lia) (by lia) h}}};{by_cases h1:a=i;{by_cases h2:e=i;{rw[h1,h2]};{rw[h1,aJ,aX _ _ h2]at h;obtain⟨_,⟨o,z⟩⟩:=live e (by lia);rw[<-h,L]at z;cases z}};{by_cases h2:e=i;{rw[h2,aJ,aX _ _ h1]at h;obtain⟨_,⟨o,z⟩⟩:=live a (by lia);rw[h,L]at z;cases z};{rw[aX _ _ h1,aX _ _ h2]at h;exact W a e (by lia) (by lia) h}}}};{rintro zs I H' ⟨_,s',F,f,g,rfl,hf,inj,W⟩;exact hd f g H' s' F hf inj W}
def al6(c:C4):Sp:=λvs H Q _=>∃p dx l,∃n:Nat,∃ns:List Int,vs=[.ref p,.int n,.ref l]/\H p=some (.ins c.T dx [])/\H l=some (.lst (ns.map V.int))/\n<=1000/\ns.length<=1000/\
 ∀B H',B .bf=p->(∀x:Tb,x.ok n ns.length->x≠.bf->H (B x)=none)->cH c H' B n ns.length (S0 ns) 0->Kp p H H'->Q .non H'
def rkT:Tb->Nat
 | .bf=>0
 | .h _=>1
 | .mD=>2
 | .dk _=>2
 | .cp _=>2
 | .ups=>3
 | .up _=>3
 | .downs=>4
 | .dn _=>4
 | .row=>5
def hsT(a b c d e f:Hp):Nat->Hp
 | 0=>λ_=>none
 | 1=>a
 | 2=>b
 | 3=>c
 | 4=>d
 | 5=>e
 | _=>f
def bT(p:Addr)(A:Hb->Addr)(ad au aw r:Addr)(f g u o:Nat->Addr):Tb->Addr
 | .bf=>p
 | .h x=>A x
 | .mD=>ad
 | .dk d=>f d
 | .cp d=>g d
 | .ups=>au
 | .up d=>u d
 | .downs=>aw
 | .dn d=>o d
 | .row=>r
theorem af6(T:Txt K w mg t):cX P w K mg base mW 5 t.jb t.Cg ["self","count","numbers"] (al6 (c4 t)):=by
 refine T.ajp.ok afG (λvs H Q E h=>?_) (λcn A outer s H vs Q E hr h=>?_);{obtain⟨p,dx,l,n,ns,rfl,_⟩:=h;rfl}
 ·obtain⟨p,dx,l,n,ns,rfl,hp,hl,hn,bD,bE⟩:=h;have nb : -(2 ^ 62)<=((n:Nat):Int)/\((n:Nat):Int)<2 ^ 62:=⟨by lia,by lia⟩;have bG:l≠p:=jP hl hp ⟨⟩;refine⟨_,(ao (gO (pv 0) (cG cJ (by rfl) T.pL PySem.boot_len (aa (pv 2) ak)) (by rfl))
   (ao (gO (pv 0) (afm T.afK (af0 T) (hr.mono (by decide):bV 4 _) (by rfl) T.axz T.ajm .nil bW (aa (pv 2) ak)) (by rfl))
   (ao (gO (pv 0) (mO (gD (xs:=["desk"]) (ys:=[]) (js:=[]) rfl ∅ ∅ ∅ (by rfl) trivial) rfl (fU (by rfl) T.jN (aa (pv 1) ak)) (λ_ _ _ _ _=>(cj (i:=0) (show Nodup ((["desk"]:List Str)++([]:List Str):List Str)by decide +kernel) rfl (Or.inl rfl))) (λ_ _ _ _ _=>oG) (λ_ _ _ _ _=>(apC T.afJ (afW T) (hr.mono (by decide):bV 2 _) (by rfl) T.axy T.aje .nil bW))) (by rfl))
   (ao (gO (pv 0) (mO (gD (xs:=["desk"]) (ys:=[]) (js:=[]) rfl ∅ ∅ ∅ (by rfl) trivial) rfl (fU (by rfl) T.jN (aa (pv 1) ak)) (λ_ _ _ _ _=>(cj (i:=0) (show Nodup ((["desk"]:List Str)++([]:List Str):List Str)by decide +kernel) rfl (Or.inl rfl))) (λ_ _ _ _ _=>oG) (λ_ _ _ _ _=>(bJ ak))) (by rfl))
   (ao (gO (pv 0) (mO (gD (xs:=["desk"]) (ys:=[]) (js:=[]) rfl ∅ ∅ ∅ (by rfl) trivial) rfl (fU (by rfl) T.jN (aa (pv 1) ak)) (λ_ _ _ _ _=>(cj (i:=0) (show Nodup ((["desk"]:List Str)++([]:List Str):List Str)by decide +kernel) rfl (Or.inl rfl))) (λ_ _ _ _ _=>oG) (λ_ _ _ _ _=>(bJ ak))) (by rfl))
   (aA (gO (pv 0) (bJ ak) (by rfl)))))))),?_⟩
  try dsimp only[dj,Cx.kE]
  show let Z1:L2.TS:=_;let Z2:L2.TS:=_;let Z3:L2.TS:=_;let Z4:L2.TS:=_;let Z5:L2.TS:=_;let Z6:L2.TS:=_;let D0:Ends:=_;(aV Z1 (aV Z2 (aV Z3 (aV Z4 (aV Z5 (Z6)))))) D0 _ _;intro Z1 Z2 Z3 Z4 Z5 Z6 D0;refine⟨_,rfl,l,_,rfl,.inl (bU.of hl),_,rfl,p,_,dx,[],rfl,hp,T.dw,T.jM,(by show 0<1000;decide),?_⟩;rw[length_map];have K1:Kp p H (upd H p (.ins t.bF dx (gJ "page_count" (.int (ns.length:Nat)) []))):=Kp.upd;have ai:upd H p (.ins t.bF dx (gJ "page_count" (.int (ns.length:Nat)) [])) p=some (.ins t.bF dx (gJ "page_count" (.int (ns.length:Nat)) [])):=aj;generalize upd H p (.ins t.bF dx (gJ "page_count" (.int (ns.length:Nat)) []))=H1 at K1 ai;refine⟨_,rfl,λx bH hx bh nx=>?_⟩;have aN:=K1.kp _ _ hl bG;refine⟨x,bH,l,ns,rfl,aj,?_,bD,λAh H2 eh fr HA bi co=>⟨rfl,?_⟩⟩;{rw[az (aF aN hx),az (aF aN bh)];exact aN};have aO:bK H1 H2:=λb o e=>bi b o (by rw[az (aF e hx),az (aF e bh)];exact e) (aF e hx);have aP:∀z:Hb,z.ok ns.length->H1 (Ah z)=none:=λz F=>by{by_cases e:z=.hall;{rw[e,eh];exact hx};{exact Lv.upd _ (Lv.upd _ (fr z F e))}};clear bi fr;refine⟨_,rfl,p,_,dx,_,rfl,aO _ _ ai,T.dw,T.ur,(by show 1<1000;decide),?_⟩;generalize al:gJ "hall" (.ref x) (gJ "page_count" (.int (ns.length:Nat)) [])=Y;have bI:Y.length=2:=by{rw[<-al];rfl};have K2:Kp p H1 (upd H2 p (.ins t.bF dx Y)):=(Kp.same aO).trans Kp.upd;have aQ:Kp p H2 (upd H2 p (.ins t.bF dx Y)):=Kp.upd;have an:upd H2 p (.ins t.bF dx Y) p=some (.ins t.bF dx Y):=aj;have bj:=aQ.tups (aO _ _ ai) (λxs z=>by cases z);have bl:∀z:Hb,z.ok ns.length->Ah z≠p:=λz F e=>by{have:=aP z F;rw[e,ai]at this;cases this};have aC:=HA.keep bj (λz F o e=>aQ.kp _ o e (bl z F));clear HA bj aQ;generalize upd H2 p (.ins t.bF dx Y)=aR at K2 an aC;refine⟨_,rfl,(n:Int),rfl,nb.1,nb.2,λad ap=>?_⟩;rw[Int.toNat_natCast];refine al5 (C:=t.bQ) (λar=>∃o,ar=[o]) ⟨_,rfl⟩ ap hn (λi ar h=>by obtain⟨o,rfl⟩:=h;exact⟨_,rfl⟩) (λar H' R ⟨o,e⟩ hR=>?_) (λf g H3 s3 bo I bM bN=>?_);{intro y dy Z bO ny;refine⟨y,dy,rfl,aj,λd bP bp bR bS=>⟨rfl,hR y d bP Z (Lv.upd _ (Lv.upd _ bp)) (λb o e=>bS b o ?_ (aF e Z)) bR⟩⟩;rw[az (aF e Z),az (aF e bO)];exact e};refine⟨_,rfl,p,_,dx,_,rfl,s3 _ _ an,T.dw,T.gf,(by rw[bI];show 2<1000;decide),?_⟩;generalize aD:gJ "desks" (.ref ad) Y=L;have bX:L.length=3:=by{rw[<-aD,<-al];kernel_rfl};have K3:Kp p aR (upd H3 p (.ins t.bF dx L)):=(Kp.same s3).trans Kp.upd;have as:Kp p H3 (upd H3 p (.ins t.bF dx L)):=Kp.upd;have aE:upd H3 p (.ins t.bF dx L) p=some (.ins t.bF dx L):=aj;have bq:=as.tups (s3 _ _ an) (λxs z=>by cases z);have af:∀b,aR b=none->b≠p:=λb e z=>by{rw[z,an]at e;cases e};have aS:=as.kp _ _ bo (af _ ap);have ag:∀d,d<n->cC t.bQ (upd H3 p (.ins t.bF dx L)) (f d) (g d) ds0 0:=λd hd=>by{obtain⟨q1,q2,_,_,q5⟩:=I d hd;exact q5.keep bq (λo e=>as.kp _ o e (af _ q1)) λo e=>as.kp _ o e (af _ q2)};clear bo bq as;generalize upd H3 p (.ins t.bF dx L)=aT at K3 aE aS ag;refine⟨_,rfl,(n:Int),rfl,nb.1,nb.2,λau av=>?_⟩;rw[Int.toNat_natCast];refine Aa (c:=[]) (λar=>∃o,ar=[o]) ⟨_,rfl⟩ av hn (λi ar h=>by obtain⟨o,rfl⟩:=h;exact⟨_,rfl⟩) (λar H' R ⟨o,e⟩ s' hR=>?_) (λu H4 s4 br ac bY=>?_);{exact⟨wF,λz F=>hR z _ F (aq F) aj⟩};refine⟨_,rfl,p,_,dx,_,rfl,s4 _ _ aE,T.dw,T.fY,(by rw[bX];show 3<1000;decide),?_⟩;generalize aU:gJ "roads_up" (.ref au) L=O;have bZ:O.length=4:=by{rw[<-aU,<-aD,<-al];kernel_rfl};have K4:Kp p aT (upd H4 p (.ins t.bF dx O)):=(Kp.same s4).trans Kp.upd;have aW:Kp p H4 (upd H4 p (.ins t.bF dx O)):=Kp.upd;have aX:upd H4 p (.ins t.bF dx O) p=some (.ins t.bF dx O):=aj;have aI:∀b,aT b=none->b≠p:=λb e z=>by{rw[z,aE]at e;cases e};have aY:=aW.kp _ _ br (aI _ av);have aZ:∀d,d<n->upd H4 p (.ins t.bF dx O) (u d)=some (.lst []):=λd hd=>aW.kp _ _ (ac d hd).2.2 (aI _ (ac d hd).1);clear br aW;generalize upd H4 p (.ins t.bF dx O)=a1 at K4 aX aY aZ;refine⟨_,rfl,(n:Int),rfl,nb.1,nb.2,λaw ax=>?_⟩;rw[Int.toNat_natCast];refine Aa (c:=[]) (λar=>∃o,ar=[o]) ⟨_,rfl⟩ ax hn (λi ar h=>by obtain⟨o,rfl⟩:=h;exact⟨_,rfl⟩) (λar H' R ⟨o,e⟩ s' hR=>?_) (λo H5 s5 bt ae b0=>?_);{exact⟨wF,λz F=>hR z _ F (aq F) aj⟩};refine⟨_,rfl,p,_,dx,_,rfl,s5 _ _ aX,T.dw,T.fZ,(by rw[bZ];show 4<1000;decide),?_⟩;generalize bu:gJ "roads_down" (.ref aw) O=W;have b1:W.length=5:=by{rw[<-bu,<-aU,<-aD,<-al];kernel_rfl};have K5:Kp p a1 (upd H5 p (.ins t.bF dx W)):=(Kp.same s5).trans Kp.upd;have a2:Kp p H5 (upd H5 p (.ins t.bF dx W)):=Kp.upd;have a3:upd H5 p (.ins t.bF dx W) p=some (.ins t.bF dx W):=aj;have aK:∀b,a1 b=none->b≠p:=λb e z=>by{rw[z,aX]at e;cases e};have a4:=a2.kp _ _ bt (aK _ ax);have a5:∀d,d<n->upd H5 p (.ins t.bF dx W) (o d)=some (.lst []):=λd hd=>a2.kp _ _ (ae d hd).2.2 (aK _ (ae d hd).1);clear bt a2;generalize upd H5 p (.ins t.bF dx W)=ah at K5 a3 a4 a5;refine⟨wF,λr ay=>?_⟩;have bv:r≠p:=λz=>by{rw[z,a3]at ay;cases ay};refine⟨_,rfl,p,_,dx,_,rfl,(by rw[az bv.symm];exact a3),T.dw,T.rW,(by rw[b1];show 5<1000;decide),?_⟩;have b2:gJ "row" (.ref r) W=WN ns.length x ad au aw r:=by{rw[<-bu,<-aU,<-aD,<-al];exact aqf};rw[b2];have K6:Kp p ah (upd (upd ah r (.lst [])) p (.ins t.bF dx (WN ns.length x ad au aw r))):=(Kp.same (aq ay)).trans Kp.upd;have bw:upd (upd ah r (.lst [])) p (.ins t.bF dx (WN ns.length x ad au aw r)) p=some (.ins t.bF dx (WN ns.length x ad au aw r)):=aj;have a6:upd (upd ah r (.lst [])) p (.ins t.bF dx (WN ns.length x ad au aw r)) r=some (.lst []):=by{rw[az bv,aj]};generalize upd (upd ah r (.lst [])) p (.ins t.bF dx (WN ns.length x ad au aw r))=H6 at K6 bw a6;have a7:=K6;have a8:=K5.trans a7;have aB:=K4.trans a8;have a9:=K3.trans aB;have nH:∀b,H1 b=none->H b=none:=K1.lv;have b5:=a9.tups an (λxs z=>by cases z);have b6:=aB.tups aE (λxs z=>by cases z);refine bE (bT p Ah ad au aw r f g u o) H6 rfl (λz F b7=>?_) ⟨?_,⟨dx,?_⟩,?_,?_,?_,⟨[],a6,?_⟩,λd hd=>⟨[],?_,?_⟩,λd hd=>⟨[],?_,?_⟩,λd hd=>?_,?_⟩ (K1.trans (K2.trans a9));{cases z with| bf=>exact absurd rfl b7| h y=>exact nH _ (aP y F)| mD=>exact nH _ (K2.lv _ ap)| dk d=>exact nH _ (K2.lv _ (I d F).1)| cp d=>exact nH _ (K2.lv _ (I d F).2.1)| ups=>exact nH _ (K2.lv _ (K3.lv _ av))| up d=>exact nH _ (K2.lv _ (K3.lv _ (ac d F).1))| downs=>exact nH _ (K2.lv _ (K3.lv _ (K4.lv _ ax)))| dn d=>exact nH _ (K2.lv _ (K3.lv _ (K4.lv _ (ae d F).1)))| row=>exact nH _ (K2.lv _ (K3.lv _ (K4.lv _ (K5.lv _ ay))))}
  ·refine aoB rkT (hsT H1 aR aT a1 ah H6) (λi=>?_) (λz F=>?_) (λz F=>?_) (λy z Z F J e=>?_);{match i with| 0=>exact λ_ _=>rfl| 1=>exact K2.lv| 2=>exact K3.lv| 3=>exact K4.lv| 4=>exact K5.lv| 5=>exact K6.lv| _+6=>exact Lv.refl _};{cases z with| bf=>rfl| h y=>exact aP y F| mD=>exact ap| dk d=>exact(I d F).1| cp d=>exact(I d F).2.1| ups=>exact av| up d=>exact(ac d F).1| downs=>exact ax| dn d=>exact(ae d F).1| row=>exact ay}
   ·cases z with
    | bf=>exact⟨_,ai⟩
    | h y=>obtain⟨o',e',_⟩:=aC.live y F;exact⟨o',e'⟩
    | mD=>exact⟨_,aS⟩
    | dk d=>obtain⟨⟨dz,vz,ez,_⟩,_⟩:=ag d F;exact⟨_,ez⟩
    | cp d=>obtain⟨_,⟨kz,ez,_⟩⟩:=ag d F;exact⟨_,ez⟩
    | ups=>exact⟨_,aY⟩
    | up d=>exact⟨_,aZ d F⟩
    | downs=>exact⟨_,a4⟩
    | dn d=>exact⟨_,a5 d F⟩
    | row=>exact⟨_,a6⟩
   ·have dc:∀a b,a<n->b<n->f a≠g b:=λa b ha hb e=>by{obtain⟨⟨dz,vz,ez,_⟩,_⟩:=ag a ha;obtain⟨_,⟨kz,b8,_⟩⟩:=ag b hb;rw[e,b8]at ez;cases ez};cases y with
    | bf=>cases z<;>first | rfl | cases J
    | row=>cases z<;>first | rfl | cases J
    | h a=>cases z with
      | h b=>rw[aC.inj a b Z F e]
      | _=>cases J
    | mD=>cases z with
      | mD=>rfl
      | dk d=>exact absurd e.symm (I d F).2.2.1
      | cp d=>exact absurd e.symm (I d F).2.2.2.1
      | _=>cases J
    | dk a=>cases z with
      | mD=>exact absurd e (I a Z).2.2.1
      | dk b=>rw[bM a b Z F e]
      | cp b=>exact absurd e (dc a b Z F)
      | _=>cases J
    | cp a=>cases z with
      | mD=>exact absurd e (I a Z).2.2.2.1
      | dk b=>exact absurd e.symm (dc b a F Z)
      | cp b=>rw[bN a b Z F e]
      | _=>cases J
    | ups=>cases z with
      | ups=>rfl
      | up b=>exact absurd e.symm (ac b F).2.1
      | _=>cases J
    | up a=>cases z with
      | ups=>exact absurd e (ac a Z).2.1
      | up b=>rw[bY a b Z F e]
      | _=>cases J
    | downs=>cases z with
      | downs=>rfl
      | dn b=>exact absurd e.symm (ae b F).2.1
      | _=>cases J
    | dn a=>cases z with
      | downs=>exact absurd e (ae a Z).2.1
      | dn b=>rw[b0 a b Z F e]
      | _=>cases J
  ·show H6 p=some (.ins t.bF dx (WN ns.length (Ah .hall) ad au aw r));rw[eh];exact bw
  ·exact aB.kp _ _ aS (af _ ap)
  ·exact a8.kp _ _ aY (aI _ av)
  ·exact a7.kp _ _ a4 (aK _ ax)
  ·simp only[S0,map_nil,aG]
  ·exact a8.kp _ _ (aZ d hd) (aI _ (ac d hd).1)
  ·simp only[S0,map_nil,aG]
  ·exact a7.kp _ _ (a5 d hd) (aK _ (ae d hd).1)
  ·simp only[S0,map_nil,aG]
  ·exact((ag d hd).keep b6 (λo e=>aB.kp _ o e (af _ (I d hd).1)) (λo e=>aB.kp _ o e (af _ (I d hd).2.1))).congr (λ_=>rfl) (λ_ z=>absurd rfl z) rfl
  ·exact aC.keep b5 (λz F o e=>a9.kp _ o e (bl z F))
def auC(c:C4):Sp:=λvs H Q _=>∃B n m S k a x se,∃tt:Nat,vs=[.ref (B .bf),.ref a]/\cH c H B n m S k/\H a=some (.tup (bG.vs x))/\ik n m S/\Bd tt S se/\tt<=1500/\k<=800000/\
 ∀v B' H',cH c H' B' n m (S.step n m x).1 (k+2)->TF H H' B n m->Tv H B B' n m->B' .bf=B .bf->Rep H' v (S.step n m x).2->Q v H'
theorem art(n m:Nat)(S:TS)(x:bG):qW n m S x=""\/qW n m S x="no desk"\/qW n m S x="no page"\/qW n m S x="waiting"\/qW n m S x="no copy"\/qW n m S x="no letter":=by
 unfold qW;split;{cases x with| up d=>dsimp only;cases (S.up d.toNat).isEmpty<;>simp| down d=>dsimp only;cases (S.dn d.toNat).isEmpty<;>simp| rest d p=>dsimp only;split;{cases decide ((S.ds d.toNat).rt p=.no)<;>simp};{simp}| look d p=>dsimp only;split;{cases (S.ds d.toNat).ws.isSome<;>simp};{simp}| put d p y=>dsimp only;split;{cases (S.ds d.toNat).ws.isSome<;>simp};{simp}};{simp}
theorem af7(T:Txt K w mg t):cX P w K mg base mW 8 t.jy t.Ci ["town","deed"] (auC (c4 t)):=by
 refine T.Vw.ok afH (λvs H Q E h=>?_) (λac A outer s H vs Q E hr h=>?_);{obtain⟨B,n,m,S,k,a,x,se,Y,rfl,_⟩:=h;rfl}
 ·obtain⟨B,n,m,S,k,a,x,se,Y,rfl,TA,ha,I,bd,L,hk,J⟩:=h;obtain⟨dx,ht⟩:=TA.ob;refine⟨_,(aA (awJ Tf (λ_ _=>(aA (aZ (apS (pv 0) T.dw T.W0 (Xe T) (hr.mono (by decide):bV 7 _) T.aaq (aa (pv 1) ak))))) (ZF Tf (by rfl) T.ai9 T.aak (λ_=>(aA (aZ aC))) (ZF Tf (by rfl) T.aja T.Pz (λ_=>(aA (aZ aC))) (ZF Tf (by rfl) T.aeN T.zH (λ_=>(aA (aZ aC))) (ZF Tf (by rfl) T.ajb T.zJ (λ_=>(aA (aZ aC))) (ZF Tf (by rfl) T.aal T.nu (λ_=>(aA (aZ aC))) awI))))))),?_⟩;try dsimp only[dj,Cx.kE]
  refine⟨_,rfl,B .bf,dx,_,rfl,ht,axh,_,rfl,B,n,m,S,k,a,x,se,Y,rfl,TA,ha,I,bd,L,hk,λ_ v B' H' T' f' O W r'=>J v B' H' T' f' O W r',λs es hs H' same=>?_⟩;have out:Q (.str s) H':=by{have st:=(ajK (n:=n) (m:=m) (S:=S) (x:=x) (by rw[es];exact hs)).1;rw[es]at st;refine J _ B H' ?_ (TF.of_same same) (Tv.refl _ _ _ _) rfl ?_;{rw[st];exact(TA.same same).more (by lia)};{rw[st];simp only[Rep]}};have Z:=art n m S x;rw[es]at Z;rcases Z with rfl | rfl | rfl | rfl | rfl | rfl;{exact absurd rfl hs};{rw[show xT t "no desk"=t.bB from arl];exact⟨t.bB,_,rfl,T.aak,bH (by simp) out⟩};{rw[show xT t "no page"=t.bx from arn];refine⟨t.bx,_,rfl,T.Pz,aL ?_ ⟨t.bx,_,rfl,T.Pz,bH (by simp) out⟩⟩;have z:=T.qQ;have F:=T.fK;simp[z,F]};{rw[show xT t "waiting"=t.aR from aro];refine⟨t.aR,_,rfl,T.zH,aL ?_ ⟨t.aR,_,rfl,T.zH,aL ?_ ⟨t.aR,_,rfl,T.zH,bH (by simp) out⟩⟩⟩;{have z:=T.pF;have F:=T.fK;simp[z,F]};{have z:=T.pG;have F:=T.gK;simp[z,F]}};{rw[show xT t "no copy"=t.bh from arp];refine⟨t.bh,_,rfl,T.zJ,aL ?_ ⟨t.bh,_,rfl,T.zJ,aL ?_ ⟨t.bh,_,rfl,T.zJ,aL ?_ ⟨t.bh,_,rfl,T.zJ,bH (by simp) out⟩⟩⟩⟩;{have z:=T.qR;have F:=T.fK;simp[z,F]};{have z:=T.qT;have F:=T.gK;simp[z,F]};{have z:=T.pH;have F:=T.ji;simp[z,F]}};{rw[show xT t "no letter"=t.aK from al3];refine⟨t.aK,_,rfl,T.nu,aL ?_ ⟨t.aK,_,rfl,T.nu,aL ?_ ⟨t.aK,_,rfl,T.nu,aL ?_ ⟨t.aK,_,rfl,T.nu,aL ?_ ⟨t.aK,_,rfl,T.nu,bH (by simp) out⟩⟩⟩⟩⟩;{have z:=T.nC;have F:=T.fK;simp[z,F]};{have z:=T.nD;have F:=T.gK;simp[z,F]};{have z:=T.mq;have F:=T.ji;simp[z,F]};{have z:=T.nF;have F:=T.my;simp[z,F]}}
def lV(n m:Nat)(S:TS)(xs:List bG):TS:=xs.foldl (λS x=>(S.step n m x).1) S
def Ie(n m:Nat):TS->List bG->List D
 | _,[]=>[]
 | S,x::xs=>(S.step n m x).2::Ie n m (S.step n m x).1 xs
theorem JZ(n m:Nat)(S:TS)(xs:List bG)(x:bG):lV n m S (xs++[x])=((lV n m S xs).step n m x).1:=by unfold lV;rw[foldl_append];rfl
theorem ae2(n m:Nat):∀(S:TS) (xs:List bG) (x:bG),Ie n m S (xs++[x])=Ie n m S xs++[((lV n m S xs).step n m x).2]
 | S,[],x=>rfl
 | S,y::xs,x=>by show _::Ie n m _ (xs++[x])=_::(Ie n m _ xs++_);rw[ae2];rfl
theorem ajZ(n m:Nat):∀(S:TS) (xs:List bG),(Ie n m S xs).length=xs.length
 | S,[]=>rfl
 | S,x::xs=>by show(Ie n m _ xs).length+1=_;rw[ajZ];rfl
theorem ae3(S:TS)(d p:Nat)(w:W)(z:D)(h:z.flat):(S.wish d p w z).2.flat:=by
 unfold TS.wish;split;{trivial};{dsimp only;split;{exact h};{trivial}}
theorem ae4(n m:Nat)(S:TS)(x:bG):(S.step n m x).2.flat:=by
 cases x with| up d=>simp only[TS.step];split;{unfold TS.upD;split;{trivial};{exact UL.flat _}};{trivial}| down d=>simp only[TS.step];split;{unfold TS.Kd;split;{trivial};{exact Let.flat _}};{trivial}| rest d p=>simp only[TS.step];split;{split;{split<;>trivial};{trivial}};{trivial}| look d p=>simp only[TS.step];split;{split;{exact ae3 _ _ _ _ _ trivial};{trivial}};{trivial}| put d p y=>simp only[TS.step];split;{split;{exact ae3 _ _ _ _ _ trivial};{trivial}};{trivial}
theorem qX(n m:Nat):∀(S:TS) (xs:List bG),D.flats (Ie n m S xs)
 | S,[]=>trivial
 | S,x::xs=>⟨ae4 n m S x,qX n m _ xs⟩
theorem aa3{H:Hp}:∀{l:List bG} {vs:List V} {i:Nat} {v:V},aG H vs (l.map bG.d)->vs[i]? = some v->∃x,l[i]? = some x/\Rep H v x.d
 | [],vs,i,v,h,z=>by simp only[map_nil,aG]at h;subst h;simp at z
 | x::l,vs,i,v,h,z=>by simp only[map_cons,aG]at h;obtain⟨u,us,rfl,F,rl⟩:=h;cases i with| zero=>simp at z;subst z;exact⟨x,rfl,F⟩| succ i=>simp at z;obtain⟨I,h1,h2⟩:=aa3 rl z;exact⟨I,by simpa using h1,h2⟩
theorem ik.run{n m:Nat}:∀{xs:List bG} {S:TS},ik n m S->ik n m (lV n m S xs)
 | [],S,h=>h
 | x::xs,S,h=>ik.run (xs:=xs) (h.step x)
theorem Bd.run{n m:Nat}:∀{xs:List bG} {S:TS} {k:Nat},Bd k S []->Bd (k+xs.length) (lV n m S xs) []
 | [],S,k,h=>h
 | x::xs,S,k,h=>by have:=Bd.run (n:=n) (m:=m) (xs:=xs) (k:=k+1) ((h.step (n:=n) (m:=m) x).sent);rw[length_cons,show k+(xs.length+1)=k+1+xs.length by lia];exact this
def aj0(c:C4):Sp:=λvs H Q _=>∃n:Nat,∃ns:List Int,∃l dl us xs,vs=[.int n,.ref l,.ref dl]/\H l=some (.lst (ns.map V.int))/\H dl=some (.lst us)/\aG H us (map bG.d xs)/\n<=1000/\ns.length<=1000/\xs.length<=1500/\
 ∀B H',bK H H'->cH c H' B n ns.length (lV n ns.length (S0 ns) xs) (2*xs.length)->(∀x:Tb,x.ok n ns.length->H (B x)=none)->Q (.ref (B .bf)) H'
theorem KN(T:Txt K w mg t):cX P w K mg base mW 9 t.jc t.yI ["count","numbers","deeds"] (aj0 (c4 t)):=by
 refine T.Cv.ok yF (λvs H Q E h=>?_) (λaB A outer s H vs Q E hr h=>?_);{obtain⟨n,ns,l,dl,us,xs,rfl,_⟩:=h;rfl}
 ·obtain⟨n,ns,l,dl,us,xs,rfl,hl,L,rd,hn,ac,aD,ad⟩:=h;refine⟨_,(ao (bu (i:=3) yF.nd rfl (Or.inl rfl) (afm T.afL (af6 T) (hr.mono (by decide):bV 6 _) (by rfl) T.axA T.ajq .nil bW (aa (pv 0) (aa (pv 1) ak))))
   (ao (mU PassesOwn.never rfl (ou (pv 2)) (cj (i:=4) yF.nd rfl (Or.inl rfl)) (aA (bN (bZ (af7 T) (hr.mono (by decide):bV 8 _) (by rfl) T.ajs T.Vw.kp T.ajr .nil bW (aa (pv 3) (aa (pv 4) ak))))))
   (aA (aZ (pv 3))))),?_⟩
  try dsimp only[dj,Cx.kE]
  show let Z1:L2.TS:=_;let Z2:L2.TS:=_;let Z3:L2.TS:=J3 _ _ Z2;let Z4:L2.TS:=_;let D0:Ends:=_;(aV Z1 (aV Z3 (Z4))) D0 _ _;intro Z1 Z2 Z3 Z4 D0;refine⟨_,rfl,_,rfl,λp dx hp O nx=>?_⟩;refine⟨p,dx,l,n,ns,rfl,aj,?_,hn,ac,λB H1 eB fr T1 k1=>⟨rfl,?_⟩⟩;{rw[az (aF hl hp),az (aF hl O)];exact hl};have s1:bK H H1:=λb o e=>k1.kp b o (by rw[az (aF e hp),az (aF e O)];exact e) (aF e hp);have ae:∀x:Tb,x.ok n ns.length->H (B x)=none:=λx hx=>by{by_cases e:x=.bf;{rw[e,eB];exact hp};{exact Lv.upd _ (Lv.upd _ (fr x hx e))}};clear fr k1;have ag:us.length=xs.length:=by{rw[rd.length,length_map]};refine⟨_,rfl,dl,rfl,⟨_,bU.of (s1 _ _ L)⟩,?_⟩;let W9:Nat->St->Hp->Prop:=λi W H'=>(∃o,W=[some (.int n),some (.ref l),some (.ref dl),some (.ref p),o])/\i<=us.length/\bK H H'/\∃J:Tb->Addr,J .bf=p/\cH (c4 t) H' J n ns.length (lV n ns.length (S0 ns) (xs.take i)) (2*i)/\(∀x:Tb,x.ok n ns.length->H (J x)=none);refine rF (xs:=us) W9 ?_ ?_ ?_ ?_;{exact⟨⟨_,rfl⟩,zero_le _,s1,B,eB,T1,ae⟩};{rintro i W H' _ ⟨_,_,s',_⟩;exact bU.of (s' _ _ L)};{rintro i y W H' hy ⟨⟨o,rfl⟩,hi,s',J,F,Y,I⟩;have aH:i<us.length:=(List.getElem?_eq_some_iff.mp hy).1;obtain⟨x,hx,rx⟩:=aa3 (rd.aU (aQ s') (bc bG.flat _)) hy;obtain⟨a,rfl,ah⟩:=Qy rx;have ai:xs.take (i+1)=xs.take i++[x]:=by{rw[take_add_one,hx];rfl};have al:(xs.take i).length<=1500:=by{rw[length_take];lia};have bd:=Bd.run (n:=n) (m:=ns.length) (xs:=xs.take i) (Bd.start ns);rw[Nat.zero_add]at bd;refine⟨_,rfl,_,rfl,J,n,ns.length,_,2*i,a,x,[],(xs.take i).length,(by rw[F];rfl),Y,ah,ik.run (ik.start n ns),bd,al,by lia,λv B2 H2 T2 f2 am an r2=>?_⟩;have s2:bK H H2:=λb u e=>f2.kp _ _ (s' b u e) λz Z e2=>by{rw[e2,I z Z]at e;cases e};refine⟨⟨_,rfl⟩,by lia,s2,B2,an.trans F,?_,λz Z=>?_⟩;{rw[ai,JZ,show 2*(i+1)=2*i+2 by lia];exact T2};{rcases am z Z with e | e;{rw[e];exact I z Z};{exact Lv.same s' _ e}}};{rintro W H' ⟨⟨o,rfl⟩,_,s',J,F,Y,I⟩;rw[ag,take_length]at Y;refine⟨_,rfl,?_⟩;rw[<-F];exact ad J H' s' Y I}
def KQ(n:Nat)(S:TS):List Nat:=(range n).filter λd=>(S.ds d).ws.isSome
def aoC(c:C4):Sp:=λvs H Q _=>∃B n m S k,vs=[.ref (B .bf)]/\cH c H B n m S k/\n<=1000/\∀l H',bK H H'->H l=none->H' l=some (.lst ((KQ n S).map nV))->Q (.ref l) H'
def af8{α:Type}(n:Nat)(f:Nat->List α)(g:α->D):D:=.l ((range n).map λd=>.l ((f d).map g))
def anA(n:Nat)(S:TS):D:=.t [.l ((KQ n S).map λd:Nat=>.i d),af8 n S.up UL.d,af8 n S.dn Let.d]
def ayD:Sp:=λvs H Q _=>∃n:Nat,∃ns:List Int,∃l dl us xs,vs=[.int n,.ref l,.ref dl]/\H l=some (.lst (ns.map V.int))/\H dl=some (.lst us)/\aG H us (map bG.d xs)/\n<=1000/\ns.length<=1000/\xs.length<=1500/\
 ∀r zs H',bK H H'->H' r=some (.tup zs)->Rep H' (.ref r) (anA n (lV n ns.length (S0 ns) xs))->Q (.ref r) H'
theorem aa4(i:Nat)(S:TS):KQ (i+1) S=KQ i S++(if(S.ds i).ws.isSome then [i]else []):=by
 unfold KQ;rw[range_succ,filter_append];congr 1;simp only[filter_cons,filter_nil]
theorem aoD(i:Nat)(S:TS):(KQ i S).length<=i:=by
 unfold KQ;refine Nat.le_trans (length_filter_le _ _) ?_;rw[length_range];exact Nat.le_refl _
theorem M8{H:Hp}{f:Nat->V}{g:Nat->D}:∀{n:Nat},(∀d,d<n->Rep H (f d) (g d))->aG H ((range n).map f) ((range n).map g)
 | 0,_=>by simp[aG]
 | n+1,h=>by rw[range_succ,map_append,map_append];exact aG.snoc (M8 λd hd=>h d (by lia)) (h n (by lia))
theorem aj1(H:Hp):∀l:List Nat,aG H (l.map nV) (l.map λd:Nat=>D.i d)
 | []=>by simp[aG]
 | x::l=>by simp only[map_cons,aG];exact⟨_,_,rfl,by simp only[nV,Rep],aj1 H l⟩
theorem Fv(T:Txt K w mg t):cX P w K mg base mW 2 t.cV t.j0 ["self"] (aoC (c4 t)):=by
 refine T.HQ.ok Fd (λvs H Q E h=>?_) (λaf A outer s H vs Q E hr h=>?_);{obtain⟨B,n,m,S,k,rfl,_⟩:=h;rfl}
 ·obtain⟨B,n,m,S,k,rfl,TA,hn,L⟩:=h;have sl:sizeLine=16777216:=by{decide};obtain⟨dx,ht⟩:=TA.ob;refine⟨_,(aA (aZ (mO (gD (xs:=["number","desk"]) (ys:=[]) (js:=[]) rfl ∅ ∅ ∅ (by rfl) trivial) rfl (amP (by rfl) T.VD (aa (cM (pv 0) (by rfl)) ak)) (λ_ _ _ _ _=>(amW (K:=K) (n:=2) rfl rfl (dJ (cj (i:=0) (show Nodup ((["number","desk"]:List Str)++([]:List Str):List Str)by decide +kernel) rfl (Or.inl rfl)) (dJ (cj (i:=1) (show Nodup ((["number","desk"]:List Str)++([]:List Str):List Str)by decide +kernel) rfl (Or.inl rfl)) ug)))) (λ_ _ _ _ _=>(afq (jo (rG (pv 1) T.dI T.Kr (Kz T) (hr.mono (by decide):bV 1 _) T.PJ .nil bW)))) (λ_ _ _ _ _=>(pv 0))))),?_⟩;try dsimp only[dj,Cx.kE]
  refine⟨_,rfl,B .bf,_,dx,_,_,rfl,ht,T.dw,T.gf,uM,B .mD,rfl,⟨_,bU.of TA.ds⟩,λI F=>?_⟩;refine aeB (xs:=(range n).map λd=>V.ref (B (.dk d))) (λi zs J H'=>(∃W Y,J=[W,Y])/\bK H H'/\H' I=some (.lst zs)/\zs=(KQ i S).map nV) ?_ ?_ ?_ ?_;{exact⟨⟨_,_,rfl⟩,aq F,aj,rfl⟩};{rintro i zs J H' _ ⟨_,s',z,_⟩;exact⟨bU.of (s' _ _ TA.ds),z⟩};{rintro i y zs J H' b Z hi ⟨⟨W,Y,rfl⟩,s',z,rfl⟩ hb;rw[length_map,length_range]at hi;have O:y=.ref (B (.dk i)):=by{rw[getElem?_map,getElem?_range hi]at Z;exact(Option.some.inj Z).symm};subst O;have TB:=(TA.same s').new (o:=.tup [.int i,.ref (B (.dk i))]) hb;obtain⟨⟨zq,wv,g1,_⟩,_⟩:=TB.dk i hi;have sb:=aq (o:=.tup [.int i,.ref (B (.dk i))]) hb;refine⟨b,_,rfl,cW.of aj,rfl,_,_,rfl,_,_,rfl,rfl,?_⟩;refine⟨_,rfl,B (.dk i),zq,_,rfl,g1,fj _ _ ∅ ∅,B (.dk i),B (.cp i),S.ds i,k,rfl,TB.dk i hi,_,rfl,?_⟩;have hl:=aoD i S;cases hw:(S.ds i).ws with| none=>refine wD (Vo.mk (by rw[length_map,length_range];exact hi) ?_);refine⟨⟨_,_,rfl⟩,s'.trans sb,sb _ _ z,?_⟩;rw[aa4,hw];simp| some w'=>refine p6 ?_;refine⟨_,rfl,?_⟩;refine wK.mk (by rw[length_map,length_range];exact hi) (sb _ _ z) (by rw[length_map];lia) ?_;refine⟨⟨_,_,rfl⟩,dB (s'.trans sb) F,aj,?_⟩;rw[aa4,hw,map_append];rfl};{rintro zs J H' ⟨_,s',z,rfl⟩;rw[length_map,length_range]at z;exact L I H' s' F z}
theorem ac1(T:Txt K w mg t):cX P w K mg base mW 10 t.jd t.yJ ["count","numbers","deeds"] ayD:=by
 refine T.Qg.ok Kh (λvs H Q E h=>?_) (λar A outer s H vs Q E hr h=>?_);{obtain⟨n,ns,l,dl,us,xs,rfl,_⟩:=h;rfl}
 ·obtain⟨n,ns,l,dl,us,xs,rfl,hl,J,rd,hn,L,O,W⟩:=h;refine⟨_,(ao (bu (i:=3) Kh.nd rfl (Or.inl rfl) (bZ (KN T) (hr.mono (by decide):bV 9 _) (by rfl) T.Qf T.Cv.kp T.Qe .nil bW (aa (pv 0) (aa (pv 1) (aa (pv 2) ak)))))
   (aA (aZ (b7 (aa (rG (pv 3) T.dw T.Fp (Fv T) (hr.mono (by decide):bV 2 _) T.HR .nil bW) (aa (cM (pv 3) (by rfl)) (aa (cM (pv 3) (by rfl)) ak))))))),?_⟩
  try dsimp only[dj,Cx.kE]
  show let Z1:L2.TS:=_;let Z2:L2.TS:=_;let D0:Ends:=_;(aV Z1 (Z2)) D0 _ _;intro Z1 Z2 D0;refine⟨_,rfl,_,rfl,_,rfl,n,ns,l,dl,us,xs,rfl,hl,J,rd,hn,L,O,λB H1 s1 Y as=>?_⟩;obtain⟨dx,ht⟩:=Y.ob;refine⟨_,rfl,B .bf,dx,_,rfl,ht,(by kernel_rfl),B,n,ns.length,_,_,rfl,Y,hn,λwl H2 s2 av Z=>?_⟩;have T2:=Y.same s2;obtain⟨z,F⟩:=T2.ob;refine⟨_,rfl,B .bf,_,z,_,_,rfl,F,T.dw,T.fY,Zd,_,rfl,B .bf,_,z,_,_,rfl,F,T.dw,T.fZ,Th,Zh,λr ac=>?_⟩;have s3:=aq (o:=.tup [.ref wl,.ref (B .ups),.ref (B .downs)]) ac;have I:=T2.same s3;refine W r _ _ ((s1.trans s2).trans s3) aj ?_;simp only[anA,af8,Rep,aG];refine⟨r,_,rfl,aj,_,_,rfl,⟨wl,_,rfl,s3 _ _ Z,aj1 _ _⟩,_,_,rfl,⟨B .ups,_,rfl,I.us,M8 λd hd=>?_⟩,_,_,rfl,⟨B .downs,_,rfl,I.os,M8 λd hd=>?_⟩,rfl⟩;{obtain⟨vs,e1,e2⟩:=I.up d hd;simp only[Rep];exact⟨_,vs,rfl,e1,e2⟩};{obtain⟨vs,e1,e2⟩:=I.dn d hd;simp only[Rep];exact⟨_,vs,rfl,e1,e2⟩}
theorem Kg.start(n:Nat)(ns:List Int):Kg n ns.length (nm0 ns) (S0 ns) where
 pv p hp:=⟨[],PV.start (nm0 ns p)⟩
 wk:=trivial
 rg e h:=nomatch h
theorem Kg.run{n m:Nat}{x:Int->Int}:∀{xs:List bG} {S:TS},ik n m S->Kg n m x S->Kg n m x (lV n m S xs)
 | [],S,_,h=>h
 | y::xs,S,I,h=>Kg.run (xs:=xs) (I.step y) (h.step I y)
theorem af9{H:Hp}:∀{l:List RE} {vs:List V} {i:Nat} {v:V},aG H vs (l.map RE.d)->vs[i]? = some v->∃x,l[i]? = some x/\Rep H v x.d
 | [],vs,i,v,h,z=>by simp only[map_nil,aG]at h;subst h;simp at z
 | x::l,vs,i,v,h,z=>by simp only[map_cons,aG]at h;obtain⟨u,us,rfl,F,rl⟩:=h;cases i with| zero=>simp at z;subst z;exact⟨x,rfl,F⟩| succ i=>simp at z;obtain⟨I,h1,h2⟩:=af9 rl z;exact⟨I,by simpa using h1,h2⟩
def RE.vs(e:RE):List V:=[.str (Vp e.put),.int e.dk,.int e.pg,.int e.num]
theorem anB{H:Hp}{v:V}{e:RE}(h:Rep H v e.d):∃a,v=.ref a/\H a=some (.tup e.vs):=by
 simp only[RE.d,Rep,aG]at h;obtain⟨a,xs,rfl,h2,_,_,rfl,z,_,_,rfl,F,_,_,rfl,I,_,_,rfl,J,rfl⟩:=h;subst z;subst F;subst I;subst J;exact⟨a,rfl,h2⟩
theorem walk_at:∀{row:List RE} {x:Int->Int} {i:Nat} {e:RE},Bl x row->row[i]? = some e->e.put=false->e.num=mG x (row.take i) e.pg
 | [],_,_,_,_,h,_=>by simp at h
 | y::r,x,0,e,w,h,hp=>by simp at h;subst h;exact w.1 hp
 | y::r,x,i+1,e,w,h,hp=>by simp at h;show e.num=mG (ai0 x y) (r.take i) e.pg;exact walk_at w.2 h hp
def aj2(x:Int->Int)(m:Nat):List V:=(range m).map λp:Nat=>V.int (x p)
theorem auD{x:Int->Int}{m p:Nat}(h:p<m):S6 (aj2 x m) (p:Int)=some (.int (x p)):=iH (by unfold aj2;rw[getElem?_map,getElem?_range h];rfl)
theorem aru(x:Int->Int)(m:Nat):(aj2 x m).length=m:=by unfold aj2;rw[length_map,length_range]
theorem arv{x:Int->Int}{m p:Nat}{k:Int}:(aj2 x m).set p (.int k)=aj2 (λq=>if q=(p:Int)then k else x q) m:=by
 unfold aj2;refine ext_getElem (by simp) λi h1 h2=>?_;rw[getElem_set];simp only[getElem_map,getElem_range];by_cases e:p=i;{subst e;simp};{have:¬((i:Int)=(p:Int)):=by{lia};simp[e,this]}
def auE:Sp:=λvs H Q _=>∃n:Nat,∃ns:List Int,∃l dl us xs,vs=[.int n,.ref l,.ref dl]/\H l=some (.lst (ns.map V.int))/\H dl=some (.lst us)/\aG H us (map bG.d xs)/\n<=1000/\ns.length<=1000/\xs.length<=1500/\
 ∀r zs H',bK H H'->H' r=some (.lst zs)->aG H' zs ((lV n ns.length (S0 ns) xs).row.map RE.d)->Q (.ref r) H'
def ayE:Sp:=λvs H Q _=>∃r,∃n:Nat,∃nl zs,∃row:List RE,∃nums:List Int,vs=[.ref r,.int n,.ref nl]/\H r=some (.lst zs)/\aG H zs (row.map RE.d)/\H nl=some (.lst (nums.map V.int))/\Bl (nm0 nums) row/\(∀e∈row,e.dk<n/\∃q:Nat,q<nums.length/\e.pg=(q:Int))/\
 ∀H',bK H H'->Q (.bl true) H'
theorem aoE(T:Txt K w mg t):cX P w K mg base mW 10 t.rM t.Tq ["count","numbers","deeds"] auE:=by
 refine T.ajt.ok aom (λvs H Q E h=>?_) (λO A outer s H vs Q E W h=>?_);{obtain⟨n,ns,l,dl,us,xs,rfl,_⟩:=h;rfl}
 ·obtain⟨n,ns,l,dl,us,xs,rfl,hl,z,rd,Y,F,I,J⟩:=h;refine⟨_,(aA (aZ (cM (bZ (KN T) (W.mono (by decide):bV 9 _) (by rfl) T.Qf T.Cv.kp T.Qe .nil bW (aa (pv 0) (aa (pv 1) (aa (pv 2) ak)))) (by rfl)))),?_⟩;try dsimp only[dj,Cx.kE]
  refine⟨_,rfl,_,rfl,_,rfl,n,ns,l,dl,us,xs,rfl,hl,z,rd,Y,F,I,λB H1 s1 L Z=>?_⟩;obtain⟨dx,ht⟩:=L.ob;obtain⟨vs,e1,e2⟩:=L.row;exact⟨B .bf,_,dx,_,_,rfl,ht,T.dw,T.rW,am0,J _ vs H1 s1 e1 e2⟩
theorem Xg(T:Txt K w mg t):cX P w K mg base mW 2 t.gB t.tO ["_law_found","_law_count","_law_numbers"] ayE:=by
 refine T.HX.ok fM (λvs H Q E h=>?_) (λa4 A outer s H vs Q E hr h=>?_);{obtain⟨r,n,nl,zs,row,z,rfl,_⟩:=h;rfl}
 ·obtain⟨r,n,nl,zs,row,z,rfl,I,rz,Z,wk,rg,ap⟩:=h;have sl:sizeLine=16777216:=by{decide};refine⟨_,(ao (bY (oh (jo (cG iK (by rfl) T.dH PyProof.Rows.Boot.«isinstance» (aa (pv 0) (aa (mX (by rfl) T.yR PyProof.Rows.Boot.«list») ak))))) (aA (aZ tU)) bw)
   (ao (bu (i:=3) fM.nd rfl (Or.inl rfl) (gC lO (by rfl) T.yR PyProof.Rows.Boot.«list» (aa (pv 2) ak)))
   (ao (mU PassesOwn.never rfl (ou (pv 0)) (cj (i:=4) fM.nd rfl (Or.inl rfl)) (ao (bY (PW.pt (nJ (oh (jo (cG iK (by rfl) T.dH PyProof.Rows.Boot.«isinstance» (aa (pv 4) (aa (mX (by rfl) T.Qp PyProof.Rows.Boot.«tuple») ak))))) (nJ (aP uQ (cG cJ (by rfl) T.pL PySem.boot_len (aa (pv 4) ak)) aB (aY _)) (lZ (oh (jo (cG iK (by rfl) T.dH PyProof.Rows.Boot.«isinstance» (aa (aN bC (pv 4) aB (λ_ _=>rfl)) (aa (mX (by rfl) T.anj PyProof.Rows.Boot.«str») ak))))))))) (aA (aZ tU)) bw)
   (ao (mU PassesOwn.never rfl (awo (O2 alh (pv 4) (Y8 aB) Y7)) (cj (i:=5) fM.nd rfl (Or.inl rfl)) (aA (bY (oh (jo (bZ (aaR T) (hr.mono (by decide):bV 1 _) (by rfl) T.aeP T.TX.kp T.aeO .nil bW (aa (pv 5) ak)))) (aA (aZ tU)) bw)))
   (ao (uP (pv 4) (Gz rfl (dJ (cj (i:=6) fM.nd rfl (Or.inl rfl)) (dJ (cj (i:=7) fM.nd rfl (Or.inl rfl)) (dJ (cj (i:=8) fM.nd rfl (Or.inl rfl)) (dJ (cj (i:=9) fM.nd rfl (Or.inl rfl)) ug))))))
   (ao (bY (PW.pt (nJ (aP Vl (pv 7) aB (aY _)) (nJ (aP Oz (pv 7) (pv 1) (aY _)) (nJ (aP Vl (pv 8) aB (aY _)) (lZ (aP Oz (pv 8) (cG cJ (by rfl) T.pL PySem.boot_len (aa (pv 2) ak)) (aY _))))))) (aA (aZ tU)) bw)
   (aA (bY (aP cQ (pv 6) aC (aY _)) (aA (uP (pv 9) (GC (pv 3) (pv 8) set_list))) (aA (bY (PW.pt (nJ (aP uQ (pv 6) aC (aY _)) (lZ (aP uQ (aN bz (pv 3) (pv 8) (λ_ _=>rfl)) (pv 9) (aY _))))) (aA (aZ tU)) bw)))))))))
   (aA (aZ tU))))),?_⟩
  try dsimp only[dj,Cx.kE]
  show let Z1:L2.TS:=_;let Z2:L2.TS:=cR _ Z1 bM;let Z3:L2.TS:=_;let Z4:L2.TS:=_;let Z5:L2.TS:=cR _ Z4 bM;let Z6:L2.TS:=_;let Z7:L2.TS:=cR _ Z6 bM;let Z8:L2.TS:=J3 _ _ Z7;let Z9:L2.TS:=_;let z8:L2.TS:=_;let KC:L2.TS:=cR _ z8 bM;let KD:L2.TS:=_;let Qv:L2.TS:=_;let Qw:L2.TS:=cR _ Qv bM;let ac:L2.TS:=cR _ KD Qw;let ad:L2.TS:=aV Z5 (aV Z8 (aV Z9 (aV KC (ac))));let ae:L2.TS:=J3 _ _ ad;let af:L2.TS:=_;let D0:Ends:=_;(aV Z2 (aV Z3 (aV ae (af)))) D0 _ _;intro Z1 Z2 Z3 Z4 Z5 Z6 Z7 Z8 Z9 z8 KC KD Qv Qw ac ad ae af D0;refine⟨_,rfl,_,_,_,true,rfl,.lst I,.inl ⟨_,rfl,alu⟩,_,rfl,wD ?_⟩;refine⟨_,rfl,nl,_,rfl,.inl (bU.of Z),λnw ag=>?_⟩;have s1:=aq (o:=.lst (z.map V.int)) ag;refine⟨_,rfl,r,rfl,⟨_,bU.of (s1 _ _ I)⟩,?_⟩;let W9:Nat->St->Hp->Prop:=λi F H'=>(∃o4 W o6 o7 o8 o9,F=[some (.ref r),some (.int n),some (.ref nl),some (.ref nw),o4,W,o6,o7,o8,o9])/\bK H H'/\H' nw=some (.lst (aj2 (mG (nm0 z) (row.take i)) z.length));refine rF (xs:=zs) W9 ?_ ?_ ?_ ?_;{exact⟨⟨_,_,_,_,_,_,rfl⟩,s1,by rw[aj,anq];rfl⟩};{rintro i F H' _ ⟨_,s',_⟩;exact bU.of (s' _ _ I)};{rintro i y F H' Y ⟨⟨o4,W,o6,o7,o8,o9,rfl⟩,s',aw⟩;obtain⟨e,he,re⟩:=af9 (rz.aU (aQ s') (bc RE.flat _)) Y;obtain⟨b,rfl,hb⟩:=anB re;have ay:e∈row:=mem_of_getElem? he;obtain⟨g1,q,g2,g3⟩:=rg e ay;have ai:row.take (i+1)=row.take i++[e]:=by{rw[take_add_one,he];rfl};refine⟨_,rfl,_,_,_,true,rfl,.tup hb,.inl ⟨_,rfl,afs⟩,_,rfl,aL rfl ?_⟩;refine⟨_,rfl,b,_,rfl,.inr (cW.of hb),rfl,_,rfl,aL rfl ?_⟩;refine zt rfl (cW.of hb) rfl ⟨_,_,.type "str",true,rfl,.str _,.inl ⟨_,rfl,afr⟩,_,rfl,aL rfl ?_⟩;refine⟨_,rfl,_,rfl,b,_,rfl,cW.of hb,(by show ¬(HT.n8 4 0 (some 1)=0/\HT.n8 4 4 none=4);decide),λsp az=>?_⟩;have s2:=aq (o:=.tup (S9 e.vs (some 1) none)) az;have J:upd H' sp (.tup (S9 e.vs (some 1) none)) sp=some (.tup [.int e.dk,.int e.pg,.int e.num]):=aj;generalize upd H' sp (.tup (S9 e.vs (some 1) none))=H2 at s2 J;have L:=s'.trans s2;have O:=s2 _ _ aw;have aD:=s2 _ _ hb;refine⟨sp,rfl,⟨_,cW.of J⟩,?_⟩;refine asu (xs:=[.int e.dk,.int e.pg,.int e.num]) (λj F H3=>(∃W,F=[some (.ref r),some (.int n),some (.ref nl),some (.ref nw),some (.ref b),W,o6,o7,o8,o9])/\H3=H2) ?_ ?_ ?_ ?_;{exact⟨⟨_,rfl⟩,rfl⟩};{rintro j F H3 _ ⟨_,rfl⟩;exact cW.of J};{rintro j y F H3 Y ⟨⟨W,rfl⟩,rfl⟩;obtain⟨k,rfl⟩:∃k,y=.int k:=by{rcases j with _ | _ | _ | j<;>simp at Y;{exact⟨_,Y.symm⟩};{exact⟨_,Y.symm⟩};{exact⟨_,Y.symm⟩}};exact⟨_,rfl,k,rfl,_,rfl,aL rfl ⟨⟨_,rfl⟩,rfl⟩⟩};{rintro F H3 ⟨⟨W,rfl⟩,rfl⟩;refine⟨_,rfl,b,_,rfl,cW.of aD,rfl,_,_,rfl,_,_,rfl,_,_,rfl,_,_,rfl,rfl,?_⟩;refine⟨_,rfl,_,_,rfl,rfl,_,rfl,aL (decide_eq_false (by lia)) ?_⟩;refine⟨_,rfl,_,rfl,_,_,rfl,rfl,_,rfl,aL (decide_eq_false (by lia)) ?_⟩;refine⟨_,rfl,_,_,rfl,rfl,_,rfl,aL (decide_eq_false (by lia)) ?_⟩;refine⟨_,rfl,_,rfl,nl,_,rfl,.inl (bU.of (L _ _ Z)),_,_,rfl,rfl,_,rfl,aL (decide_eq_false (by rw[length_map];lia)) ?_⟩;refine⟨_,rfl,rfl,_,rfl,?_⟩;cases hp:e.put with| true=>refine bH (by decide) ?_;refine⟨_,rfl,_,rfl,_,rfl,nw,_,_,q,rfl,rfl,O,by rw[g3,aru];exact xQ g2,?_⟩;refine⟨⟨_,_,_,_,_,_,rfl⟩,dB L ag,?_⟩;rw[aj,arv,ai,nT];unfold ai0;rw[hp,if_pos rfl,g3]| false=>refine aL (by decide) ?_;refine⟨_,rfl,rfl,_,rfl,aL (by decide) ?_⟩;refine⟨_,rfl,_,rfl,nw,_,_,_,rfl,rfl,bU.of O,by rw[g3];exact auD g2,_,rfl,rfl,_,rfl,aL ?_ ?_⟩;{have:=walk_at wk he hp;rw[this,g3];simp};{refine⟨⟨_,_,_,_,_,_,rfl⟩,L,?_⟩;rw[O,ai,nT];unfold ai0;rw[hp];rfl}}};{rintro F H' ⟨_,s',_⟩;exact ap H' s'}
def rdU(k:Nat)(S:TS):List bG:=((range k).filter λd => !(S.up d).isEmpty).map λd:Nat=>bG.up d
def rdD(k:Nat)(S:TS):List bG:=((range k).filter λd => !(S.dn d).isEmpty).map λd:Nat=>bG.down d
theorem aj3(k:Nat)(S:TS):rdU (k+1) S=rdU k S++(if !(S.up k).isEmpty then [bG.up k]else []):=by
 unfold rdU;rw[range_succ,filter_append,map_append];congr 1;simp only[filter_cons,filter_nil];split<;>rfl
theorem aj4(k:Nat)(S:TS):rdD (k+1) S=rdD k S++(if !(S.dn k).isEmpty then [bG.down k]else []):=by
 unfold rdD;rw[range_succ,filter_append,map_append];congr 1;simp only[filter_cons,filter_nil];split<;>rfl
theorem aga(k:Nat)(S:TS):(rdU k S).length<=k:=by
 unfold rdU;rw[length_map];refine Nat.le_trans (length_filter_le _ _) ?_;rw[length_range];exact Nat.le_refl _
theorem auG(k:Nat)(S:TS):(rdD k S).length<=k:=by
 unfold rdD;rw[length_map];refine Nat.le_trans (length_filter_le _ _) ?_;rw[length_range];exact Nat.le_refl _
def Ig(n:Nat)(S:TS):List bG:=rdU n S++rdD n S
def arx(n:Nat)(S:TS):Nat->List bG
 | 0=>[]
 | 1=>rdU n S
 | _=>Ig n S
theorem List.fJ{α:Type}(l:List α):l.isEmpty=decide (l.length=0):=by cases l<;>simp
def auH:Sp:=λvs H Q _=>∃A n m S se,vs=[.ref (A .bf)]/\bj H A n m S se/\n<=1000/\∀l us H',bK H H'->H l=none->H' l=some (.lst us)->aG H' us ((Ig n S).map bG.d)->Q (.ref l) H'
theorem KR(T:Txt K w mg t):cX P w K mg base mW 1 t.jh t.yN ["_law_town"] auH:=by
 refine T.Cz.ok rC (λvs H Q E h=>?_) (λa6 A outer s H vs Q E hr h=>?_);{obtain⟨A,n,m,S,se,rfl,_⟩:=h;rfl}
 ·obtain⟨A,n,m,S,se,rfl,M,hn,ax⟩:=h;have hu:=kY hr;have sl:sizeLine=16777216:=by{decide};have nb : -(2 ^ 62)<=((n:Nat):Int)/\((n:Nat):Int)<2 ^ 62:=⟨by lia,by lia⟩;have ay:(("up":Str)++("s":Str))="ups":=∅;have aB:(("down":Str)++("s":Str))="downs":=∅;obtain⟨ws,w1,w2,w3⟩:=M.dN;refine⟨_,(ao (bu (i:=1) rC.nd rfl (Or.inl rfl) (bJ ak))
   (ao (mU PassesOwn.never rfl (ou (bJ (aa aC (aa aC ak)))) (cj (i:=2) rC.nd rfl (Or.inl rfl)) (aA (mU PassesOwn.never rfl (fU (by rfl) T.jN (aa (cG cJ (by rfl) T.pL PySem.boot_len (aa (bL hu (pv 0) aC (λ_ _=>rfl)) ak)) ak)) (cj (i:=3) rC.nd rfl (Or.inl rfl)) (aA (bY (aP (Pa hr.Zv) (aN bz (bL hu (pv 0) (bI Zr (pv 2) aC) (λ_ _=>rfl)) (pv 3) (λ_ _=>rfl)) (bJ ak) (aY _)) (aA (bN (dZ plainAttrs_list PySem.F.slot_list_append PySem.F.type_list_append cu (pv 1) (aa (b7 (aa (pv 2) (aa (pv 3) ak))) ak)))) bw)))))
   (aA (aZ (pv 1))))),?_⟩
  try dsimp only[dj,Cx.kE]
  show let Z1:L2.TS:=_;let Z2:L2.TS:=_;let Z3:L2.TS:=cR _ Z2 bM;let Z4:L2.TS:=J3 _ _ Z3;let Z5:L2.TS:=J3 _ _ Z4;let Z6:L2.TS:=_;let D0:Ends:=_;(aV Z1 (aV Z5 (Z6))) D0 _ _;intro Z1 Z2 Z3 Z4 Z5 Z6 D0;refine⟨wF,λl hl=>?_⟩;have s1:=aq (o:=.lst []) hl;refine⟨sS,λwl ah=>⟨wl,rfl,⟨_,bU.of aj⟩,?_⟩⟩;have ai:wl≠l:=λz=>by{rw[z,aj]at ah;cases ah};have s2:=s1.trans (aq (o:=.lst [.str "up",.str "down"]) ah);let W9:Nat->St->Hp->Prop:=λi Z H'=>(∃o2 o3,Z=[some (.ref (A .bf)),some (.ref l),o2,o3])/\bK H H'/\H' wl=some (.lst [.str "up",.str "down"])/\∃us,H' l=some (.lst us)/\aG H' us ((arx n S i).map bG.d);refine rF (xs:=[.str "up",.str "down"]) W9 ?_ ?_ ?_ ?_;{exact⟨⟨_,_,rfl⟩,s2,aj,[],by rw[az ai.symm,aj],by simp[arx,aG]⟩};{rintro i Z H' _ ⟨_,_,I,_⟩;exact bU.of I};{rintro i y Z H' hy ⟨⟨o2,o3,rfl⟩,s',I,us,J,O⟩;rcases i with _ | _ | i;{have hx:y=.str "up":=by{simpa using hy.symm};subst hx;refine zd rfl (eZ (M.same s').bf lz) ⟨A .dN,ws,rfl,.inl (bU.of (s' _ _ w1)),(n:Int),(by rw[w2]),nb.1,nb.2,?_⟩;rw[Int.toNat_natCast];let aH:Nat->St->Hp->Prop:=λj Z H'=>(∃o3,Z=[some (.ref (A .bf)),some (.ref l),some (.str "up"),o3])/\bK H H'/\H' wl=some (.lst [.str "up",.str "down"])/\∃us,H' l=some (.lst us)/\aG H' us (([]++rdU j S).map bG.d);refine qC aH ?_ ?_ ?_;{exact⟨⟨_,rfl⟩,s',I,us,J,by rw[show rdU 0 S=[]from rfl,append_nil];exact O⟩};{clear s' I J O us;rintro j Z H' hj ⟨⟨o3,rfl⟩,s',I,us,J,O⟩;rw[Int.zero_add];have M':=M.same s';obtain⟨vs,g1,g2⟩:=M'.up hj;have gl:vs.isEmpty=(S.up j).isEmpty:=by{rw[List.fJ,List.fJ,g2.length,length_map]};refine⟨_,rfl,_,rfl,_,_,rfl,rfl,∅,A .bf,.ref (A .ups),rfl,(by rw[ay];exact eZ M'.bf JQ),zl rfl (bU.of M'.ups) (bR hj) ⟨wF,λe he=>⟨A (.up j),e,vs,rfl,rfl,bU.of (aq he _ _ g1),bU.of aj,_,rfl,?_⟩⟩⟩;rw[gl];have s3:=s'.trans (aq (o:=.lst []) he);have W:=aq (o:=.lst []) he _ _ I;have L:=aq (o:=.lst []) he _ _ J;have Y:=O.aU (aQ (aq (o:=.lst []) he)) (bc bG.flat _);generalize upd H' e (.lst [])=H3 at s3 W L Y;cases hE:(S.up j).isEmpty with| true=>refine aL rfl ?_;exact⟨⟨_,rfl⟩,s3,W,us,L,by rw[aj3,hE];simpa using Y⟩| false=>refine bH rfl ?_;refine⟨_,rfl,.inl ⟨rfl,_,bU.of L⟩,⟨_,rfl,_,rfl,sS,λtp an=>?_⟩⟩;have s4:=aq (o:=.tup [.str "up",.int (j:Int)]) an;have ap:upd H3 tp (.tup [.str "up",.int (j:Int)]) tp=some (.tup (bG.up j).vs):=aj;have ae:=s4 _ _ L;have ar:=Y.aU (aQ s4) (bc bG.flat _);have e1:=O.length;rw[length_map,length_append]at e1;have e2:=aga n S;have e3:=aga j S;have tl:=iB (vs:=us++[.ref tp]) ae;refine⟨l,us,_,rfl,rfl,ae,by(try simp only[length_nil]at e1);lia,?_⟩;refine⟨⟨_,rfl⟩,dB (s3.trans s4) hl,by rw[az ai];exact s4 _ _ W,us++[.ref tp],aj,?_⟩;rw[aj3,hE,<-append_assoc,map_append];exact aG.snoc (ar.aU tl (bc bG.flat _)) (Qx (x:=bG.up j) (tl _ _ ap))};{rintro Z H' ⟨⟨o3,rfl⟩,s',I,us,J,O⟩;exact⟨⟨_,_,rfl⟩,s',I,us,J,O⟩}};{have hx:y=.str "down":=by{simpa using hy.symm};subst hx;refine zd rfl (eZ (M.same s').bf lz) ⟨A .dN,ws,rfl,.inl (bU.of (s' _ _ w1)),(n:Int),(by rw[w2]),nb.1,nb.2,?_⟩;rw[Int.toNat_natCast];let aM:Nat->St->Hp->Prop:=λj Z H'=>(∃o3,Z=[some (.ref (A .bf)),some (.ref l),some (.str "down"),o3])/\bK H H'/\H' wl=some (.lst [.str "up",.str "down"])/\∃us,H' l=some (.lst us)/\aG H' us ((rdU n S++rdD j S).map bG.d);refine qC aM ?_ ?_ ?_;{exact⟨⟨_,rfl⟩,s',I,us,J,by rw[show rdD 0 S=[]from rfl,append_nil];exact O⟩};{clear s' I J O us;rintro j Z H' hj ⟨⟨o3,rfl⟩,s',I,us,J,O⟩;rw[Int.zero_add];have M':=M.same s';obtain⟨vs,g1,g2⟩:=M'.dn hj;have gl:vs.isEmpty=(S.dn j).isEmpty:=by{rw[List.fJ,List.fJ,g2.length,length_map]};refine⟨_,rfl,_,rfl,_,_,rfl,rfl,∅,A .bf,.ref (A .downs),rfl,(by rw[aB];exact eZ M'.bf zE),zl rfl (bU.of M'.downs) (bR hj) ⟨wF,λe he=>⟨A (.dn j),e,vs,rfl,rfl,bU.of (aq he _ _ g1),bU.of aj,_,rfl,?_⟩⟩⟩;rw[gl];have s3:=s'.trans (aq (o:=.lst []) he);have W:=aq (o:=.lst []) he _ _ I;have L:=aq (o:=.lst []) he _ _ J;have Y:=O.aU (aQ (aq (o:=.lst []) he)) (bc bG.flat _);generalize upd H' e (.lst [])=H3 at s3 W L Y;cases hE:(S.dn j).isEmpty with| true=>refine aL rfl ?_;exact⟨⟨_,rfl⟩,s3,W,us,L,by rw[aj4,hE];simpa using Y⟩| false=>refine bH rfl ?_;refine⟨_,rfl,.inl ⟨rfl,_,bU.of L⟩,⟨_,rfl,_,rfl,sS,λtp an=>?_⟩⟩;have s4:=aq (o:=.tup [.str "down",.int (j:Int)]) an;have ap:upd H3 tp (.tup [.str "down",.int (j:Int)]) tp=some (.tup (bG.down j).vs):=aj;have ae:=s4 _ _ L;have ar:=Y.aU (aQ s4) (bc bG.flat _);have e1:=O.length;rw[length_map,length_append]at e1;have e2:=aga n S;have e3:=auG j S;have tl:=iB (vs:=us++[.ref tp]) ae;refine⟨l,us,_,rfl,rfl,ae,by(try simp only[length_nil]at e1);lia,?_⟩;refine⟨⟨_,rfl⟩,dB (s3.trans s4) hl,by rw[az ai];exact s4 _ _ W,us++[.ref tp],aj,?_⟩;rw[aj4,hE,<-append_assoc,map_append];exact aG.snoc (ar.aU tl (bc bG.flat _)) (Qx (x:=bG.down j) (tl _ _ ap))};{rintro Z H' ⟨⟨o3,rfl⟩,s',I,us,J,O⟩;exact⟨⟨_,_,rfl⟩,s',I,us,J,O⟩}};{simp at hy}};{rintro Z H' ⟨⟨o2,o3,rfl⟩,s',_,us,J,O⟩;exact⟨_,rfl,ax l us H' s' hl J O⟩}
theorem Zg{H:Hp}:∀{ds:List D} {vs:List V} {i:Nat} {d:D},aG H vs ds->ds[i]? = some d->∃v,vs[i]? = some v/\Rep H v d
 | [],_,_,_,_,h=>by simp at h
 | x::ds,vs,i,d,r,h=>by simp only[aG]at r;obtain⟨u,us,rfl,z,rl⟩:=r;cases i with| zero=>simp at h;subst h;exact⟨u,rfl,z⟩| succ i=>simp at h;obtain⟨v,h1,h2⟩:=Zg rl h;exact⟨v,by simpa using h1,h2⟩
def bG.ud:bG->Prop
 | .up _=>True
 | .down _=>True
 | _=>False
theorem aoF{n:Nat}{S:TS}(h:Ig n S=[]){d:Nat}(hd:d<n):S.up d=[]/\S.dn d=[]:=by
 obtain⟨h1,h2⟩:=append_eq_nil_iff.mp h;refine⟨Classical.byContradiction λz=>?_,Classical.byContradiction λz=>?_⟩;{have:bG.up d∈rdU n S:=mem_map.mpr ⟨d,mem_filter.mpr ⟨mem_range.mpr hd,by simpa using z⟩,rfl⟩;rw[h1]at this;cases this};{have:bG.down d∈rdD n S:=mem_map.mpr ⟨d,mem_filter.mpr ⟨mem_range.mpr hd,by simpa using z⟩,rfl⟩;rw[h2]at this;cases this}
theorem al7{n m:Nat}{x:Int->Int}{S:TS}{y:bG}(C:Kg n m x S)(I:ik n m S)(h:y∈Ig n S):y.ud/\((S.step n m y).1).phi n m+1<=S.phi n m:=by
 rcases mem_append.mp h with h | h;{obtain⟨d,hd,rfl⟩:=mem_map.mp h;rw[mem_filter,mem_range]at hd;obtain⟨hd,z⟩:=hd;refine⟨trivial,?_⟩;cases e:S.up d with| nil=>rw[e]at z;simp at z| cons l r=>have es:S.step n m (.up d)=(S.Ph d l r,l.d):=by{simp only[TS.step];rw[if_pos (show inR (d:Int) n by unfold inR;lia),Int.toNat_natCast];unfold TS.upD;rw[e]};rw[es];exact axt I (C.gok I (I.up d hd l (by rw[e];simp)).1) hd e};{obtain⟨d,hd,rfl⟩:=mem_map.mp h;rw[mem_filter,mem_range]at hd;obtain⟨hd,z⟩:=hd;refine⟨trivial,?_⟩;cases e:S.dn d with| nil=>rw[e]at z;simp at z| cons l r=>have es:S.step n m (.down d)=(S.Bj d l r,l.d):=by{simp only[TS.step];rw[if_pos (show inR (d:Int) n by unfold inR;lia),Int.toNat_natCast];unfold TS.Kd;rw[e]};rw[es];exact axu hd e}
def auI(K:Frag):Sp:=λvs H Q _=>∃(A:Mb->Addr) (n m:Nat) (S:TS) (se:List (Nat×Let)) (sc:Addr) (ns:List Int) (Hb:Hp) (x:Int->Int) (tt:Nat),vs=[.ref (A .bf),.ref sc]/\bj H A n m S se/\ik n m S/\Kg n m x S/\Bd tt S se/\tt+S.phi n m<=1500/\n<=1000/\bU K Hb sc (ns.map V.int)/\bK Hb H/\(∀x:Mb,x.ok n m->Hb (A x)=none)/\
 ∀l us ys H',bK Hb H'->H' l=some (.lst us)->aG H' us (map bG.d ys)->(∀d,d<n->(lV n m S ys).up d=[]/\(lV n m S ys).dn d=[])->ys.length<=S.phi n m->(∀y∈ys,bG.ud y)->Q (.ref l) H'
def DW(n m:Nat)(S:TS)(tt:Nat)(tw sc dl:Addr)(Hb:Hp)(k:Nat)(σ:St)(H':Hp):Prop:=∃(ys:List bG) (us rs:List V) (rl:Addr) (A':Mb->Addr) (se':List (Nat×Let)) (o:Option V),σ=[some (.ref (tw)),some (.ref sc),some (.ref dl),some (.ref rl),o]/\bK Hb H'/\A' .bf=tw/\bj H' A' n m (lV n m S ys) se'/\Bd (tt+ys.length) (lV n m S ys) se'/\(∀x:Mb,x.ok n m->Hb (A' x)=none/\A' x≠dl)/\H' dl=some (.lst us)/\aG H' us (ys.map bG.d)/\H' rl=some (.lst rs)/\aG H' rs ((Ig n (lV n m S ys)).map bG.d)/\ys.length+(lV n m S ys).phi n m<=S.phi n m/\(∀y∈ys,bG.ud y)/\k=(lV n m S ys).phi n m
theorem agb(T:Txt K w mg t):cX P w K mg base mW 5 t.jC t.Cp ["_law_town","_law_script"] (auI K):=by
 refine T.VB.ok ph (λvs H Q E h=>?_) (λbL A outer s H vs Q E hr h=>?_);{obtain⟨A,n,m,S,se,sc,ns,Hb,x,tt,rfl,_⟩:=h;rfl}
 ·obtain⟨A0,n,m,S,se,sc,ns,Hb,x,tt,rfl,M,I,C,bd,bO,hn,aO,sb,fr,aR⟩:=h;have hu:=kY hr;have sl:sizeLine=16777216:=by{decide};refine⟨_,(ao (bu (i:=2) ph.nd rfl (Or.inl rfl) (bJ ak))
   (ao (bu (i:=3) ph.nd rfl (Or.inl rfl) (bZ (KR T) (hr.mono (by decide):bV 1 _) (by rfl) T.Qn T.Cz.kp T.Qm .nil bW (aa (pv 0) ak)))
   (ao (Ov PassesOwn.never (aP (Pa hr.Zv) (pv 3) (bJ ak) (aY _)) (ao (bu (i:=4) ph.nd rfl (Or.inl rfl) (aN bz (pv 3) (bI fc (bI jU (bZ (Qz T) (hr.mono (by decide):bV 1 _) (by rfl) T.aax T.TY.kp T.aaw .nil bW (aa (pv 1) (aa (bI fc (cG cJ (by rfl) T.pL PySem.boot_len (aa (pv 2) ak)) aB) ak))) (cG cJ (by rfl) T.pL PySem.boot_len (aa (pv 2) ak))) (cG cJ (by rfl) T.pL PySem.boot_len (aa (pv 3) ak))) (λ_ _=>rfl)))
   (ao (bN (bZ (KJ T) (hr.mono (by decide):bV 4 _) (by rfl) T.Qk T.Cy.kp T.Qj .nil bW (aa (pv 0) (aa (pv 4) ak))))
   (ao (bN (dZ plainAttrs_list PySem.F.slot_list_append PySem.F.type_list_append cu (pv 2) (aa (pv 4) ak)))
   (aA (bu (i:=3) ph.nd rfl (Or.inl rfl) (bZ (KR T) (hr.mono (by decide):bV 1 _) (by rfl) T.Qn T.Cz.kp T.Qm .nil bW (aa (pv 0) ak))))))))
   (aA (aZ (pv 2)))))),?_⟩
  try dsimp only[dj,Cx.kE]
  show let Z1:L2.TS:=_;let Z2:L2.TS:=_;let Z3:L2.TS:=_;let Z4:L2.TS:=_;let Z5:L2.TS:=_;let Z6:L2.TS:=_;let Z7:L2.TS:=aV Z3 (aV Z4 (aV Z5 (Z6)));let Z8:L2.TS:=Zk _ Z7;let Z9:L2.TS:=_;let D0:Ends:=_;(aV Z1 (aV Z2 (aV Z8 (Z9)))) D0 _ _;intro Z1 Z2 Z3 Z4 Z5 Z6 Z7 Z8 Z9 D0;refine⟨wF,λdl O=>?_⟩;have s1:=aq (o:=.lst []) O;have aS:Hb dl=none:=bK.free sb O;refine⟨_,rfl,A0,n,m,S,se,rfl,M.same s1,hn,λrl rs H1 s2 W as rr=>?_⟩;have aT:Hb rl=none:=bK.free (sb.trans s1) W;have aW:dl≠rl:=λz=>by{rw[<-z,aj]at W;cases W};refine⟨DW n m S tt (A0 .bf) sc dl Hb,
   ⟨_,[],[],rs,rl,A0,se,none,rfl,(sb.trans s1).trans s2,rfl,(M.same s1).same s2,bd,λx hx=>⟨fr x hx,M.yq hx O⟩,s2 _ _ aj,by simp[aG],as,rr,by show 0+S.phi n m<=_;lia,(λy hy=>nomatch hy),rfl⟩,?_⟩
  clear W as rr s2 s1 O aT aW rs rl;rintro k σ H' ⟨ys,us,rs,rl,A',se',o,rfl,au,eA,M',af,ag,av,ru,ah,rr,aw,ax,rfl⟩;have I':=ik.run (xs:=ys) I;have C':=Kg.run (xs:=ys) I C;generalize hS:lV n m S ys=S' at M' af rr aw I' C';refine⟨_,rfl,wF,λe he=>⟨rl,e,rs,rfl,rfl,bU.of (aq he _ _ ah),bU.of aj,_,rfl,?_⟩⟩;have s3:=aq (o:=.lst []) he;have L:=au.trans s3;have M3:=M'.same s3;have J:=s3 _ _ av;have ai:=s3 _ _ ah;have Y:=ru.aU (aQ s3) (bc bG.flat _);have Z:=rr.aU (aQ s3) (bc bG.flat _);generalize upd H' e (.lst [])=H3 at s3 L M3 J ai Y Z;clear s3 he au M' av ah ru rr;cases al:rs with| nil=>refine aL rfl ?_;subst al;have e0:Ig n S'=[]:=by{have:=Z.length;rw[length_map]at this;exact length_eq_zero_iff.mp this.symm};refine⟨_,rfl,aR dl us ys H3 L J Y (λd hd=>?_) (by lia) ax⟩;rw[hS];exact aoF e0 hd| cons r0 bS=>refine bH rfl ?_;have bB:0<rs.length:=by{rw[al];simp};clear al;refine⟨λbT H4=>∃m',m'<S'.phi n m/\DW n m S tt (A0 .bf) sc dl Hb m' bT H4,λ_ _ z=>z,?_⟩;have bX:rs.length=(Ig n S').length:=by{rw[Z.length,length_map]};have bY:us.length=ys.length:=by{rw[Y.length,length_map]};refine⟨_,rfl,_,rfl,_,rfl,dl,_,rfl,.inl (bU.of J),_,_,rfl,rfl,(show(0:Int)<63 by decide),sc,ns,_,rfl,bU.same aO L,Int.emod_nonneg _ (by decide),λz=>?_⟩;refine⟨_,rfl,dl,_,rfl,.inl (bU.of J),_,_,rfl,rfl,_,rfl,rl,_,rfl,.inl (bU.of ai),_,_,rfl,rfl,(by lia),?_⟩;obtain⟨k,hk,ek⟩:∃k:Nat,k<rs.length/\(z+(us.length:Int)) % (rs.length:Int)=(k:Int):=by{have h1:=Int.emod_nonneg (z+(us.length:Int)) (show(rs.length:Int)≠0 by lia);have h2:=Int.emod_lt_of_pos (z+(us.length:Int)) (show(0:Int)<rs.length by lia);exact⟨((z+(us.length:Int)) % (rs.length:Int)).toNat,by lia,by lia⟩};obtain⟨y,hy⟩:∃y,(Ig n S')[k]? = some y:=⟨_,getElem?_eq_getElem (by lia)⟩;obtain⟨v,hv,rv⟩:=Zg (i:=k) (d:=y.d) Z (by rw[getElem?_map,hy];rfl);obtain⟨b,rfl,hb⟩:=Qy rv;obtain⟨a4,ad⟩:=al7 C' I' (mem_of_getElem? hy);refine⟨rl,rs,_,_,rfl,rfl,bU.of ai,(by rw[ek];exact iH hv),?_⟩;have aC:=af.step (n:=n) (m:=m) y;refine⟨_,rfl,_,rfl,A',n,m,S',se',b,y,tt+ys.length,(by rw[eA];rfl),M3,hb,I',af,by lia,λv A2 H4 M4 f4 v4 r4=>?_⟩;have a6:bK Hb H4:=λc o e=>f4.kp _ _ (L c o e) λz hz e2=>by{rw[e2,(ag z hz).1]at e;cases e};have am:H4 dl=some (.lst us):=f4.kp _ _ J λz hz e=>(ag z hz).2 e.symm;have a8:=Y.aU (f4.tups M3) (bc bG.flat _);have a9:H4 b=some (.tup y.vs):=f4.tups M3 _ _ hb;have aD:∀z:Mb,z.ok n m->Hb (A2 z)=none/\A2 z≠dl:=λz hz=>by{rcases v4 z hz with e | ⟨_,e⟩;{rw[e];exact ag z hz};{exact⟨bK.free L e,λe2=>by rw[e2,J]at e;cases e⟩}};have tl:=iB (vs:=us++[.ref b]) am;have eS:lV n m S (ys++[y])=(S'.step n m y).1:=by{rw[JZ,hS]};generalize b3:(S'.step n m y).1=S2 at M4 aC ad eS;refine⟨_,rfl,.inl ⟨rfl,_,bU.of am⟩,⟨_,rfl,dl,us,_,rfl,rfl,am,by lia,?_⟩⟩;have M5:=M4.keep tl λz hz u e=>by{rw[az (aD z hz).2];exact e};refine⟨_,rfl,A2,n,m,S2,_,(by rw[v4.bf,eA];rfl),M5,hn,λba bb H6 s6 b5 h6 r6=>?_⟩;have be:=aQ s6;refine⟨_,ad,ys++[y],us++[.ref b],bb,ba,A2,se'++S'.lY n y,_,rfl,(dB a6 aS).trans s6,(v4.bf).trans eA,?_,?_,aD,s6 _ _ aj,?_,h6,?_,?_,λu hu=>?_,by rw[eS]⟩;{rw[eS];exact M5.same s6};{rw[eS,length_append];exact aC};{rw[map_append];exact(aG.snoc (a8.aU tl (bc bG.flat _)) (Qx (x:=y) (tl _ _ a9))).aU be (by rw[show [y].map bG.d=[y.d]from rfl,<-map_singleton (f:=bG.d),<-map_append];exact bc bG.flat _)};{rw[eS];exact r6};{rw[eS,length_append];simp only[length_cons,length_nil];lia};{rcases mem_append.mp hu with z | z;{exact ax u z};{rw[mem_singleton.mp z];exact a4}}
theorem W.flat(w:W):w.d.flat:=by cases w<;>simp[W.d,D.flat,D.flats]
theorem av0{H:Hp}{b:Addr}{w:W}(h:H b=some (.tup w.vs)):Rep H (.ref b) w.d:=by
 cases w with| look p=>simp only[W.d,Rep,aG];exact⟨b,_,rfl,h,_,_,rfl,rfl,_,_,rfl,rfl,rfl⟩| put p k=>simp only[W.d,Rep,aG];exact⟨b,_,rfl,h,_,_,rfl,rfl,_,_,rfl,rfl,_,_,rfl,rfl,rfl⟩
theorem ae5(d:Nat)(row:List RE)(e:RE):Bo d (row++[e])=Bo d row++(if e.dk=d then [reW e]else []):=by
 unfold Bo;rw[filter_append,map_append];congr 1;by_cases h:e.dk=d<;>simp[h]
theorem arz(d:Nat)(row:List RE):(Bo d row).length<=row.length:=by unfold Bo;rw[length_map];exact length_filter_le _ _
def jD(d:Nat):List bG->List D->List W
 | x::xs,a::as=>jl d x a++jD d xs as
 | _,_=>[]
theorem aa5(d:Nat):∀{xs:List bG} {as:List D} {x:bG} {a:D},xs.length=as.length->jD d (xs++[x]) (as++[a])=jD d xs as++jl d x a
 | [],[],x,a,_=>by simp[jD]
 | y::xs,b::as,x,a,h=>by show jl d y b++jD d (xs++[x]) (as++[a])=jl d y b++jD d xs as++jl d x a;rw[aa5 d (by simpa using h),append_assoc]
 | [],_::_,_,_,h=>by simp at h
 | _::_,[],_,_,h=>by simp at h
theorem al8(d:Nat)(x:bG)(a:D):(jl d x a).length<=1:=by
 unfold jl;split;{split<;>simp};{split<;>simp};{simp}
theorem Ub(d:Nat):∀(xs:List bG) (as:List D),(jD d xs as).length<=xs.length
 | [],as=>by simp[jD]
 | x::xs,[]=>by simp[jD]
 | x::xs,a::as=>by have h1:=al8 d x a;have h2:=Ub d xs as;show(jl d x a++jD d xs as).length<=_;rw[length_append,length_cons];lia
def arA(x:bG)(a:D):Prop:=(∃k,a=.i k)\/(∃s,a=.s s)\/x.ud\/(∃d p,x=.rest d p)
def ayK:Sp:=λvs H Q _=>∃r,∃d:Nat,∃zs,∃row:List RE,vs=[.ref r,.int d]/\H r=some (.lst zs)/\aG H zs (row.map RE.d)/\row.length<=2000/\
 ∀l us H',bK H H'->H' l=some (.lst us)->aG H' us ((Bo d row).map W.d)->Q (.ref l) H'
def arB:Sp:=λvs H Q _=>∃al tl,∃d:Nat,∃us ts,∃xs:List bG,∃as:List D,vs=[.ref al,.ref tl,.int d]/\H al=some (.lst us)/\aG H us (xs.map bG.d)/\H tl=some (.lst ts)/\aG H ts as/\D.flats as/\xs.length=as.length/\(∀(i:Nat) x a,xs[i]? = some x->as[i]? = some a->arA x a)/\xs.length<=2000/\
 ∀l ws H',bK H H'->H' l=some (.lst ws)->aG H' ws ((jD d xs as).map W.d)->Q (.ref l) H'
theorem agc(T:Txt K w mg t):cX P w K mg base mW 1 t.jB t.Cm ["_law_found","_law_desk"] ayK:=by
 refine T.Vz.ok lU (λvs H Q E h=>?_) (λaO A outer s H vs Q E hr h=>?_);{obtain⟨r,d,zs,row,rfl,_⟩:=h;rfl}
 ·obtain⟨r,d,zs,row,rfl,Z,rz,aR,al⟩:=h;have sl:sizeLine=16777216:=by{decide};refine⟨_,(ao (bu (i:=2) lU.nd rfl (Or.inl rfl) (bJ ak))
   (ao (mU PassesOwn.never rfl (ou (pv 0)) (Gz rfl (dJ (cj (i:=3) lU.nd rfl (Or.inl rfl)) (dJ (cj (i:=4) lU.nd rfl (Or.inl rfl)) (dJ (cj (i:=5) lU.nd rfl (Or.inl rfl)) (dJ (cj (i:=6) lU.nd rfl (Or.inl rfl)) ug))))) (aA (bY (PW.pt (Gy (aP cQ (pv 4) (pv 1) (aY _)) (Ba (aP cQ (pv 3) aC (aY _))))) (aA (bN (dZ plainAttrs_list PySem.F.slot_list_append PySem.F.type_list_append cu (pv 2) (aa (b7 (aa (pv 3) (aa (pv 5) (aa (pv 6) ak)))) ak)))) (aA (bY (aP cQ (pv 4) (pv 1) (aY _)) (aA (bN (dZ plainAttrs_list PySem.F.slot_list_append PySem.F.type_list_append cu (pv 2) (aa (b7 (aa (pv 3) (aa (pv 5) ak))) ak)))) bw)))))
   (aA (aZ (pv 2))))),?_⟩
  try dsimp only[dj,Cx.kE]
  show let Z1:L2.TS:=_;let Z2:L2.TS:=_;let Z3:L2.TS:=_;let Z4:L2.TS:=cR _ Z3 bM;let Z5:L2.TS:=cR _ Z2 Z4;let Z6:L2.TS:=J3 _ _ Z5;let Z7:L2.TS:=_;let D0:Ends:=_;(aV Z1 (aV Z6 (Z7))) D0 _ _;intro Z1 Z2 Z3 Z4 Z5 Z6 Z7 D0;refine⟨wF,λl hl=>?_⟩;have s1:=aq (o:=.lst []) hl;have am:zs.length=row.length:=by{rw[rz.length,length_map]};refine⟨_,rfl,r,rfl,⟨_,bU.of (s1 _ _ Z)⟩,?_⟩;let W9:Nat->St->Hp->Prop:=λi ai H'=>(∃o3 o4 o5 o6,ai=[some (.ref r),some (.int d),some (.ref l),o3,o4,o5,o6])/\bK H H'/\∃us,H' l=some (.lst us)/\aG H' us ((Bo d (row.take i)).map W.d);refine rF (xs:=zs) W9 ?_ ?_ ?_ ?_;{exact⟨⟨_,_,_,_,rfl⟩,s1,[],aj,by simp[Bo,aG]⟩};{rintro i ai H' _ ⟨_,s',_⟩;exact bU.of (s' _ _ Z)}
  ·rintro i y ai H' hy ⟨⟨o3,o4,o5,o6,rfl⟩,s',us,I,Y⟩;obtain⟨e,he,re⟩:=af9 (rz.aU (aQ s') (bc RE.flat _)) hy;obtain⟨b,rfl,hb⟩:=anB re;have ac:row.take (i+1)=row.take i++[e]:=by{rw[take_add_one,he];rfl};have e1:=Y.length;rw[length_map]at e1;have e2:=arz d (row.take i);rw[length_take]at e2;have ad:e.dk=d->∀L,H' L=none->Be (.ref l) [.ref L] (upd H' L (.tup (reW e).vs)) λ_ H2=>bK H H2/\∃us,H2 l=some (.lst us)/\aG H2 us ((Bo d (row.take (i+1))).map W.d):=λhd L J=>by{have s4:=aq (o:=.tup (reW e).vs) J;have ae:=s4 _ _ I;have tl:=iB (vs:=us++[.ref L]) ae;refine⟨l,us,_,rfl,rfl,ae,by lia,dB (s'.trans s4) hl,us++[.ref L],aj,?_⟩;rw[ac,ae5,if_pos hd,map_append];exact aG.snoc ((Y.aU (aQ s4) (bc W.flat _)).aU tl (bc W.flat _)) (av0 (w:=reW e) (tl _ _ aj))};refine⟨b,_,rfl,cW.of hb,rfl,_,_,rfl,_,_,rfl,_,_,rfl,_,_,rfl,rfl,?_⟩;refine⟨_,rfl,_,rfl,rfl,_,rfl,?_⟩;by_cases hd:e.dk=d
   ·refine bH (decide_eq_true (by rw[hd])) ?_;refine⟨_,rfl,rfl,_,rfl,?_⟩;cases hp:e.put with
    | true=>refine bH (by decide) ?_;refine⟨_,rfl,.inl ⟨rfl,_,bU.of I⟩,⟨_,rfl,_,rfl,_,rfl,Zh,λL J=>?_⟩⟩;obtain⟨l2,O,y2,q1,q2,q3,q4,q5⟩:=ad hd L J;have ev:(reW e).vs=[.str (Vp true),.int e.pg,.int e.num]:=by{unfold reW;rw[hp];rfl};rw[ev]at q3 q5;exact⟨l2,O,y2,q1,q2,q3,q4,⟨_,_,_,_,rfl⟩,q5⟩
    | false=>refine aL (by decide) ?_;refine⟨_,rfl,_,rfl,rfl,_,rfl,bH (decide_eq_true (by rw[hd])) ?_⟩;refine⟨_,rfl,.inl ⟨rfl,_,bU.of I⟩,⟨_,rfl,_,rfl,sS,λL J=>?_⟩⟩;obtain⟨l2,O,y2,q1,q2,q3,q4,q5⟩:=ad hd L J;have ev:(reW e).vs=[.str (Vp false),.int e.pg]:=by{unfold reW;rw[hp];rfl};rw[ev]at q3 q5;exact⟨l2,O,y2,q1,q2,q3,q4,⟨_,_,_,_,rfl⟩,q5⟩
   ·have ah:decide (V.int (e.dk:Int)=V.int (d:Int))=false:=decide_eq_false λz=>hd (by have:=V.int.inj z;lia);refine aL ah (aL rfl ?_);refine⟨_,rfl,_,rfl,rfl,_,rfl,aL ah ?_⟩;refine⟨⟨_,_,_,_,rfl⟩,s',us,I,?_⟩;rw[ac,ae5,if_neg hd,append_nil];exact Y
  ·rintro ai H' ⟨⟨o3,o4,o5,o6,rfl⟩,s',us,I,Y⟩;rw[am,take_length]at Y;exact⟨_,rfl,al l us H' s' I Y⟩
theorem aa6(T:Txt K w mg t):cX P w K mg base mW 1 t.ig t.vH ["_law_asked","_law_told","_law_desk"] arB:=by
 refine T.Ky.ok vm (λvs H Q E h=>?_) (λbt A outer s H vs Q E hr h=>?_);{obtain⟨al,tl,d,us,ts,xs,as,rfl,_⟩:=h;rfl}
 ·obtain⟨al,tl,d,us,ts,xs,as,rfl,aJ,rx,a2,ra,fa,aK,hok,bA,a3⟩:=h;have sl:sizeLine=16777216:=by{decide};have a4:us.length=xs.length:=by{rw[rx.length,length_map]};refine⟨_,(ao (bu (i:=3) vm.nd rfl (Or.inl rfl) (bJ ak))
   (ao (mU PassesOwn.never rfl (fU (by rfl) T.jN (aa (cG cJ (by rfl) T.pL PySem.boot_len (aa (pv 0) ak)) ak)) (cj (i:=4) vm.nd rfl (Or.inl rfl)) (aA (bY (PW.pt (Gy (aP aeu (aN bC (aN bz (pv 0) (pv 4) (λ_ _=>rfl)) aB (λ_ _=>rfl)) (bJ (aa aC (aa aC ak))) (by rfl)) (Ba (aP cQ (aN bC (aN bz (pv 0) (pv 4) (λ_ _=>rfl)) aB (λ_ _=>rfl)) (pv 2) (aY _))))) (aA (bY (PW.pt (nJ (oh (jo (cG iK (by rfl) T.dH PyProof.Rows.Boot.«isinstance» (aa (aN bz (pv 1) (pv 4) (λ_ _=>rfl)) (aa (mX (by rfl) T.anj PyProof.Rows.Boot.«str») ak))))) (lZ (aP aeu (aN bz (pv 1) (pv 4) (λ_ _=>rfl)) (bJ (aa aC (aa aC ak))) (by rfl))))) (aA (bN (dZ plainAttrs_list PySem.F.slot_list_append PySem.F.type_list_append cu (pv 3) (aa (bI amE (b7 (aa (aN bC (aN bz (pv 0) (pv 4) (λ_ _=>rfl)) aB (λ_ _=>rfl)) ak)) (O2 alh (aN bz (pv 0) (pv 4) (λ_ _=>rfl)) (Y8 aB) Y7)) ak)))) bw)) bw)))
   (aA (aZ (pv 3))))),?_⟩
  try dsimp only[dj,Cx.kE]
  show let Z1:L2.TS:=_;let Z2:L2.TS:=_;let Z3:L2.TS:=cR _ Z2 bM;let Z4:L2.TS:=cR _ Z3 bM;let Z5:L2.TS:=J3 _ _ Z4;let Z6:L2.TS:=_;let D0:Ends:=_;(aV Z1 (aV Z5 (Z6))) D0 _ _;intro Z1 Z2 Z3 Z4 Z5 Z6 D0;refine⟨wF,λl hl=>?_⟩;have s1:=aq (o:=.lst []) hl;refine⟨_,rfl,al,_,rfl,.inl (bU.of (s1 _ _ aJ)),(us.length:Int),rfl,by lia,by lia,?_⟩;rw[Int.toNat_natCast];let a5:Nat->St->Hp->Prop:=λi a6 H'=>(∃o,a6=[some (.ref al),some (.ref tl),some (.int d),some (.ref l),o])/\i<=us.length/\bK H H'/\∃ws,H' l=some (.lst ws)/\aG H' ws ((jD d (xs.take i) (as.take i)).map W.d);refine qC a5 ?_ ?_ ?_;{exact⟨⟨_,rfl⟩,zero_le _,s1,[],aj,by simp[jD,aG]⟩};{rintro i a6 H' hi ⟨⟨o,rfl⟩,_,s',ws,O,Y9⟩;rw[Int.zero_add];obtain⟨x,hx⟩:∃x,xs[i]? = some x:=⟨_,getElem?_eq_getElem (by lia)⟩;obtain⟨a,ha⟩:∃a,as[i]? = some a:=⟨_,getElem?_eq_getElem (by lia)⟩;obtain⟨v,hv,rv⟩:=Zg (i:=i) (d:=x.d) (rx.aU (aQ s') (bc bG.flat _)) (by rw[getElem?_map,hx];rfl);obtain⟨b,rfl,hb⟩:=Qy rv;obtain⟨u,av,ru⟩:=Zg (i:=i) (d:=a) (ra.aU (aQ s') fa) ha;have Y:=s' _ _ aJ;have aw:=s' _ _ a2;have ho:=hok i x a hx ha;have aO:jD d (xs.take (i+1)) (as.take (i+1))=jD d (xs.take i) (as.take i)++jl d x a:=by{rw[take_add_one,hx,take_add_one,ha];exact aa5 d (by rw[length_take,length_take,aK])};have ax:∀H2,bK H' H2->jl d x a=[]->(∃o,[some (V.ref al),some (.ref tl),some (.int d),some (.ref l),some (.int i)]=[some (V.ref al),some (.ref tl),some (.int d),some (.ref l),o])/\i+1<=us.length/\bK H H2/\∃ws,H2 l=some (.lst ws)/\aG H2 ws ((jD d (xs.take (i+1)) (as.take (i+1))).map W.d):=λH2 L hw=>⟨⟨_,rfl⟩,by lia,s'.trans L,ws,L _ _ O,by rw[aO,hw,append_nil];exact Y9.aU (aQ L) (bc W.flat _)⟩;refine⟨_,rfl,_,rfl,al,us,_,_,rfl,rfl,bU.of Y,iH hv,b,_,0,_,rfl,rfl,cW.of hb,bG.at0 x,sS,λwl a9=>⟨wl,_,rfl,.inl (bU.of aj),rfl,rfl,_,rfl,?_⟩⟩;have L:=aq (o:=.lst [.str "look",.str "put"]) a9;generalize upd H' wl (.lst [.str "look",.str "put"])=H2 at L;by_cases ae:∃e w,x=wd e w;{obtain⟨e,I,rfl⟩:=ae;have ba:inV (.str (wd e I).tag) [.str "look",.str "put"]=true:=by{cases I with| look p=>show inV (.str "look") _=true;decide +kernel| put p k=>show inV (.str "put") _=true;decide +kernel};refine bH ba ?_;refine⟨_,rfl,_,rfl,al,us,_,_,rfl,rfl,bU.of (L _ _ Y),iH hv,b,_,1,_,rfl,rfl,cW.of (L _ _ hb),bG.at1 _,_,rfl,rfl,_,rfl,?_⟩;rw[avS];by_cases hd:e=(d:Int);{refine bH (decide_eq_true (by rw[hd])) ?_;have bb:okA a=true->jl d (wd e I) a=[I]:=λh=>by{cases I<;>exact if_pos ⟨hd,h⟩};have bd:okA a=false->jl d (wd e I) a=[]:=λh=>by{cases I<;>exact if_neg λz=>by rw[h]at z;exact absurd z.2 (by simp)};have Z:okA a=true->∀H5,bK H' H5->∀z3,H5 z3=none->Be (.ref l) [.ref z3] (upd H5 z3 (.tup I.vs)) λ_ H2=>(∃o,[some (V.ref al),some (.ref tl),some (.int d),some (.ref l),some (.int i)]=[some (V.ref al),some (.ref tl),some (.int d),some (.ref l),o])/\i+1<=us.length/\bK H H2/\∃ws,H2 l=some (.lst ws)/\aG H2 ws ((jD d (xs.take (i+1)) (as.take (i+1))).map W.d):=λac H5 s5 z3 ag=>by{have s6:=aq (o:=.tup I.vs) ag;have aR:=s6 _ _ (s5 _ _ O);have aS:=iB (vs:=ws++[.ref z3]) aR;have e1:=Y9.length;rw[length_map]at e1;have e2:=Ub d (xs.take i) (as.take i);rw[length_take]at e2;refine⟨l,ws,_,rfl,rfl,aR,by lia,⟨_,rfl⟩,by lia,dB ((s'.trans s5).trans s6) hl,ws++[.ref z3],aj,?_⟩;rw[aO,bb ac,map_append];exact aG.snoc ((Y9.aU (aQ (s5.trans s6)) (bc W.flat _)).aU aS (bc W.flat _)) (av0 (w:=I) (aS _ _ aj))};rcases ho with ⟨k,rfl⟩ | ⟨sx,rfl⟩ | ho | ⟨_,_,ho⟩;{simp only[Rep]at ru;subst ru;refine⟨_,rfl,_,rfl,tl,ts,_,_,rfl,rfl,bU.of (L _ _ aw),iH av,_,_,.type "int",false,rfl,.int _,.inl ⟨_,rfl,kit_is⟩,_,rfl,bH rfl (p6 ?_)⟩;have Z:=Z rfl;have s3:=L;generalize H2=H3 at s3;refine⟨_,rfl,.inl ⟨rfl,_,bU.of (s3 _ _ O)⟩,⟨_,rfl,_,rfl,al,us,_,_,rfl,rfl,bU.of (s3 _ _ Y),iH hv,b,_,0,_,rfl,rfl,cW.of (s3 _ _ hb),bG.at0 _,zz1,λz1 az=>?_⟩⟩;rw[alT];have s4:=aq (o:=.tup [.str I.tag]) az;have ah:upd H3 z1 (.tup [.str I.tag]) z1=some (.tup [.str I.tag]):=aj;generalize upd H3 z1 (.tup [.str I.tag])=H4 at s4 ah;have J:=s3.trans s4;refine⟨_,rfl,_,rfl,al,us,_,_,rfl,rfl,bU.of (J _ _ Y),iH hv,_,rfl,b,_,rfl,cW.of (J _ _ hb),aqN _ _,λz2 aD=>?_⟩;rw[alS];have s5:=aq (o:=.tup I.vs.tail) aD;have ai:upd H4 z2 (.tup I.vs.tail) z2=some (.tup I.vs.tail):=aj;generalize upd H4 z2 (.tup I.vs.tail)=H5 at s5 ai;refine⟨z1,z2,[.str I.tag],I.vs.tail,rfl,rfl,cW.of (s5 _ _ ah),cW.of ai,by simp,alU e I,λz=>absurd z (aqL I),λ_ z3 ag=>?_⟩;rw[show [V.str I.tag]++I.vs.tail=I.vs from(axS I).symm];exact Z H5 (J.trans s5) z3 ag};{simp only[Rep]at ru;subst ru;refine⟨_,rfl,_,rfl,tl,ts,_,_,rfl,rfl,bU.of (L _ _ aw),iH av,_,_,.type "str",true,rfl,.str _,.inl ⟨_,rfl,afr⟩,_,rfl,aL rfl ?_⟩;refine⟨_,rfl,_,rfl,tl,ts,_,_,rfl,rfl,bU.of (L _ _ aw),iH av,sS,λw2 bf=>⟨w2,_,rfl,.inl (bU.of aj),rfl,rfl,_,rfl,?_⟩⟩;have s3:=L.trans (aq (o:=.lst [.str "done",.str "waits"]) bf);generalize upd H2 w2 (.lst [.str "done",.str "waits"])=H3 at s3;have aX:inV (.str sx) [.str "done",.str "waits"]=okA (.s sx):=by{show(decide (("done":Str)=sx) || (decide (("waits":Str)=sx) || false))=(decide (sx="done") || decide (sx="waits"));rw[Bool.or_false];congr 1;{exact decide_eq_decide.mpr ⟨Eq.symm,Eq.symm⟩};{exact decide_eq_decide.mpr ⟨Eq.symm,Eq.symm⟩}};cases ac:okA (.s sx)with| true=>refine bH (aX.trans ac) ?_;have Z:=Z ac;refine⟨_,rfl,.inl ⟨rfl,_,bU.of (s3 _ _ O)⟩,⟨_,rfl,_,rfl,al,us,_,_,rfl,rfl,bU.of (s3 _ _ Y),iH hv,b,_,0,_,rfl,rfl,cW.of (s3 _ _ hb),bG.at0 _,zz1,λz1 az=>?_⟩⟩;rw[alT];have s4:=aq (o:=.tup [.str I.tag]) az;have ah:upd H3 z1 (.tup [.str I.tag]) z1=some (.tup [.str I.tag]):=aj;generalize upd H3 z1 (.tup [.str I.tag])=H4 at s4 ah;have J:=s3.trans s4;refine⟨_,rfl,_,rfl,al,us,_,_,rfl,rfl,bU.of (J _ _ Y),iH hv,_,rfl,b,_,rfl,cW.of (J _ _ hb),aqN _ _,λz2 aD=>?_⟩;rw[alS];have s5:=aq (o:=.tup I.vs.tail) aD;have ai:upd H4 z2 (.tup I.vs.tail) z2=some (.tup I.vs.tail):=aj;generalize upd H4 z2 (.tup I.vs.tail)=H5 at s5 ai;refine⟨z1,z2,[.str I.tag],I.vs.tail,rfl,rfl,cW.of (s5 _ _ ah),cW.of ai,by simp,alU e I,λz=>absurd z (aqL I),λ_ z3 ag=>?_⟩;rw[show [V.str I.tag]++I.vs.tail=I.vs from(axS I).symm];exact Z H5 (J.trans s5) z3 ag| false=>refine aL (aX.trans ac) ?_;exact ax H3 s3 (bd ac)};{cases I<;>exact absurd ho id};{cases I<;>cases ho}};{refine aL (decide_eq_false λz=>hd (V.int.inj z)) ?_;refine ax H2 L ?_;cases I<;>exact if_neg λz=>hd z.1}};{have hu:jl d x a=[]:=by{cases x with| look e p=>exact absurd ⟨e,.look p,rfl⟩ ae| put e p k=>exact absurd ⟨e,.put p k,rfl⟩ ae| _=>rfl};have bg:inV (.str x.tag) [.str "look",.str "put"]=false:=by{cases x with| look e p=>exact absurd ⟨e,.look p,rfl⟩ ae| put e p k=>exact absurd ⟨e,.put p k,rfl⟩ ae| rest e p=>show inV (.str "rest") _=false;decide +kernel| up e=>show inV (.str "up") _=false;decide +kernel| down e=>show inV (.str "down") _=false;decide +kernel};refine aL bg (aL rfl ?_);exact ax H2 L hu}};{rintro a6 H' ⟨⟨o,rfl⟩,_,s',ws,O,Y9⟩;rw[a4,take_length,aK,take_length]at Y9;exact⟨_,rfl,a3 l ws H' s' O Y9⟩}
def anC(K:Frag):Sp:=λvs H Q _=>∃(a:Addr) (ns:List Int),vs=[.ref a]/\bU K H a (ns.map V.int)/\ns.length<=63/\∀H',Q (.bl true) H'
theorem anD(u v:Int)(F:1<=u/\u<=20)(I:1<=v/\v<=20)(b:Bool):∃n:Nat,0<n/\n<=20/\S6 [V.int u,V.int v] (if b=true then 1 else 0)=some (.int n)/\(b=false->(n:Int)=u):=by
 cases b with| false=>exact⟨u.toNat,by lia,by lia,by rw[Int.toNat_of_nonneg (by lia)];rfl,λ_=>by lia⟩| true=>exact⟨v.toNat,by lia,by lia,by rw[Int.toNat_of_nonneg (by lia)];rfl,λz=>by cases z⟩
theorem Ih(n m:Nat)(S:TS)(xs ys:List bG):lV n m S (xs++ys)=lV n m (lV n m S xs) ys:=by unfold lV;rw[foldl_append]
theorem aj5(S:TS)(d p:Nat)(w:W){z:D}(h:(∃k,z=.i k)\/∃s,z=.s s):(∃k,(S.wish d p w z).2=.i k)\/∃s,(S.wish d p w z).2=.s s:=by
 unfold TS.wish;split;{exact .inr ⟨_,rfl⟩};{dsimp only;split;{exact h};{exact .inr ⟨_,rfl⟩}}
theorem arD(n m:Nat)(S:TS)(x:bG):arA x (S.step n m x).2:=by
 cases x with| up d=>exact .inr (.inr (.inl trivial))| down d=>exact .inr (.inr (.inl trivial))| rest d p=>exact .inr (.inr (.inr ⟨_,_,rfl⟩))| look d p=>have:(∃k,(S.step n m (.look d p)).2=.i k)\/∃s,(S.step n m (.look d p)).2=.s s:=by{simp only[TS.step];split;{split;{exact aj5 _ _ _ _ (.inl ⟨_,rfl⟩)};{exact .inr ⟨_,rfl⟩}};{exact .inr ⟨_,rfl⟩}};exact this.elim .inl λz=>.inr (.inl z)| put d p k=>have:(∃k',(S.step n m (.put d p k)).2=.i k')\/∃s,(S.step n m (.put d p k)).2=.s s:=by{simp only[TS.step];split;{split;{exact aj5 _ _ _ _ (.inr ⟨_,rfl⟩)};{exact .inr ⟨_,rfl⟩}};{exact .inr ⟨_,rfl⟩}};exact this.elim .inl λz=>.inr (.inl z)
theorem anE(n m:Nat):∀(S:TS) (xs:List bG) (i:Nat) x a,xs[i]? = some x->(Ie n m S xs)[i]? = some a->arA x a
 | S,[],i,x,a,h,_=>by simp at h
 | S,y::xs,0,x,a,h,h'=>by simp at h;subst h;have e:some (S.step n m y).2=some a:=h';cases e;exact arD n m S y
 | S,y::xs,i+1,x,a,h,h'=>anE n m _ xs i x a (by simpa using h) h'
theorem al9(n m d:Nat):∀(S:TS) (xs:List bG),(lV n m S xs).wl d=S.wl d++jD d xs (Ie n m S xs)
 | S,[]=>by show S.wl d=S.wl d++[];rw[append_nil]
 | S,x::xs=>by show(lV n m (S.step n m x).1 xs).wl d=S.wl d++(jl d x (S.step n m x).2++jD d xs (Ie n m (S.step n m x).1 xs));rw[al9,ata,append_assoc]
theorem anF(d:Nat):∀(ys:List bG) (as:List D),(∀y∈ys,bG.ud y)->jD d ys as=[]
 | [],_,_=>by simp[jD]
 | y::ys,[],_=>by simp[jD]
 | y::ys,a::as,h=>by show jl d y a++jD d ys as=[];rw[anF d ys as λz hz=>h z (mem_cons_of_mem _ hz),append_nil];have:=h y (by simp);cases y with| up e=>rfl| down e=>rfl| look e p=>exact absurd this id| put e p k=>exact absurd this id| rest e p=>exact absurd this id
theorem anG:∀l:List W,D.sizes (l.map W.d)<=6*l.length
 | []=>by simp[D.sizes]
 | x::l=>by have h2:=anG l;have h1:x.d.size<=6:=by{cases x<;>simp[W.d,D.size,D.sizes]};simp only[map_cons,D.sizes,length_cons];lia
theorem ae6:∀n:Nat,D.sizes ((range n).map λ_=>D.l [])=n
 | 0=>rfl
 | n+1=>by rw[range_succ,map_append,D.oF,ae6 n];rfl
theorem ama{n:Nat}{S:TS}(h:∀d,d<n->S.up d=[]/\S.dn d=[])(z:∀d,d<n->(S.ds d).ws=none):anA n S=.t [.l [],.l ((range n).map λ_=>.l []),.l ((range n).map λ_=>.l [])]:=by
 unfold anA af8;have F:KQ n S=[]:=by{unfold KQ;refine filter_eq_nil_iff.mpr λd hd=>?_;rw[z d (mem_range.mp hd)];simp};have I:((range n).map λd=>D.l ((S.up d).map UL.d))=(range n).map λ_=>.l []:=map_congr_left λd hd=>by{rw[(h d (mem_range.mp hd)).1];rfl};have J:((range n).map λd=>D.l ((S.dn d).map Let.d))=(range n).map λ_=>.l []:=map_congr_left λd hd=>by{rw[(h d (mem_range.mp hd)).2];rfl};rw[F,I,J];rfl
structure Gi(H H' G:Hp)(acc:Addr)(ys:List V)(ds:List D):Prop where
 ac:H' acc=some (.lst ys)
 le:bK G H'
 nw:∀b o,H b=some o->G b=none
 na:G acc=none
 rp:aG G ys ds
theorem Gi.start{H:Hp}{acc:Addr}:Gi H (upd H acc (.lst [])) (λ_=>none) acc [] []:=⟨aj,(λ_ _ e=>nomatch e),λ_ _ _=>rfl,rfl,by simp[aG]⟩
theorem Gi.step{H H' H2 G:Hp}{acc l:Addr}{ys xs:List V}{ds es:List D}(g:Gi H H' G acc ys ds)(s1:bK H H')(I:bK H' H2)(hl:H' l=none)(h2:H2 l=some (.lst xs))(J:∀L,aG L xs es):Gi H (upd H2 acc (.lst (ys++[.ref l]))) (upd G l (.lst xs)) acc (ys++[.ref l]) (ds++[.l es]):=by
 have F:acc≠l:=aF g.ac hl;have O:G l=none:=bK.free g.le hl;refine⟨aj,λb o e=>?_,λb o e=>?_,by rw[az F];exact g.na,?_⟩;{by_cases z:b=l;{subst z;rw[aj]at e;rw[az F.symm,h2];exact e};{rw[az z]at e;rw[az (aF e g.na)];exact I _ _ (g.le _ _ e)}};{rw[az (aF (s1 _ _ e) hl)];exact g.nw b o e};{refine aG.snoc (g.rp.mono (aq O).seqs) ?_;simp only[Rep];exact⟨l,_,rfl,aj,J _⟩}
theorem Gi.done{H H' G:Hp}{acc:Addr}{ys:List V}{ds:List D}(g:Gi H H' G acc ys ds)(I:H acc=none):∃F,bK F H'/\(∀b o,H b=some o->F b=none)/\Rep F (.ref acc) (.l ds):=by
 refine⟨upd G acc (.lst ys),λb o e=>?_,λb o e=>?_,?_⟩;{by_cases z:b=acc;{subst z;rw[aj]at e;rw[g.ac];exact e};{rw[az z]at e;exact g.le _ _ e}};{rw[az (aF e I)];exact g.nw b o e};{simp only[Rep];exact⟨acc,_,rfl,aj,g.rp.mono (aq g.na).seqs⟩}
theorem ayN(T:Txt K w mg t):cX P w K mg base mW 11 t.aaj t.alJ ["_law_script"] (anC K):=by
 refine T.aAw.ok pq (λvs H Q E h=>?_) (λev A outer s H vs Q E Y h=>?_);{obtain⟨a,ns,rfl,_⟩:=h;rfl}
 ·obtain⟨a,ns,rfl,ha,hl,q⟩:=h;have hu:=kY Y;refine' ⟨_,?sr,?_⟩;case' sr=>refine' ao ?cV ?MF
  case' MF=>refine' ao ?cW ?MJ
  case' MJ=>refine' ao ?cY ?MK
  case' MK=>refine' ao ?cZ ?c0
  case' c0=>refine' ao ?c1 ?c2
  case' c2=>refine' ao ?c3 ?c4
  case' c4=>refine' ao ?c5 ?c6
  case' c6=>refine' ao ?c7 ?c8
  case' c8=>refine' ao ?c9 ?da
  case' da=>refine' ao ?db ?dc
  case' dc=>refine' ao ?de ?df
  case' df=>refine' ao ?dg ?dh
  case' dh=>refine' ao ?di ?dm
  case' dm=>refine' ao ?dp ?dq
  case' dq=>refine' ao ?dr ?dt
  case' dt=>refine' aA ?du
  case' cV=>exact(bu (i:=1) pq.nd rfl (Or.inl rfl) (bZ (Qz T) (Y.mono (by decide):bV 1 _) (by rfl) T.aax T.TY.kp T.aaw .nil bW (aa (pv 0) (aa aB ak))))
  case' cW=>exact(bu (i:=2) pq.nd rfl (Or.inl rfl) (aN bz (bJ (aa (bI jU aB (bI fc (pv 1) aB)) (aa (bI jU aB (bI fc (bI j9 (pv 1) aB) aB)) ak))) (gC nM (by rfl) T.Qo PyProof.Rows.Boot.«int» (aa (oA cQ (bI fc (bI j9 (pv 1) aB) aB) aB (aY _)) ak)) (λ_ _=>rfl)))
  case' cY=>exact(bu (i:=3) pq.nd rfl (Or.inl rfl) (aN bz (bJ (aa (bI jU aB (bI fc (bI j9 (pv 1) aB) aB)) (aa (bI jU aB (bI fc (bI j9 (pv 1) aB) aB)) ak))) (gC nM (by rfl) T.Qo PyProof.Rows.Boot.«int» (aa (oA cQ (bI fc (bI j9 (pv 1) aB) aB) aB (aY _)) ak)) (λ_ _=>rfl)))
  case' cZ=>exact(bu (i:=4) pq.nd rfl (Or.inl rfl) (bZ (Xb T) (Y.mono (by decide):bV 1 _) (by rfl) T.aaE T.HW.kp T.aaD .nil bW (aa (bZ (Qz T) (Y.mono (by decide):bV 1 _) (by rfl) T.aax T.TY.kp T.aaw .nil bW (aa (pv 0) (aa aB ak))) (aa (pv 3) ak))))
  case' c1=>exact(bu (i:=5) pq.nd rfl (Or.inl rfl) (bZ (ac0 T) (Y.mono (by decide):bV 1 _) (by rfl) T.afV T.Ql.kp T.afU .nil bW (aa (O2 asD (pv 0) (Y8 aB) Y7) (aa (pv 2) (aa (pv 3) ak)))))
  case' c3=>exact(bY (aP cQ (bI fc (bI j9 (bZ (Qz T) (Y.mono (by decide):bV 1 _) (by rfl) T.aax T.TY.kp T.aaw .nil bW (aa (pv 0) (aa aB ak))) aB) aB) aB (aY _)) (aA (bu (i:=5) pq.nd rfl (Or.inl rfl) (bI mV (bZ (T9 T) (Y.mono (by decide):bV 1 _) (by rfl) T.W7 T.DX.kp T.W6 .nil bW (aa (pv 2) (aa (bZ (Qz T) (Y.mono (by decide):bV 1 _) (by rfl) T.aax T.TY.kp T.aaw .nil bW (aa (pv 0) (aa aB ak))) ak))) (pv 5)))) bw)
  case' c5=>exact(bu (i:=6) pq.nd rfl (Or.inr rfl) (bZ (af4 T) (Y.mono (by decide):bV 1 _) (by rfl) T.ajx T.Vx.kp T.ajw .nil bW (aa (pv 2) (aa (pv 4) ak))))
  case' c7=>exact(ZJ (i:=7) pq.nd rfl rfl (gD (xs:=["_law_deed"]) (ys:=["_law_town"]) (js:=[6]) rfl ∅ ∅ ∅ (by rfl) ⟨⟨rfl,Or.inl rfl⟩,trivial⟩) rfl (ou (pv 5)) (λ_ _ _ _ _=>(cj (i:=0) (show Nodup ((["_law_deed"]:List Str)++(["_law_town"]:List Str):List Str)by decide +kernel) rfl (Or.inl rfl))) (λ_ _ _ _ _=>oG) (λ_ _ _ _ _=>(bZ (KJ T) (Y.mono (by decide):bV 4 _) (by rfl) T.Qk T.Cy.kp T.Qj .nil bW (aa (pv 1) (aa (pv 0) ak)))))
  case' c9=>exact(bu (i:=8) pq.nd rfl (Or.inl rfl) (bI mV (pv 5) (bZ (agb T) (Y.mono (by decide):bV 5 _) (by rfl) T.ajD T.VB.kp T.ajC .nil bW (aa (pv 6) (aa (pv 0) ak)))))
  case' db=>exact(bu (i:=9) pq.nd rfl (Or.inl rfl) (bZ (ac1 T) (Y.mono (by decide):bV 10 _) (by rfl) T.afT T.Qg.kp T.afS .nil bW (aa (pv 2) (aa (gC lO (by rfl) T.yR PyProof.Rows.Boot.«list» (aa (pv 4) ak)) (aa (gC lO (by rfl) T.yR PyProof.Rows.Boot.«list» (aa (pv 8) ak)) ak)))))
  case' de=>exact(ZJ (i:=10) pq.nd rfl rfl (gD (xs:=["_law_desk"]) (ys:=[]) (js:=[]) rfl ∅ ∅ ∅ (by rfl) trivial) rfl (fU (by rfl) T.jN (aa (pv 2) ak)) (λ_ _ _ _ _=>(cj (i:=0) (show Nodup ((["_law_desk"]:List Str)++([]:List Str):List Str)by decide +kernel) rfl (Or.inl rfl))) (λ_ _ _ _ _=>oG) (λ_ _ _ _ _=>(bJ ak)))
  case' dg=>exact(bY (PW.pt (nJ (oh (jo (cG iK (by rfl) T.dH PyProof.Rows.Boot.«isinstance» (aa (pv 9) (aa (mX (by rfl) T.Qp PyProof.Rows.Boot.«tuple») ak))))) (lZ (oh (jo (bZ (aeY T) (Y.mono (by decide):bV 2 _) (by rfl) T.ajv T.aay.kp T.aju .nil bW (aa (pv 9) (aa (b7 (aa (bJ ak) (aa (pv 10) (aa (pv 10) ak)))) ak)))))))) (aA (aZ tU)) bw)
  case' di=>exact(bu (i:=11) pq.nd rfl (Or.inl rfl) (bZ (aoE T) (Y.mono (by decide):bV 10 _) (by rfl) T.aqs T.ajt.kp T.aqr .nil bW (aa (pv 2) (aa (gC lO (by rfl) T.yR PyProof.Rows.Boot.«list» (aa (pv 4) ak)) (aa (gC lO (by rfl) T.yR PyProof.Rows.Boot.«list» (aa (pv 8) ak)) ak)))))
  case' dp=>exact(bY (oh (jo (bZ (Xg T) (Y.mono (by decide):bV 2 _) (by rfl) T.aaG T.HX.kp T.aaF .nil bW (aa (pv 11) (aa (pv 2) (aa (pv 4) ak)))))) (aA (aZ tU)) bw)
  case' dr=>refine' mU PassesOwn.never rfl (fU (by rfl) T.jN (aa (pv 2) ak)) (cj (i:=12) pq.nd rfl (Or.inl rfl)) ?dv
  case' dv=>refine' aA ?dw
  case' dw=>exact(bY (oh (jo (bZ (aeY T) (Y.mono (by decide):bV 2 _) (by rfl) T.ajv T.aay.kp T.aju .nil bW (aa (bZ (agc T) (Y.mono (by decide):bV 1 _) (by rfl) T.ajB T.Vz.kp T.ajA .nil bW (aa (pv 11) (aa (pv 12) ak))) (aa (bZ (aa6 T) (Y.mono (by decide):bV 1 _) (by rfl) T.acV T.Ky.kp T.acU .nil bW (aa (pv 5) (aa (pv 7) (aa (pv 12) ak)))) ak))))) (aA (aZ tU)) bw)
  case' du=>exact(aZ tU)
  try dsimp only[dj,Cx.kE]
  show let Z1:L2.TS:=_;let Z2:L2.TS:=_;let Z3:L2.TS:=_;let Z4:L2.TS:=_;let Z5:L2.TS:=_;let Z6:L2.TS:=_;let Z7:L2.TS:=cR _ Z6 bM;let Z8:L2.TS:=_;let Z9:L2.TS:=_;let z8:L2.TS:=_;let KC:L2.TS:=_;let KD:L2.TS:=_;let Qv:L2.TS:=_;let Qw:L2.TS:=cR _ Qv bM;let bD:L2.TS:=_;let bE:L2.TS:=_;let bF:L2.TS:=cR _ bE bM;let bL:L2.TS:=_;let bN:L2.TS:=cR _ bL bM;let bO:L2.TS:=J3 _ _ bN;let bP:L2.TS:=_;let D0:Ends:=_;(aV Z1 (aV Z2 (aV Z3 (aV Z4 (aV Z5 (aV Z7 (aV Z8 (aV Z9 (aV z8 (aV KC (aV KD (aV Qw (aV bD (aV bF (aV bO (bP)))))))))))))))) D0 _ _;intro Z1 Z2 Z3 Z4 Z5 Z6 Z7 Z8 Z9 z8 KC KD Qv Qw bD bE bF bL bN bO bP D0;refine⟨_,rfl,a,ns,0,rfl,ha,by decide,λz=>?_⟩;obtain⟨n,bQ,a2,hn,bR⟩:=anD (1+z % 4) (9+z / 288 % 12) (by lia) (by lia) (decide (V.int (z / 36 % 8)=V.int 1));obtain⟨m,dy,dz,hm,bS⟩:=anD (1+z / 4 % 3) (8+z / 288 % 13) (by lia) (by lia) (decide (V.int (z / 36 % 8)=V.int 2));have eD:m*n<=80:=by{by_cases h:z / 36 % 8=1;{have:=bS (decide_eq_false λq=>by have:=V.int.inj q;lia);have h3:m<=3:=by{lia};exact Nat.le_trans (Nat.mul_le_mul h3 a2) (by decide)};{have:=bR (decide_eq_false λq=>h (V.int.inj q));have h4:n<=4:=by{lia};exact Nat.le_trans (Nat.mul_le_mul dz h4) (by decide)}};clear bR bS;refine⟨_,rfl,_,_,rfl,rfl,(show(0:Int)<4 by decide),_,_,rfl,rfl,_,rfl,_,_,rfl,rfl,⟨by decide,by decide⟩,_,_,rfl,rfl,(show(0:Int)<12 by decide),_,_,rfl,rfl,sS,λl1 a3=>?_⟩;refine⟨_,rfl,_,_,rfl,rfl,⟨by decide,by decide⟩,_,_,rfl,rfl,(show(0:Int)<8 by decide),rfl,.inr ⟨_,rfl,l1,_,_,_,rfl,rfl,bU.of aj,hn,?_⟩⟩;refine⟨_,rfl,_,_,rfl,rfl,⟨by decide,by decide⟩,_,_,rfl,rfl,(show(0:Int)<3 by decide),_,_,rfl,rfl,_,rfl,_,_,rfl,rfl,⟨by decide,by decide⟩,_,_,rfl,rfl,(show(0:Int)<13 by decide),_,_,rfl,rfl,sS,λl2 a4=>?_⟩;refine⟨_,rfl,_,_,rfl,rfl,⟨by decide,by decide⟩,_,_,rfl,rfl,(show(0:Int)<8 by decide),rfl,.inr ⟨_,rfl,l2,_,_,_,rfl,rfl,bU.of aj,hm,?_⟩⟩;have s1:=(aq (o:=.lst [.int (1+z % 4),.int (9+z / 288 % 12)]) a3).trans (aq (o:=.lst [.int (1+z / 4 % 3),.int (8+z / 288 % 13)]) a4);generalize upd (upd H l1 (.lst [.int (1+z % 4),.int (9+z / 288 % 12)])) l2 (.lst [.int (1+z / 4 % 3),.int (8+z / 288 % 13)])=H1 at s1;have bT:=bU.same ha s1;refine⟨_,rfl,a,ns,1,rfl,bT,by decide,λz1=>⟨_,rfl,z1,m,rfl,by lia,λnl F H2 O eH s2 bX=>?_⟩⟩;have a5:=s1.trans s2;have ar:=bU.same ha a5;obtain⟨a6,dA,b0⟩:=arh ns (some 2) none;refine⟨_,rfl,_,rfl,a,_,rfl,ar,λsl b1=>?_⟩;have s3:=aq (o:=.lst (S9 (ns.map V.int) (some 2) none)) b1;refine⟨_,rfl,_,rfl,sl,n,m,a6,rfl,by rw[<-dA];exact aj,bQ,by lia,dy,by lia,by lia,λal us H4 dC s4 a8 a9=>?_⟩;have af:=s3.trans s4;have ba:=af _ _ bX;have as:=a5.trans af;clear s3 s4 b1 dC;dsimp only;refine gF (λae H'=>∃al us,ae=[some (.ref a),some (.int z),some (.int n),some (.int m),some (.ref nl),some (.ref al),none,none,none,none,none,none,none]/\bK H H'/\H' nl=some (.lst (F.map V.int))/\H' al=some (.lst us)/\DL H' us 584) (λN hN=>?_) ?_;{refine⟨_,rfl,a,ns,0,rfl,bU.same ha as,by decide,λz2=>⟨_,_,rfl,rfl,⟨by decide,by decide⟩,_,_,rfl,rfl,(show(0:Int)<3 by decide),rfl,_,rfl,?_⟩⟩;by_cases e3:z2 / 12 % 3=1;{refine bH (ajU e3) ?_;refine⟨_,rfl,_,rfl,a,ns,1,rfl,bU.same ha as,by decide,λz3=>⟨n,z3,rfl,by lia,λfl fs H5 hfl s5 dD av=>?_⟩⟩;have b2:=a9.aU (aQ s5);have l1:=av.len;have l2:=b2.len;have sl:sizeLine=16777216:=by{decide};refine⟨_,rfl,fl,al,fs,us,rfl,rfl,dD,s5 _ _ a8,by lia,λdE dF=>?_⟩;have s6:=aq (o:=.lst (fs++us)) dF;exact hN _ _ ⟨dE,fs++us,rfl,(as.trans s5).trans s6,s6 _ _ (s5 _ _ ba),aj,((av.append b2).more (by lia)).aU (aQ s6)⟩};{refine aL (ajV e3) ?_;exact hN _ _ ⟨al,us,rfl,as,ba,a8,a9.more (by lia)⟩}}
  ·clear s1 s2 a5 af as bX ba a8 a9 bT ar;rintro ae H5 ⟨al,us,rfl,dI,b3,bb,av⟩;obtain⟨xs,rx,eL⟩:=av;have b4:=bU.same ha dI;refine⟨_,rfl,_,rfl,n,nl,F,rfl,b3,by lia,by lia,λAM dK aw ax be=>?_⟩;rw[O]at aw be;have dL:us.length=xs.length:=by{rw[rx.length,length_map]};have b5:=rx.aU (aQ ax) (bc bG.flat _);have b6:=ax _ _ bb;refine⟨_,rfl,al,rfl,⟨_,bU.of b6⟩,λZ ad=>?_⟩;let W9:Nat->List V->St->Hp->Prop:=λi ys ae H'=>(∃o,ae=[o,some (.ref (AM .bf))])/\H' Z=some (.lst ys)/\ys.length=i/\aG H' ys (Ie n m (S0 F) (xs.take i))/\cz dK H'/\(∀b o,H5 b=some o->H' b=some o)/\∃A' se,A' .bf=AM .bf/\bj H' A' n m (lV n m (S0 F) (xs.take i)) se/\Bd (xs.take i).length (lV n m (S0 F) (xs.take i)) se/\(∀x:Mb,x.ok n m->H5 (A' x)=none/\A' x≠Z);refine Tg (xs:=us) W9 ?_ ?_ ?_ ?_;{refine⟨⟨_,rfl⟩,aj,rfl,by simp[Ie,aG],aQ (aq ad),λb o e=>aq ad _ _ (ax b o e),AM,[],rfl,aw.new ad,Bd.start F,λx hx=>⟨be x hx,aw.yq hx ad⟩⟩};{rintro i ys ae H' _ ⟨_,ag,_,_,_,k',_⟩;exact⟨bU.of (k' _ _ bb),ag⟩};{rintro i y ys ae H' hy hi ⟨⟨o,rfl⟩,ag,b8,rp,tt,k',A',se,eA,M',bd,ah⟩;obtain⟨x,hx,dM⟩:=aa3 (b5.aU tt (bc bG.flat _)) hy;obtain⟨b,rfl,dN⟩:=Qy dM;have bg:xs.take (i+1)=xs.take i++[x]:=by{rw[take_add_one,hx];rfl};have dO:(xs.take i).length<=1500:=by{rw[length_take];lia};have I:=ik.run (n:=n) (xs:=xs.take i) (ik.start n F);rw[O]at I;refine O9 ?_;refine⟨_,rfl,_,rfl,A',n,m,_,se,b,x,_,(by rw[eA];rfl),M',dN,I,bd,dO,λv A2 H2 M2 f2 v2 r2=>?_⟩;have ar:H2 Z=some (.lst ys):=f2.kp _ _ ag λz hz e=>(ah z hz).2 e.symm;have sl:sizeLine=16777216:=by{decide};refine wK.mk hi ar (by lia) ?_;have k2:∀b o,H5 b=some o->H2 b=some o:=λb u e=>f2.kp _ _ (k' b u e) λz hz e2=>by{rw[e2,(ah z hz).1]at e;cases e};have cb:∀z:Mb,z.ok n m->H5 (A2 z)=none/\A2 z≠Z:=λz hz=>by{rcases v2 z hz with e | ⟨_,e⟩;{rw[e];exact ah z hz};{refine⟨?_,λe2=>by rw[e2,ag]at e;cases e⟩;cases q:H5 (A2 z)with| none=>rfl| some u=>rw[k' _ _ q]at e;cases e}};have tl:=iB (vs:=ys++[v]) ar;have dP:H5 Z=none:=bK.free ax ad;have dQ:=bd.step (n:=n) (m:=m) x;refine⟨⟨_,rfl⟩,aj,by rw[length_append,b8];rfl,?_,λb xs e=>tl _ _ (f2.tups M' _ _ (tt _ _ e)),λb o e=>by rw[az (aF e dP)];exact k2 b o e,A2,se++(lV n m (S0 F) (xs.take i)).lY n x,(v2.bf).trans eA,?_,?_,cb⟩;{rw[bg,ae2];exact aG.snoc ((rp.aU (f2.tups M') (qX _ _ _ _)).aU tl (qX _ _ _ _)) (r2.aU tl (ae4 _ _ _ _))};{rw[bg,JZ];exact M2.keep tl λz hz u e=>by rw[az (cb z hz).2];exact e};{rw[bg,JZ,length_append];exact dQ}}
   ·rintro ts ae H' ⟨_,ag,b8,rp,tt,k',A',se,eA,M',bd,ah⟩;rw[dL,take_length]at rp M' bd;have I:=ik.run (n:=n) (xs:=xs) (ik.start n F);have C:=Kg.run (xs:=xs) (ik.start n F) (Kg.start n F);rw[O]at I C;have dR:=axw C I bQ;have eO:n*n<=400:=Nat.le_trans (Nat.mul_le_mul a2 a2) (by decide);rw[Nat.mul_assoc]at dR;have sl:sizeLine=16777216:=by{decide};obtain⟨Hb,cc,ce,ay⟩:∃Hb:Hp,bK Hb H'/\(∀x:Mb,x.ok n m->Hb (A' x)=none)/\∀b o,H' b=some o->(∀x:Mb,x.ok n m->b≠A' x)->Hb b=some o:=by
     classical
     refine⟨λb=>if ∃x:Mb,x.ok n m/\b=A' x then none else H' b,λb o e=>?_,λx hx=>if_pos ⟨x,hx,rfl⟩,λb o e h=>?_⟩;{have e':(if ∃x:Mb,x.ok n m/\b=A' x then none else H' b)=some o:=e;split at e';{cases e'};{exact e'}};{show(if ∃x:Mb,x.ok n m/\b=A' x then none else H' b)=some o;rw[if_neg λ⟨x,hx,z⟩=>h x hx z];exact e}
    have bh:bK H5 Hb:=λb o e=>ay b o (k' b o e) λx hx z=>by{rw[z,(ah x hx).1]at e;cases e};have cf:cz H' Hb:=λb vs e=>ay b _ e λx hx=>M'.tup_ne hx e;have cg:Hb Z=some (.lst ts):=ay _ _ ag λx hx z=>(ah x hx).2 z.symm;refine⟨_,rfl,_,rfl,_,rfl,A',n,m,_,se,a,ns,Hb,nm0 F,xs.length,(by rw[eA];rfl),M',I,C,bd,by lia,by lia,bU.same b4 bh,cc,ce,λdl ds ys ch sb dT rd hq eP dV=>?_⟩;have aC:=bh.trans sb;have ci:=aC _ _ bb;have bi:=aC _ _ b3;have dW:=sb _ _ cg;have ck:=rx.aU (aQ aC) (bc bG.flat _);have dX:=(rp.aU cf (qX _ _ _ _)).aU (aQ sb) (qX _ _ _ _);have eQ:ds.length=ys.length:=by{rw[rd.length,length_map]};clear cc ce ay bh cf cg aC sb rp M' bd ah tt k' eA ag aw be b5 b6 b4;refine⟨al,dl,us,ds,rfl,rfl,ci,dT,by lia,λcl b0=>?_⟩;have au:=aq (o:=.lst (us++ds)) b0;have bl:upd ch cl (.lst (us++ds)) cl=some (.lst (us++ds)):=aj;generalize upd ch cl (.lst (us++ds))=bn at au bl;have cm:aG bn (us++ds) ((xs++ys).map bG.d):=by{rw[map_append];exact(ck.append rd).aU (aQ au) (by rw[<-map_append];exact bc bG.flat _)};have a1:(xs++ys).length<=1500:=by{rw[length_append];lia};have If:=ik.run (xs:=ys) I;have Cf:=Kg.run (xs:=ys) I C;have bo:=Bd.run (n:=n) (m:=m) (xs:=xs++ys) (Bd.start F);rw[Ih,Nat.zero_add]at bo;have cn:=bo.row;have bp:=λd hd=>quiet Cf If hq (d:=d) hd;have co:∀d,d<n->Bo d (lV n m (lV n m (S0 F) xs) ys).row=jD d xs (Ie n m (S0 F) xs):=λd hd=>by{have h1:=al9 n m d (lV n m (S0 F) xs) ys;rw[anF d ys _ dV,append_nil,al9 n m d (S0 F) xs]at h1;unfold TS.wl at h1;rw[bp d hd]at h1;simpa[S0,Bo] using h1};generalize cq:lV n m (lV n m (S0 F) xs) ys=Sf at hq Cf If bo cn bp co;refine⟨_,rfl,_,rfl,nl,_,rfl,.inl (bU.of (au _ _ bi)),λol aE=>?_⟩;have J:=aq (o:=.lst (F.map V.int)) aE;have an:upd bn ol (.lst (F.map V.int)) ol=some (.lst (F.map V.int)):=aj;generalize upd bn ol (.lst (F.map V.int))=cr at J an;refine⟨_,rfl,cl,_,rfl,.inl (bU.of (J _ _ bl)),λh2 aH=>?_⟩;have L:=aq (o:=.lst (us++ds)) aH;have ap:upd cr h2 (.lst (us++ds)) h2=some (.lst (us++ds)):=aj;generalize upd cr h2 (.lst (us++ds))=eR at L ap;refine⟨n,F,ol,h2,us++ds,xs++ys,rfl,L _ _ an,ap,cm.aU (aQ (J.trans L)) (bc bG.flat _),by lia,by lia,a1,λr zs cs cu cv bq=>?_⟩;rw[O,Ih,cq,ama hq bp]at bq;have cw:=(J.trans L).trans cu;clear J L cu an ap aE aH;have nb : -(2 ^ 62)<=((n:Nat):Int)/\((n:Nat):Int)<2 ^ 62:=⟨by lia,by lia⟩;refine⟨_,rfl,(n:Int),rfl,nb.1,nb.2,λaI aJ=>?_⟩;rw[Int.toNat_natCast];let dY:Nat->List V->St->Hp->Prop:=λi vs ae H'=>(∃o,ae=[o])/\bK cs H'/\vs.length=i/\∃G,Gi cs H' G aI vs ((range i).map λ_=>.l []);refine Bh dY ?_ ?_ ?_ ?_;{exact⟨⟨_,rfl⟩,aq aJ,rfl,_,Gi.start⟩};{rintro i vs ae H' _ ⟨_,_,_,G,g⟩;exact g.ac};{rintro i vs ae H' hi ⟨⟨o,rfl⟩,s',cx,G,g⟩;rw[Int.zero_add];refine O9 ?_;refine⟨wF,λe he=>?_⟩;refine wK.mk hi (aq he _ _ g.ac) (by lia) ?_;refine⟨⟨_,rfl⟩,dB (s'.trans (aq he)) aJ,by rw[length_append,cx];rfl,upd G e (.lst []),?_⟩;rw[range_succ,map_append];exact g.step s' (aq he) he aj λG'=>by simp[aG]};{rintro vs ae eT ⟨_,aK,cx,G,g⟩;obtain⟨G',g1,_,g3⟩:=g.done aJ;have cy:=g3.mono g1.seqs;refine⟨_,rfl,_,_,_,true,rfl,.tup (aK _ _ cv),.inl ⟨_,rfl,afs⟩,_,rfl,aL rfl ?_⟩;refine⟨_,rfl,wF,λe0 cA=>⟨_,rfl,_,rfl,Zh,λtp br=>?_⟩⟩;have aM:=(aq (o:=.lst []) cA).trans (aq (o:=.tup [.ref e0,.ref aI,.ref aI]) br);have aO:=cy.mono aM.seqs;simp only[Rep]at aO;refine⟨.ref r,.ref tp,_,rfl,bq.mono (aK.trans aM).seqs,?_,?_,λcB cC=>⟨_,rfl,aL rfl ?_⟩⟩;{simp only[Rep,aG];exact⟨tp,_,rfl,aj,_,_,rfl,⟨e0,_,rfl,aq br _ _ aj,rfl⟩,_,_,rfl,aO,_,_,rfl,aO,rfl⟩};{simp only[D.size,D.sizes,ae6];lia};have aR:=(cw.trans (aK.trans aM)).trans cC;clear aO cy g3 g1 g aK aM cC cw bq cv aJ cA br;refine⟨_,rfl,_,rfl,nl,_,rfl,.inl (bU.of (aR _ _ (au _ _ bi))),λol aE=>?_⟩;have J:=aq (o:=.lst (F.map V.int)) aE;have an:upd cB ol (.lst (F.map V.int)) ol=some (.lst (F.map V.int)):=aj;generalize upd cB ol (.lst (F.map V.int))=cD at J an;refine⟨_,rfl,cl,_,rfl,.inl (bU.of (J _ _ (aR _ _ bl))),λh2 aH=>?_⟩;have L:=aq (o:=.lst (us++ds)) aH;have ap:upd cD h2 (.lst (us++ds)) h2=some (.lst (us++ds)):=aj;generalize upd cD h2 (.lst (us++ds))=eU at L ap;refine⟨n,F,ol,h2,us++ds,xs++ys,rfl,L _ _ an,ap,cm.aU (aQ ((aR.trans J).trans L)) (bc bG.flat _),by lia,by lia,a1,λr2 cE eV dZ cF bt=>?_⟩;rw[O,Ih,cq]at bt;have cH:=au.trans (((aR.trans J).trans L).trans dZ);refine⟨_,rfl,_,rfl,_,rfl,r2,n,nl,cE,_,F,rfl,cF,bt,cH _ _ bi,Cf.wk,by rw[O];exact Cf.rg,λd0 af=>⟨_,rfl,aL rfl ?_⟩⟩;have d1:=cH.trans af;refine⟨_,rfl,(n:Int),rfl,nb.1,nb.2,?_⟩;rw[Int.toNat_natCast];let d2:Nat->St->Hp->Prop:=λi ae H3=>(∃o,ae=[some (.ref a),some (.int z),some (.int n),some (.int m),some (.ref nl),some (.ref al),some (.ref (AM .bf)),some (.ref Z),some (.ref cl),some (.ref r),some (.ref aI),some (.ref r2),o])/\bK d0 H3;refine qC d2 ?_ ?_ ?_;{exact⟨⟨_,rfl⟩,bK.refl _⟩};{rintro i ae H3 hi ⟨⟨o,rfl⟩,s3⟩;rw[Int.zero_add];have e1:=Ub i xs (Ie n m (S0 F) xs);have e2:=anG (jD i xs (Ie n m (S0 F) xs));refine⟨_,rfl,_,rfl,r2,i,cE,_,rfl,s3 _ _ (af _ _ cF),bt.aU (aQ (af.trans s3)) (bc RE.flat _),by lia,λl1 eW eX cI a3 cJ=>?_⟩;have aS:=(d1.trans s3).trans cI;refine⟨_,rfl,_,rfl,_,rfl,al,Z,i,us,ts,xs,_,rfl,aS _ _ ci,ck.aU (aQ aS) (bc bG.flat _),aS _ _ dW,dX.aU (aQ aS) (qX _ _ _ _),qX _ _ _ _,(ajZ _ _ _ _).symm,anE _ _ _ _,by lia,λl2 eY eZ bv a4 d4=>?_⟩;rw[co i hi]at cJ;refine⟨.ref l1,.ref l2,.l ((jD i xs (Ie n m (S0 F) xs)).map W.d),rfl,?_,?_,?_,λe4 d5=>⟨_,rfl,aL rfl ⟨⟨_,rfl⟩,((s3.trans cI).trans bv).trans d5⟩⟩⟩;{simp only[Rep];exact⟨l1,_,rfl,bv _ _ a3,cJ.aU (aQ bv) (bc W.flat _)⟩};{simp only[Rep];exact⟨l2,_,rfl,a4,d4⟩};{simp only[D.size];lia}};{rintro ae H3 _;exact q _}}
end
end fV
namespace H1
open PySem PySem.W PyProof.Rows
abbrev pw:=PySem.Challenge.pw_copydesks_k04_whole_nobody_waits_for_eve
abbrev rw_:=PySem.Challenge.rw_copydesks_k04_whole_nobody_waits_for_eve
theorem said:OpenLaw.wellSaid rw_=true:=(congrFun Fast.te9446332074065402090 rw_).trans (by kernel_rfl)
def q:Program:=view pw [0,2,3,4,5,6,7,9,10,11,12,13,14,15,16,18,19,20,21,23,24,26,27,28,30,31,32,33,35,36,37,38,39,40,41,42,43,44,45,46,47,48,49,50,51,52,53,54,55,56]
theorem dkh:(defOf q "law").isSome=true:=by kernel_rfl
def dk:=((defOf q "law").get dkh).1
def d:DefRec:={dk with name:="law"}
theorem hdef:defOf q "law"=some (d,[]):=by kernel_rfl
theorem hp:pw.theDef "law"=some (d.params,d.body,d.scope):=by kernel_rfl
theorem hk:kwWritten? d.params.kwonlyargs d.params.kw_defaults=some []:=by kernel_rfl
theorem hdf:d.params.defaults=[]:=by kernel_rfl
theorem ok:(chainsOk q && opensWell pw && (frees rw_.row.toRowW && rw_.row.toRowW.within.isEmpty))=true:=by kernel_rfl
theorem op1:opening pw=plainProg pw.main.scope.names:=by kernel_rfl
theorem op2:∀s,fenceModules? pw s=some s:=λs=>by kernel_rfl
abbrev Xt(s:Shared):Bool:=xlAt q [] s && recOk [] s
local macro_rules | `(tactic| o_head ($_ $K $A $_)) => `(tactic| ((exact False.elim (by assumption)); (exact $K); exact $A))
noncomputable def K0:PSigma λ_:Params->Frag=>PSigma λ_:List Addr=>False->rw_.row.Holds:=by
 refine⟨?K,?A,?h⟩;rotate_left 2;intro hF;k_head
noncomputable abbrev KA:List Addr:=K0.2.1
theorem KAe:∀P,KA=(K0.heap_1 P).map (·.1):=λ_=>by kernel_rfl
theorem g0:∀w:World,(λos=>(Fast.tw12555587260221468252 Fast.tw14364793385576792824 pw (w.withFollow "special-get-raises" false) 11 (some (.ref 6)) 9032 ⟨T0 (w.withFollow "special-get-raises" false).params,11,{},#[],boot_drawn,boot_toks,os⟩ (topStub pw)).map λs=>Fast.tw15217941149495966222 pw q ["RANKS"] Xt (absHeap (T0 (w.withFollow "special-get-raises" false).params) 11 {}) s.abs)=λ_=>some (true,openGood q ["RANKS"]):=λw=>by kernel_rfl
theorem f0:∀w:World,(λos=>(Fast.tw12555587260221468252 Fast.tw14364793385576792824 pw (w.withFollow "special-get-raises" false) 11 (some (.ref 6)) 9032 ⟨T0 (w.withFollow "special-get-raises" false).params,11,{},#[],boot_drawn,boot_toks,os⟩ (topStub pw)).map λs=>List.map s.abs.heap.get? KA)=λ_=>some (List.map (λp=>some p.2) (K0.heap_1 (w.withFollow "special-get-raises" false).params)):=λw=>by kernel_rfl
theorem g1:∀w:World,(λos=>(Fast.tw12555587260221468252 Fast.tw14364793385576792824 pw (w.withFollow "special-get-raises" true) 11 (some (.ref 6)) 9032 ⟨T0 (w.withFollow "special-get-raises" true).params,11,{},#[],boot_drawn,boot_toks,os⟩ (topStub pw)).map λs=>Fast.tw15217941149495966222 pw q ["RANKS"] Xt (absHeap (T0 (w.withFollow "special-get-raises" true).params) 11 {}) s.abs)=λ_=>some (true,openGood q ["RANKS"]):=λw=>by kernel_rfl
theorem f1:∀w:World,(λos=>(Fast.tw12555587260221468252 Fast.tw14364793385576792824 pw (w.withFollow "special-get-raises" true) 11 (some (.ref 6)) 9032 ⟨T0 (w.withFollow "special-get-raises" true).params,11,{},#[],boot_drawn,boot_toks,os⟩ (topStub pw)).map λs=>List.map s.abs.heap.get? KA)=λ_=>some (List.map (λp=>some p.2) (K0.heap_1 (w.withFollow "special-get-raises" true).params)):=λw=>by kernel_rfl
theorem hl:LeftO pw q ["RANKS"] Xt (λs=>List.map s.heap.get? KA) (λw=>List.map (λp=>some p.2) (K0.heap_1 w.params)) 9032 true:=
 azD "special-get-raises" (T₀:=T0) (n₀:=11) (life:={}) (gs₀ := #[]) (d₀:=boot_drawn) (k₀:=boot_toks) (ann:=some (.ref 6)) (M:=9032) (opens op1 (by kernel_rfl) op2) sizes (λw=>both (by rw[Fast.te12555587260221468252,Fast.te14364793385576792824];rw[Fast.te15217941149495966222];exact g0 w) (Yf:=λs=>List.map s.heap.get? KA) (by rw[Fast.te12555587260221468252,Fast.te14364793385576792824];exact f0 w)) (λw=>both (by rw[Fast.te12555587260221468252,Fast.te14364793385576792824];rw[Fast.te15217941149495966222];exact g1 w) (Yf:=λs=>List.map s.heap.get? KA) (by rw[Fast.te12555587260221468252,Fast.te14364793385576792824];exact f1 w)) (by kernel_rfl)
end H1
namespace fV
open List
open PySem.W (Frag emptyDict findIn fnOf hideAll instObj isFn keepIn kia_one kia_tup kitAny kitOne lookIn nsIn)
open PySem.F (plainAttrs_list slot_list_pop type_list_pop)
open Nat (le_succ lt_of_lt_of_le ne_of_lt zero_le)
open PySem L2
abbrev FO(n q:Str)(st:Stmt)(kV dc pm:Value)(an:Option Addr)(cd ct:Value):FuncData:=fnOf n q (O6 st) (Bf st) (aO st) .none kV dc pm an cd ct
section
open PySem.W
local macro_rules | `(Sort 1) => `(fun _ _ _ _ _ _ us h => by have ⟨_,e⟩ := asW h; subst e; rfl)
local macro_rules | `(Sort 2) => `(fun _ _ _ _ _ _ us h => by have ⟨_,_,e⟩ := aDG h; subst e; rfl)
local macro_rules | `(Sort 3) => `(fun _ _ _ _ _ _ us h => by have ⟨_,_,_,e⟩ := aDH h; subst e; rfl)
local macro_rules | `(Sort 4) => `(fun _ _ _ _ _ _ us h => by have ⟨_,_,_,_,e⟩ := aDI h; subst e; rfl)
theorem all_mk{l:OpenLaw}{w:World}{K:Frag}{h:Heap}{mg:Str->Option Value}{fa:Addr}(X:K.In h)(G:h.Ns mainGlobals mg)(aN:mg "law"=some (.ref fa))
 {bD bB bx aR bh aK bQ aD iD bF BP iQ fO gW gY gZ jx gn iR eG gQ iT iU iV f9 fB dO fC cN iW dR cT cF cO dC cg dU cP cU iY iZ jb fD dD dF fG gb fH eN dG cY dW dY eQ cV jy jc rM jd nU Hu rN jz xn je nY jA lH g8 ie gq jf gA fP jg gB ig jB jh jC aaj uq:Addr} {aO aP aQ aS Uc Ud aT aU aV aW aX aY aZ a1 Xh Xi a2 a3 Ul Um a4 a5 a6 a7 a8 a9 ba bb bc bd Xp Xq QH QJ Xz XC CK CN be bf QV QW Fw Fx yX yZ Dd De M9 Nb uB uC Q6 Q7 Dl Dm FT FW bg bi bj bl bn bo XQ XR Nm Np Ny Nz X7 X8 bp bq Yi Yj Uv Uw N5 N6 Io Ip Rj Rk Og Oh Ru Rv Gg Gh br bt bu bv bw bz bA bC bE bG bH bI bJ bK bL bM bN bO bP bR bS bT bU bV bW bX bY bZ b0 b1 Yq Yr b2 b3 Yy Yz UW U0 b4 b5 YJ YK b6 b7 b8 b9 ca cb cc ce cf ch:Option Addr} {ci cj Ue ck cl cm cn Xj co Uo cq cr cs cu cv Xr QK XD CQ cw QX Fy za Df Nf uD Q8 Dp FZ cx cy cz XS Nq NB Yb cA Yk Ux N7 Ir Rm Oi Rx Gj cC cD cE cG cH cI cJ cK cL cM cQ cR cS cW cZ Ys c0 YB U3 c1 YL c2 c3 c4 c5 c6:Array (Option Value)} {c7 c8 c9 da z db dc de df dg KY di Ug Uh Ui Uj Ab Uk dj dl dm dp Ii dr dt du dv dw Ij dy dz dA dB dE Ik dH dI dJ dK dL QB dM Xk Xl Xm Xn Ec Xo dN dP dQ dS QC dT Uq Ur Us Ut Ac Uu dV dX dZ d0 KZ d1 d2 d3 d4 d5 QD d6 d7 d8 ea eb QF ec ed ee ef eg QG eh ei ej ek el Il em Xu Xv Xw Xx Ed Xy QL QM QQ QR xR QS XF XH XJ XM Ef XN CT CV CW CZ pP Dc en eo ep eq QT er QZ Q0 Q3 Q4 xU Q5 Fz FJ FN FP qj FQ zb zc zf zg mJ zj Dg Dh Di Dj pQ Dk Ng Nh Ni Nj v5 Nk uE uF uG uH km uI Q9 Ra Rb Rc xV Rf Dq Dr Ds Dt pR Du Ga Gb Gd Ge qm Gf et eu ev ew Rg ey ez eA eB eC Rh eD eE eF eH eI Ri eJ XX X3 X4 X5 Eg X6 Nr Nt Nu Nv v7 Nx NK NP NQ NT v8 NZ Yc Yd Ye Yg Eh Yh eK eL eM eO Im eP Yl Ym Yn Yo Ei Yp Uy Uz UG UJ Ad UT N8 Oa Ob Od v9 Oe Iu Iv Iw Iz su IK Rn Ro Rp Rq xW Rr Oj Ol Om Oo wg Oq Ry Rz RB RC xX RD Gk Gm Gn Gp qp Gq eR eS eT eU RG eW eX eY eZ e0 K7 e1 e2 e3 e4 e5 F e6 e7 e8 e9 fb K8 fc fe ff fg fh I fi fj fk fl fm J fo fp fq fr ft L fu fv fw fx fy RJ fz fA fE fF fI O fJ fM fN fQ fR K9 fS fT fU fV fW W fX f0 f1 f2 f3 RK f4 f5 f6 f7 f8 VJ ga gc gd ge gg IV gh gi gj gk gl IW gm Yt Yu Yv Yw Ej Yx go gp gr gs La gt YC YD YF YG Ek YH U4 U5 U6 U7 Ae U8 gu gv gw gx Lb gy YM YQ YS YT El YW gz gC gD gE Ja gF gH gI gJ gL RL gM gN gO gP gR Ld gS gT gU gX g0 RM g1 g2 g3 g4 g5 Y g6:Value} {Z aa ac g7 g9 ha ad ae:Tok} {af:Array DictEntry} {hb:Nat}
 (hc:nsIn K mainGlobals "CopyError"=some (some (.ref bD)))
 (hd:nsIn K mainGlobals "NoDesk"=some (some (.ref bB)))
 (he:nsIn K mainGlobals "NoPage"=some (some (.ref bx)))
 (hf:nsIn K mainGlobals "Waiting"=some (some (.ref aR)))
 (hg:nsIn K mainGlobals "NoCopy"=some (some (.ref bh)))
 (hh:nsIn K mainGlobals "NoLetter"=some (some (.ref aK)))
 (hj:nsIn K mainGlobals "Desk"=some (some (.ref bQ)))
 (hk:nsIn K mainGlobals "PageLoans"=some (some (.ref aD)))
 (hl:nsIn K mainGlobals "Hall"=some (some (.ref iD)))
 (hm:nsIn K mainGlobals "Town"=some (some (.ref bF)))
 (hn:excIn K bD [.type "ValueError",.type "Exception",.type "BaseException",.type "object"] "ValueError.__new__"=true)
 (ho:L2.mroIn K bD=some (.ref bD::[.type "ValueError",.type "Exception",.type "BaseException",.type "object"]))
 (hp:excIn K bB [.type "ValueError",.type "Exception",.type "BaseException",.type "object"] "ValueError.__new__"=true)
 (hq:L2.mroIn K bB=some (.ref bB::[.ref bD,.type "ValueError",.type "Exception",.type "BaseException",.type "object"]))
 (hr:excIn K bx [.type "ValueError",.type "Exception",.type "BaseException",.type "object"] "ValueError.__new__"=true)
 (ht:L2.mroIn K bx=some (.ref bx::[.ref bD,.type "ValueError",.type "Exception",.type "BaseException",.type "object"]))
 (hu:excIn K aR [.type "ValueError",.type "Exception",.type "BaseException",.type "object"] "ValueError.__new__"=true)
 (hv:L2.mroIn K aR=some (.ref aR::[.ref bD,.type "ValueError",.type "Exception",.type "BaseException",.type "object"]))
 (hw:excIn K bh [.type "ValueError",.type "Exception",.type "BaseException",.type "object"] "ValueError.__new__"=true)
 (hx:L2.mroIn K bh=some (.ref bh::[.ref bD,.type "ValueError",.type "Exception",.type "BaseException",.type "object"]))
 (hy:excIn K aK [.type "ValueError",.type "Exception",.type "BaseException",.type "object"] "ValueError.__new__"=true)
 (hz:L2.mroIn K aK=some (.ref aK::[.ref bD,.type "ValueError",.type "Exception",.type "BaseException",.type "object"]))
 (hA:findIn K (.ref bB) "__class__"=some (some (.builtin "object.__class__")))
 (hB:findIn K (.ref bB) "__getattribute__"=some (some (.builtin "BaseException.__getattribute__")))
 (hC:findIn K (.ref bB) "__getattr__"=some none)
 (tW:kitOne K (.ref bB) (.ref bD)=some true)
 (fK:bB≠bD)
 (zK:kitOne K (.ref bB) (.ref bB)=some true)
 (zL:kitOne K (.ref bB) (.ref bx)=some false)
 (qQ:bB≠bx)
 (xq:kitOne K (.ref bB) (.ref aR)=some false)
 (pF:bB≠aR)
 (zM:kitOne K (.ref bB) (.ref bh)=some false)
 (qR:bB≠bh)
 (vI:kitOne K (.ref bB) (.ref aK)=some false)
 (nC:bB≠aK)
 (rO:kitOne K (.ref bB) (.type "ValueError")=some true)
 (hD:findIn K (.ref bx) "__class__"=some (some (.builtin "object.__class__")))
 (hE:findIn K (.ref bx) "__getattribute__"=some (some (.builtin "BaseException.__getattribute__")))
 (hF:findIn K (.ref bx) "__getattr__"=some none)
 (tX:kitOne K (.ref bx) (.ref bD)=some true)
 (gK:bx≠bD)
 (zN:kitOne K (.ref bx) (.ref bB)=some false)
 (zO:bx≠bB)
 (zP:kitOne K (.ref bx) (.ref bx)=some true)
 (xr:kitOne K (.ref bx) (.ref aR)=some false)
 (pG:bx≠aR)
 (zQ:kitOne K (.ref bx) (.ref bh)=some false)
 (qT:bx≠bh)
 (vJ:kitOne K (.ref bx) (.ref aK)=some false)
 (nD:bx≠aK)
 (rP:kitOne K (.ref bx) (.type "ValueError")=some true)
 (hG:findIn K (.ref aR) "__class__"=some (some (.builtin "object.__class__")))
 (hH:findIn K (.ref aR) "__getattribute__"=some (some (.builtin "BaseException.__getattribute__")))
 (hI:findIn K (.ref aR) "__getattr__"=some none)
 (rQ:kitOne K (.ref aR) (.ref bD)=some true)
 (ji:aR≠bD)
 (xu:kitOne K (.ref aR) (.ref bB)=some false)
 (xx:aR≠bB)
 (xF:kitOne K (.ref aR) (.ref bx)=some false)
 (xG:aR≠bx)
 (vK:kitOne K (.ref aR) (.ref aR)=some true)
 (xH:kitOne K (.ref aR) (.ref bh)=some false)
 (pH:aR≠bh)
 (tY:kitOne K (.ref aR) (.ref aK)=some false)
 (mq:aR≠aK)
 (p8:kitOne K (.ref aR) (.type "ValueError")=some true)
 (hJ:findIn K (.ref bh) "__class__"=some (some (.builtin "object.__class__")))
 (hK:findIn K (.ref bh) "__getattribute__"=some (some (.builtin "BaseException.__getattribute__")))
 (hL:findIn K (.ref bh) "__getattr__"=some none)
 (tZ:kitOne K (.ref bh) (.ref bD)=some true)
 (my:bh≠bD)
 (zR:kitOne K (.ref bh) (.ref bB)=some false)
 (zT:bh≠bB)
 (zU:kitOne K (.ref bh) (.ref bx)=some false)
 (zV:bh≠bx)
 (xJ:kitOne K (.ref bh) (.ref aR)=some false)
 (xK:bh≠aR)
 (zW:kitOne K (.ref bh) (.ref bh)=some true)
 (vL:kitOne K (.ref bh) (.ref aK)=some false)
 (nF:bh≠aK)
 (rR:kitOne K (.ref bh) (.type "ValueError")=some true)
 (hM:findIn K (.ref aK) "__class__"=some (some (.builtin "object.__class__")))
 (hN:findIn K (.ref aK) "__getattribute__"=some (some (.builtin "BaseException.__getattribute__")))
 (hO:findIn K (.ref aK) "__getattr__"=some none)
 (qb:kitOne K (.ref aK) (.ref bD)=some true)
 (qg:aK≠bD)
 (vM:kitOne K (.ref aK) (.ref bB)=some false)
 (vN:aK≠bB)
 (vO:kitOne K (.ref aK) (.ref bx)=some false)
 (vP:aK≠bx)
 (t7:kitOne K (.ref aK) (.ref aR)=some false)
 (t8:aK≠aR)
 (vQ:kitOne K (.ref aK) (.ref bh)=some false)
 (vR:aK≠bh)
 (rT:kitOne K (.ref aK) (.ref aK)=some true)
 (pI:kitOne K (.ref aK) (.type "ValueError")=some true)
 (hP:plainGet K bQ Str.empty=true)
 (hQ:hasDictIn K bQ=true)
 (hR:plainOver K bQ=true)
 (hS:findIn K (.ref bQ) "__setattr__"=some (some (.builtin "object.__setattr__")))
 (afJ:makesIn K bQ=true)
 (hT:keepIn K (.ref bQ)=true)
 (d9:findIn K (.ref bQ) "copies"=some none)
 (jL:findIn K (.ref bQ) "wish"=some none)
 (hU:plainGet K aD Str.empty=true)
 (hV:hasDictIn K aD=true)
 (hW:plainOver K aD=true)
 (hX:findIn K (.ref aD) "__setattr__"=some (some (.builtin "object.__setattr__")))
 (Cq:makesIn K aD=true)
 (hY:keepIn K (.ref aD)=true)
 (gG:findIn K (.ref aD) "page"=some none)
 (fL:findIn K (.ref aD) "number"=some none)
 (cB:findIn K (.ref aD) "writer"=some none)
 (dh:findIn K (.ref aD) "readers"=some none)
 (dq:findIn K (.ref aD) "asked"=some none)
 (eV:findIn K (.ref aD) "awaited"=some none)
 (hZ:plainGet K iD Str.empty=true)
 (h0:hasDictIn K iD=true)
 (h3:plainOver K iD=true)
 (h4:findIn K (.ref iD) "__setattr__"=some (some (.builtin "object.__setattr__")))
 (afK:makesIn K iD=true)
 (h5:keepIn K (.ref iD)=true)
 (rD:findIn K (.ref iD) "pages"=some none)
 (h6:plainGet K bF Str.empty=true)
 (h7:hasDictIn K bF=true)
 (h8:plainOver K bF=true)
 (h9:findIn K (.ref bF) "__setattr__"=some (some (.builtin "object.__setattr__")))
 (afL:makesIn K bF=true)
 (ia:keepIn K (.ref bF)=true)
 (jM:findIn K (.ref bF) "page_count"=some none)
 (ur:findIn K (.ref bF) "hall"=some none)
 (gf:findIn K (.ref bF) "desks"=some none)
 (fY:findIn K (.ref bF) "roads_up"=some none)
 (fZ:findIn K (.ref bF) "roads_down"=some none)
 (rW:findIn K (.ref bF) "row"=some none)
 (ib:nsIn K mainGlobals "_wall"=some (some (.ref BP)))
 (ag:K.lookup BP=some ⟨c7,aO,.func (FO "_wall" "_wall" ana c8 c9 da aP z db),ci⟩)
 (ah:codeIn K z "_wall"=true)
 (ai:keepIn K (.ref BP)=true)
 (ic:nsIn K mainGlobals "ask_letter"=some (some (.ref iQ)))
 (RN:K.lookup iQ=some ⟨dc,aQ,.func (FO "ask_letter" "ask_letter" Bp de df dg aS KY di),cj⟩)
 (RP:codeIn K KY "ask_letter"=true)
 (RQ:keepIn K (.ref iQ)=true)
 (YX:nsIn K mainGlobals "answer_letter"=some (some (.ref fO)))
 (Em:K.lookup fO=some ⟨Ug,Uc,.func (FO "answer_letter" "answer_letter" sV Uh Ui Uj Ud Ab Uk),Ue⟩)
 (En:codeIn K Ab "answer_letter"=true)
 (Eo:keepIn K (.ref fO)=true)
 (ih:nsIn K mainGlobals "gave_letter"=some (some (.ref gW)))
 (Lf:K.lookup gW=some ⟨dj,aT,.func (FO "gave_letter" "gave_letter" yr dl dm dp aU Ii dr),ck⟩)
 (Lg:codeIn K Ii "gave_letter"=true)
 (Lh:keepIn K (.ref gW)=true)
 (ii:nsIn K mainGlobals "lend_letter"=some (some (.ref gY)))
 (Li:K.lookup gY=some ⟨dt,aV,.func (FO "lend_letter" "lend_letter" yt du dv dw aW Ij dy),cl⟩)
 (Lj:codeIn K Ij "lend_letter"=true)
 (Lk:keepIn K (.ref gY)=true)
 (ij:nsIn K mainGlobals "back_letter"=some (some (.ref gZ)))
 (Ln:K.lookup gZ=some ⟨dz,aX,.func (FO "back_letter" "back_letter" yu dA dB dE aY Ik dH),cm⟩)
 (Lp:codeIn K Ik "back_letter"=true)
 (Lq:keepIn K (.ref gZ)=true)
 (ik:nsIn K mainGlobals "is_enough"=some (some (.ref jx)))
 (VL:K.lookup jx=some ⟨dI,aZ,.func (FO "is_enough" "is_enough" G8 dJ dK dL a1 QB dM),cn⟩)
 (VM:codeIn K QB "is_enough"=true)
 (VN:keepIn K (.ref jx)=true)
 (il:nsIn K mainGlobals "right_needed"=some (some (.ref gn)))
 (Jb:K.lookup gn=some ⟨Xk,Xh,.func (FO "right_needed" "right_needed" uX Xl Xm Xn Xi Ec Xo),Xj⟩)
 (Jc:codeIn K Ec "right_needed"=true)
 (Jd:keepIn K (.ref gn)=true)
 (im:findIn K (.ref bQ) "__init__"=some (some (.ref iR)))
 (io:isFn K (.ref iR)=true)
 (VP:K.lookup iR=some ⟨dN,a2,.func (FO "__init__" "Desk.__init__" G9 dP dQ dS a3 QC dT),co⟩)
 (VR:codeIn K QC "Desk.__init__"=true)
 (V0:keepIn K (.ref iR)=true)
 (YZ:findIn K (.ref bQ) "right_of"=some (some (.ref eG)))
 (Y0:isFn K (.ref eG)=true)
 (Ep:K.lookup eG=some ⟨Uq,Ul,.func (FO "right_of" "Desk.right_of" sW Ur Us Ut Um Ac Uu),Uo⟩)
 (Er:codeIn K Ac "Desk.right_of"=true)
 (tQ:keepIn K (.ref eG)=true)
 (iq:findIn K (.ref bQ) "waits"=some (some (.ref gQ)))
 (ir:isFn K (.ref gQ)=true)
 (RT:K.lookup gQ=some ⟨dV,a4,.func (FO "waits" "Desk.waits" Bq dX dZ d0 a5 KZ d1),cq⟩)
 (RV:codeIn K KZ "Desk.waits"=true)
 (Dv:keepIn K (.ref gQ)=true)
 (it:findIn K (.ref bQ) "want"=some (some (.ref iT)))
 (iv:isFn K (.ref iT)=true)
 (V1:K.lookup iT=some ⟨d2,a6,.func (FO "want" "Desk.want" Ha d3 d4 d5 a7 QD d6),cr⟩)
 (V2:codeIn K QD "Desk.want"=true)
 (Je:keepIn K (.ref iT)=true)
 (ix:findIn K (.ref bQ) "take"=some (some (.ref iU)))
 (iz:isFn K (.ref iU)=true)
 (V3:K.lookup iU=some ⟨d7,a8,.func (FO "take" "Desk.take" Hc d8 ea eb a9 QF ec),cs⟩)
 (V4:codeIn K QF "Desk.take"=true)
 (Jf:keepIn K (.ref iU)=true)
 (iB:findIn K (.ref bQ) "rest"=some (some (.ref iV)))
 (iC:isFn K (.ref iV)=true)
 (V5:K.lookup iV=some ⟨ed,ba,.func (FO "rest" "Desk.rest" Hd ee ef eg bb QG eh),cu⟩)
 (V6:codeIn K QG "Desk.rest"=true)
 (Jg:keepIn K (.ref iV)=true)
 (iF:findIn K (.ref bQ) "may_do"=some (some (.ref f9)))
 (iG:isFn K (.ref f9)=true)
 (Lr:K.lookup f9=some ⟨ei,bc,.func (FO "may_do" "Desk.may_do" yw ej ek el bd Il em),cv⟩)
 (Ls:codeIn K Il "Desk.may_do"=true)
 (zm:keepIn K (.ref f9)=true)
 (iI:findIn K (.ref bQ) "do_wish"=some (some (.ref fB)))
 (iJ:isFn K (.ref fB)=true)
 (Jh:K.lookup fB=some ⟨Xu,Xp,.func (FO "do_wish" "Desk.do_wish" uY Xv Xw Xx Xq Ed Xy),Xr⟩)
 (Ji:codeIn K Ed "Desk.do_wish"=true)
 (wj:keepIn K (.ref fB)=true)
 (U9:findIn K (.ref bQ) "take_loan"=some (some (.ref dO)))
 (Va:isFn K (.ref dO)=true)
 (Af:K.lookup dO=some ⟨QL,QH,.func (FO "take_loan" "Desk.take_loan" qH QM QQ QR QJ xR QS),QK⟩)
 (Ag:codeIn K xR "Desk.take_loan"=true)
 (qY:keepIn K (.ref dO)=true)
 (iM:findIn K (.ref bQ) "go_down"=some (some (.ref fC)))
 (iN:isFn K (.ref fC)=true)
 (Jj:K.lookup fC=some ⟨XF,Xz,.func (FO "go_down" "Desk.go_down" uZ XH XJ XM XC Ef XN),XD⟩)
 (Jk:codeIn K Ef "Desk.go_down"=true)
 (wu:keepIn K (.ref fC)=true)
 (Gr:findIn K (.ref bQ) "number_to_tell"=some (some (.ref cN)))
 (Gs:isFn K (.ref cN)=true)
 (qt:K.lookup cN=some ⟨CT,CK,.func (FO "number_to_tell" "Desk.number_to_tell" jV CV CW CZ CN pP Dc),CQ⟩)
 (qu:codeIn K pP "Desk.number_to_tell"=true)
 (j6:keepIn K (.ref cN)=true)
 (iS:findIn K (.ref bQ) "hold"=some (some (.ref iW)))
 (iX:isFn K (.ref iW)=true)
 (V7:K.lookup iW=some ⟨en,be,.func (FO "hold" "Desk.hold" Hf eo ep eq bf QT er),cw⟩)
 (V8:codeIn K QT "Desk.hold"=true)
 (Jl:keepIn K (.ref iW)=true)
 (Vb:findIn K (.ref aD) "__init__"=some (some (.ref dR)))
 (Vc:isFn K (.ref dR)=true)
 (Ai:K.lookup dR=some ⟨QZ,QV,.func (FO "__init__" "PageLoans.__init__" qI Q0 Q3 Q4 QW xU Q5),QX⟩)
 (Aj:codeIn K xU "PageLoans.__init__"=true)
 (Ak:keepIn K (.ref dR)=true)
 (Jm:findIn K (.ref aD) "take_ask"=some (some (.ref cT)))
 (Jo:isFn K (.ref cT)=true)
 (sE:K.lookup cT=some ⟨Fz,Fw,.func (FO "take_ask" "PageLoans.take_ask" lD FJ FN FP Fx qj FQ),Fy⟩)
 (sG:codeIn K qj "PageLoans.take_ask"=true)
 (lJ:keepIn K (.ref cT)=true)
 (Al:findIn K (.ref aD) "take_answer"=some (some (.ref cF)))
 (Am:isFn K (.ref cF)=true)
 (nZ:K.lookup cF=some ⟨zb,yX,.func (FO "take_answer" "PageLoans.take_answer" jq zc zf zg yZ mJ zj),za⟩)
 (n6:codeIn K mJ "PageLoans.take_answer"=true)
 (jw:keepIn K (.ref cF)=true)
 (Gu:findIn K (.ref aD) "take_gave"=some (some (.ref cO)))
 (Gv:isFn K (.ref cO)=true)
 (qw:K.lookup cO=some ⟨Dg,Dd,.func (FO "take_gave" "PageLoans.take_gave" jW Dh Di Dj De pQ Dk),Df⟩)
 (qx:codeIn K pQ "PageLoans.take_gave"=true)
 (j7:keepIn K (.ref cO)=true)
 (RW:findIn K (.ref aD) "serve"=some (some (.ref dC)))
 (RX:isFn K (.ref dC)=true)
 (xY:K.lookup dC=some ⟨Ng,M9,.func (FO "serve" "PageLoans.serve" oW Nh Ni Nj Nb v5 Nk),Nf⟩)
 (xZ:codeIn K v5 "PageLoans.serve"=true)
 (pU:keepIn K (.ref dC)=true)
 (wy:findIn K (.ref aD) "bids_for_first"=some (some (.ref cg)))
 (wz:isFn K (.ref cg)=true)
 (lK:K.lookup cg=some ⟨uE,uB,.func (FO "bids_for_first" "PageLoans.bids_for_first" iu uF uG uH uC km uI),uD⟩)
 (lL:codeIn K km "PageLoans.bids_for_first"=true)
 (iy:keepIn K (.ref cg)=true)
 (Vd:findIn K (.ref aD) "lend"=some (some (.ref dU)))
 (Ve:isFn K (.ref dU)=true)
 (An:K.lookup dU=some ⟨Q9,Q6,.func (FO "lend" "PageLoans.lend" qJ Ra Rb Rc Q7 xV Rf),Q8⟩)
 (Ao:codeIn K xV "PageLoans.lend"=true)
 (qZ:keepIn K (.ref dU)=true)
 (Gw:findIn K (.ref aD) "let_write"=some (some (.ref cP)))
 (Gx:isFn K (.ref cP)=true)
 (qy:K.lookup cP=some ⟨Dq,Dl,.func (FO "let_write" "PageLoans.let_write" jX Dr Ds Dt Dm pR Du),Dp⟩)
 (qz:codeIn K pR "PageLoans.let_write"=true)
 (j8:keepIn K (.ref cP)=true)
 (Jp:findIn K (.ref aD) "let_read"=some (some (.ref cU)))
 (Jq:isFn K (.ref cU)=true)
 (sH:K.lookup cU=some ⟨Ga,FT,.func (FO "let_read" "PageLoans.let_read" lE Gb Gd Ge FW qm Gf),FZ⟩)
 (sI:codeIn K qm "PageLoans.let_read"=true)
 (lM:keepIn K (.ref cU)=true)
 (i9:findIn K (.ref iD) "__init__"=some (some (.ref iY)))
 (ja:isFn K (.ref iY)=true)
 (V9:K.lookup iY=some ⟨et,bg,.func (FO "__init__" "Hall.__init__" Hg eu ev ew bi Rg ey),cx⟩)
 (Wa:codeIn K Rg "Hall.__init__"=true)
 (Wb:keepIn K (.ref iY)=true)
 (jj:findIn K (.ref iD) "take"=some (some (.ref iZ)))
 (jk:isFn K (.ref iZ)=true)
 (Wc:K.lookup iZ=some ⟨ez,bj,.func (FO "take" "Hall.take" Hh eA eB eC bl Rh eD),cy⟩)
 (Wd:codeIn K Rh "Hall.take"=true)
 (Jr:keepIn K (.ref iZ)=true)
 (jm:findIn K (.ref bF) "__init__"=some (some (.ref jb)))
 (jn:isFn K (.ref jb)=true)
 (We:K.lookup jb=some ⟨eE,bn,.func (FO "__init__" "Town.__init__" Hi eF eH eI bo Ri eJ),cz⟩)
 (Wf:codeIn K Ri "Town.__init__"=true)
 (Wg:keepIn K (.ref jb)=true)
 (jo:findIn K (.ref bF) "do_deed"=some (some (.ref fD)))
 (jp:isFn K (.ref fD)=true)
 (Js:K.lookup fD=some ⟨XX,XQ,.func (FO "do_deed" "Town.do_deed" u0 X3 X4 X5 XR Eg X6),XS⟩)
 (Jt:codeIn K Eg "Town.do_deed"=true)
 (wA:keepIn K (.ref fD)=true)
 (RZ:findIn K (.ref bF) "check_desk"=some (some (.ref dD)))
 (R0:isFn K (.ref dD)=true)
 (yc:K.lookup dD=some ⟨Nr,Nm,.func (FO "check_desk" "Town.check_desk" oX Nt Nu Nv Np v7 Nx),Nq⟩)
 (yd:codeIn K v7 "Town.check_desk"=true)
 (pW:keepIn K (.ref dD)=true)
 (R1:findIn K (.ref bF) "check_page"=some (some (.ref dF)))
 (R3:isFn K (.ref dF)=true)
 (ye:K.lookup dF=some ⟨NK,Ny,.func (FO "check_page" "Town.check_page" oY NP NQ NT Nz v8 NZ),NB⟩)
 (yf:codeIn K v8 "Town.check_page"=true)
 (pX:keepIn K (.ref dF)=true)
 (jv:findIn K (.ref bF) "look_at"=some (some (.ref fG)))
 (jD:isFn K (.ref fG)=true)
 (Ju:K.lookup fG=some ⟨Yc,X7,.func (FO "look_at" "Town.look_at" u6 Yd Ye Yg X8 Eh Yh),Yb⟩)
 (Jv:codeIn K Eh "Town.look_at"=true)
 (wB:keepIn K (.ref fG)=true)
 (jF:findIn K (.ref bF) "put_on"=some (some (.ref gb)))
 (jG:isFn K (.ref gb)=true)
 (Lw:K.lookup gb=some ⟨eK,bp,.func (FO "put_on" "Town.put_on" yx eL eM eO bq Im eP),cA⟩)
 (Lx:codeIn K Im "Town.put_on"=true)
 (zp:keepIn K (.ref gb)=true)
 (jI:findIn K (.ref bF) "give_up"=some (some (.ref fH)))
 (jJ:isFn K (.ref fH)=true)
 (Jw:K.lookup fH=some ⟨Yl,Yi,.func (FO "give_up" "Town.give_up" u9 Ym Yn Yo Yj Ei Yp),Yk⟩)
 (Jx:codeIn K Ei "Town.give_up"=true)
 (wC:keepIn K (.ref fH)=true)
 (Y4:findIn K (.ref bF) "bring_up"=some (some (.ref eN)))
 (Y5:isFn K (.ref eN)=true)
 (Es:K.lookup eN=some ⟨Uy,Uv,.func (FO "bring_up" "Town.bring_up" sX Uz UG UJ Uw Ad UT),Ux⟩)
 (Et:codeIn K Ad "Town.bring_up"=true)
 (tR:keepIn K (.ref eN)=true)
 (R4:findIn K (.ref bF) "bring_down"=some (some (.ref dG)))
 (R5:isFn K (.ref dG)=true)
 (yg:K.lookup dG=some ⟨N8,N5,.func (FO "bring_down" "Town.bring_down" oZ Oa Ob Od N6 v9 Oe),N7⟩)
 (yh:codeIn K v9 "Town.bring_down"=true)
 (pY:keepIn K (.ref dG)=true)
 (J8:findIn K (.ref bF) "first_letter"=some (some (.ref cY)))
 (J9:isFn K (.ref cY)=true)
 (ue:K.lookup cY=some ⟨Iu,Io,.func (FO "first_letter" "Town.first_letter" mj Iv Iw Iz Ip su IK),Ir⟩)
 (uf:codeIn K su "Town.first_letter"=true)
 (mz:keepIn K (.ref cY)=true)
 (Vf:findIn K (.ref bF) "carry_out"=some (some (.ref dW)))
 (Vg:isFn K (.ref dW)=true)
 (Aq:K.lookup dW=some ⟨Rn,Rj,.func (FO "carry_out" "Town.carry_out" qK Ro Rp Rq Rk xW Rr),Rm⟩)
 (Ar:codeIn K xW "Town.carry_out"=true)
 (rm:keepIn K (.ref dW)=true)
 (R6:findIn K (.ref bF) "all_rights"=some (some (.ref dY)))
 (R7:isFn K (.ref dY)=true)
 (yj:K.lookup dY=some ⟨Oj,Og,.func (FO "all_rights" "Town.all_rights" xf Ol Om Oo Oh wg Oq),Oi⟩)
 (ym:codeIn K wg "Town.all_rights"=true)
 (pZ:keepIn K (.ref dY)=true)
 (Vh:findIn K (.ref bF) "rights_of"=some (some (.ref eQ)))
 (Vi:isFn K (.ref eQ)=true)
 (Av:K.lookup eQ=some ⟨Ry,Ru,.func (FO "rights_of" "Town.rights_of" zF Rz RB RC Rv xX RD),Rx⟩)
 (Aw:codeIn K xX "Town.rights_of"=true)
 (rA:keepIn K (.ref eQ)=true)
 (Jy:findIn K (.ref bF) "waiting_desks"=some (some (.ref cV)))
 (Jz:isFn K (.ref cV)=true)
 (sJ:K.lookup cV=some ⟨Gk,Gg,.func (FO "waiting_desks" "Town.waiting_desks" lF Gm Gn Gp Gh qp Gq),Gj⟩)
 (sO:codeIn K qp "Town.waiting_desks"=true)
 (lN:keepIn K (.ref cV)=true)
 (jU:nsIn K mainGlobals "answer_of"=some (some (.ref jy)))
 (Wh:K.lookup jy=some ⟨eR,br,.func (FO "answer_of" "answer_of" Hj eS eT eU bt RG eW),cC⟩)
 (Wi:codeIn K RG "answer_of"=true)
 (Wj:keepIn K (.ref jy)=true)
 (jY:nsIn K mainGlobals "town_after"=some (some (.ref jc)))
 (R8:K.lookup jc=some ⟨eX,bu,.func (FO "town_after" "town_after" Br eY eZ e0 bv K7 e1),cD⟩)
 (R9:codeIn K K7 "town_after"=true)
 (Sd:keepIn K (.ref jc)=true)
 (jZ:nsIn K mainGlobals "row_of"=some (some (.ref rM)))
 (aj:K.lookup rM=some ⟨e2,bw,.func (FO "row_of" "row_of" aab e3 e4 e5 bz F e6),cE⟩)
 (ak:codeIn K F "row_of"=true)
 (al:keepIn K (.ref rM)=true)
 (j0:nsIn K mainGlobals "left_after"=some (some (.ref jd)))
 (Sg:K.lookup jd=some ⟨e7,bA,.func (FO "left_after" "left_after" Bs e8 e9 fb bC K8 fc),cG⟩)
 (Sh:codeIn K K8 "left_after"=true)
 (Sq:keepIn K (.ref jd)=true)
 (j1:nsIn K mainGlobals "_law_whole"=some (some (.ref nU)))
 (am:K.lookup nU=some ⟨fe,bE,.func (FO "_law_whole" "_law_whole" Ti ff fg fh bG I fi),cH⟩)
 (an:codeIn K I "_law_whole"=true)
 (ao:keepIn K (.ref nU)=true)
 (j2:nsIn K mainGlobals "_law_at"=some (some (.ref Hu)))
 (ap:K.lookup Hu=some ⟨fj,bH,.func (FO "_law_at" "_law_at" alH fk fl fm bI J fo),cI⟩)
 (aq:codeIn K J "_law_at"=true)
 (ar:keepIn K (.ref Hu)=true)
 (j3:nsIn K mainGlobals "_law_same"=some (some (.ref rN)))
 (as:K.lookup rN=some ⟨fp,bJ,.func (FO "_law_same" "_law_same" aac fq fr ft bK L fu),cJ⟩)
 (au:codeIn K L "_law_same"=true)
 (av:keepIn K (.ref rN)=true)
 (j4:nsIn K mainGlobals "_law_town_of"=some (some (.ref jz)))
 (Wk:K.lookup jz=some ⟨fv,bL,.func (FO "_law_town_of" "_law_town_of" Hk fw fx fy bM RJ fz),cK⟩)
 (Wl:codeIn K RJ "_law_town_of"=true)
 (Wm:keepIn K (.ref jz)=true)
 (j5:nsIn K mainGlobals "_law_bid"=some (some (.ref xn)))
 (aw:K.lookup xn=some ⟨fA,bN,.func (FO "_law_bid" "_law_bid" afz fE fF fI bO O fJ),cL⟩)
 (ax:codeIn K O "_law_bid"=true)
 (ay:keepIn K (.ref xn)=true)
 (j9:nsIn K mainGlobals "_law_lend_out"=some (some (.ref je)))
 (Ss:K.lookup je=some ⟨fM,bP,.func (FO "_law_lend_out" "_law_lend_out" Bu fN fQ fR bR K9 fS),cM⟩)
 (Su:codeIn K K9 "_law_lend_out"=true)
 (Sv:keepIn K (.ref je)=true)
 (ka:nsIn K mainGlobals "_law_serve"=some (some (.ref nY)))
 (az:K.lookup nY=some ⟨fT,bS,.func (FO "_law_serve" "_law_serve" Tj fU fV fW bT W fX),cQ⟩)
 (aA:codeIn K W "_law_serve"=true)
 (aB:keepIn K (.ref nY)=true)
 (kb:nsIn K mainGlobals "_law_came_up"=some (some (.ref jA)))
 (Wn:K.lookup jA=some ⟨f0,bU,.func (FO "_law_came_up" "_law_came_up" Hl f1 f2 f3 bV RK f4),cR⟩)
 (Wo:codeIn K RK "_law_came_up"=true)
 (Wq:keepIn K (.ref jA)=true)
 (kc:nsIn K mainGlobals "_law_enough"=some (some (.ref lH)))
 (aC:K.lookup lH=some ⟨f5,bW,.func (FO "_law_enough" "_law_enough" Mp f6 f7 f8 bX VJ ga),cS⟩)
 (aE:codeIn K VJ "_law_enough"=true)
 (aF:keepIn K (.ref lH)=true)
 (kd:nsIn K mainGlobals "_law_fulfilled"=some (some (.ref g8)))
 (Ly:K.lookup g8=some ⟨gc,bY,.func (FO "_law_fulfilled" "_law_fulfilled" yz gd ge gg bZ IV gh),cW⟩)
 (Lz:codeIn K IV "_law_fulfilled"=true)
 (LC:keepIn K (.ref g8)=true)
 (ke:nsIn K mainGlobals "_law_came_down"=some (some (.ref ie)))
 (LK:K.lookup ie=some ⟨gi,b0,.func (FO "_law_came_down" "_law_came_down" yC gj gk gl b1 IW gm),cZ⟩)
 (LQ:codeIn K IW "_law_came_down"=true)
 (LR:keepIn K (.ref ie)=true)
 (kf:nsIn K mainGlobals "_law_refusal_of"=some (some (.ref gq)))
 (JB:K.lookup gq=some ⟨Yt,Yq,.func (FO "_law_refusal_of" "_law_refusal_of" vd Yu Yv Yw Yr Ej Yx),Ys⟩)
 (JC:codeIn K Ej "_law_refusal_of"=true)
 (JD:keepIn K (.ref gq)=true)
 (kg:nsIn K mainGlobals "_law_answered"=some (some (.ref jf)))
 (Sw:K.lookup jf=some ⟨go,b2,.func (FO "_law_answered" "_law_answered" Bv gp gr gs b3 La gt),c0⟩)
 (Sx:codeIn K La "_law_answered"=true)
 (Sy:keepIn K (.ref jf)=true)
 (kh:nsIn K mainGlobals "_law_numbers_of"=some (some (.ref gA)))
 (JF:K.lookup gA=some ⟨YC,Yy,.func (FO "_law_numbers_of" "_law_numbers_of" vf YD YF YG Yz Ek YH),YB⟩)
 (JG:codeIn K Ek "_law_numbers_of"=true)
 (JH:keepIn K (.ref gA)=true)
 (Y6:nsIn K mainGlobals "_law_first_deeds"=some (some (.ref fP)))
 (Eu:K.lookup fP=some ⟨U4,UW,.func (FO "_law_first_deeds" "_law_first_deeds" sY U5 U6 U7 U0 Ae U8),U3⟩)
 (Ew:codeIn K Ae "_law_first_deeds"=true)
 (Ex:keepIn K (.ref fP)=true)
 (ki:nsIn K mainGlobals "_law_asked_of"=some (some (.ref jg)))
 (SJ:K.lookup jg=some ⟨gu,b4,.func (FO "_law_asked_of" "_law_asked_of" Bw gv gw gx b5 Lb gy),c1⟩)
 (SM:codeIn K Lb "_law_asked_of"=true)
 (SN:keepIn K (.ref jg)=true)
 (kj:nsIn K mainGlobals "_law_row_walked"=some (some (.ref gB)))
 (JK:K.lookup gB=some ⟨YM,YJ,.func (FO "_law_row_walked" "_law_row_walked" vg YQ YS YT YK El YW),YL⟩)
 (JL:codeIn K El "_law_row_walked"=true)
 (JM:keepIn K (.ref gB)=true)
 (kk:nsIn K mainGlobals "_law_wishes_of"=some (some (.ref ig)))
 (Ma:K.lookup ig=some ⟨gz,b6,.func (FO "_law_wishes_of" "_law_wishes_of" yD gC gD gE b7 Ja gF),c2⟩)
 (Mf:codeIn K Ja "_law_wishes_of"=true)
 (Mg:keepIn K (.ref ig)=true)
 (kl:nsIn K mainGlobals "_law_done_by"=some (some (.ref jB)))
 (Wr:K.lookup jB=some ⟨gH,b8,.func (FO "_law_done_by" "_law_done_by" Hm gI gJ gL b9 RL gM),c3⟩)
 (Ws:codeIn K RL "_law_done_by"=true)
 (Wt:keepIn K (.ref jB)=true)
 (kn:nsIn K mainGlobals "_law_roads_of"=some (some (.ref jh)))
 (SQ:K.lookup jh=some ⟨gN,ca,.func (FO "_law_roads_of" "_law_roads_of" Bx gO gP gR cb Ld gS),c4⟩)
 (SX:codeIn K Ld "_law_roads_of"=true)
 (S5:keepIn K (.ref jh)=true)
 (ko:nsIn K mainGlobals "_law_drained"=some (some (.ref jC)))
 (Wu:K.lookup jC=some ⟨gT,cc,.func (FO "_law_drained" "_law_drained" Hn gU gX g0 ce RM g1),c5⟩)
 (Wv:codeIn K RM "_law_drained"=true)
 (Ww:keepIn K (.ref jC)=true)
 (aG:nsIn K mainGlobals "law"=some (some (.ref aaj)))
 (aI:K.lookup aaj=some ⟨g2,cf,.func (FO "law" "law" aqq g3 g4 g5 ch Y g6),c6⟩)
 (aJ:codeIn K Y "law"=true)
 (aL:keepIn K (.ref aaj)=true)
 (kp:nsIn K mainGlobals "NONE"=some (some (.str "none" Z)))
 (kq:nsIn K mainGlobals "READ"=some (some (.str "read" aa)))
 (kr:nsIn K mainGlobals "WRITE"=some (some (.str "write" ac)))
 (kt:nsIn K mainGlobals "RANKS"=some (some (.ref uq)))
 (ku:K.lookup uq=some ⟨.type "dict",none,.dict af hb,#[]⟩)
 (kv:KeysLit w.params af.toList)
 (kw:nsIn K uq "none"=some (some (.int 0 g7)))
 (kx:nsIn K uq "read"=some (some (.int 1 g9)))
 (ky:nsIn K uq "write"=some (some (.int 2 ha)))
 (kz:nsIn K mainGlobals "DONE"=some (some (.str "done" ad)))
 (kA:nsIn K mainGlobals "WAITS"=some (some (.str "waits" ae)))
 (kB:nsIn K mainGlobals "len"=some none)
 (kC:nsIn K mainGlobals "enumerate"=some none)
 (kD:nsIn K mainGlobals "range"=some none)
 (kE:nsIn K mainGlobals "isinstance"=some none)
 (kF:nsIn K mainGlobals "int"=some none)
 (kG:nsIn K mainGlobals "bool"=some none)
 (kH:nsIn K mainGlobals "list"=some none)
 (kI:nsIn K mainGlobals "tuple"=some none)
 (kJ:nsIn K mainGlobals "str"=some none)
   : ∃fd:FuncData,(∀(s:Shared) (v:Value),BindsTo s fd ⟨[v],[]⟩ [("_law_script",v)])/\∀base:Heap,K.In base->base.Ns mainGlobals mg->cX l.prog w K mg base mW 11 fa fd ["_law_script"] (anC K):=by
  have e:=(mg_of X G aG).symm.trans aN;cases e;have T:Txt K w mg ⟨bD,bB,bx,aR,bh,aK,bQ,aD,iD,bF,BP,_,iQ,_,fO,_,gW,_,gY,_,gZ,_,jx,_,gn,_,iR,_,eG,_,gQ,_,iT,_,iU,_,iV,_,f9,_,fB,_,dO,_,fC,_,cN,_,iW,_,dR,_,cT,_,cF,_,cO,_,dC,_,cg,_,dU,_,cP,_,cU,_,iY,_,iZ,_,jb,_,fD,_,dD,_,dF,_,fG,_,gb,_,fH,_,eN,_,dG,_,cY,_,dW,_,dY,_,eQ,_,cV,_,jy,_,jc,_,rM,_,jd,_,nU,_,Hu,_,rN,_,jz,_,xn,_,je,_,nY,_,jA,_,lH,_,g8,_,ie,_,gq,_,jf,_,gA,_,fP,_,jg,_,gB,_,ig,_,jB,_,jh,_,jC,_,fa,_,uq⟩:=⟨Td hn ho,
   mg_of X G hc,
   Td hp hq,
   mg_of X G hd,
   Td hr ht,
   mg_of X G he,
   Td hu hv,
   mg_of X G hf,
   Td hw hx,
   mg_of X G hg,
   Td hy hz,
   mg_of X G hh,
   ⟨hA,hB,hC⟩,
   tW,
   fK,
   zK,
   zL,
   qQ,
   xq,
   pF,
   zM,
   qR,
   vI,
   nC,
   rO,
   ⟨hD,hE,hF⟩,
   tX,
   gK,
   zN,
   zO,
   zP,
   xr,
   pG,
   zQ,
   qT,
   vJ,
   nD,
   rP,
   ⟨hG,hH,hI⟩,
   rQ,
   ji,
   xu,
   xx,
   xF,
   xG,
   vK,
   xH,
   pH,
   tY,
   mq,
   p8,
   ⟨hJ,hK,hL⟩,
   tZ,
   my,
   zR,
   zT,
   zU,
   zV,
   xJ,
   xK,
   zW,
   vL,
   nF,
   rR,
   ⟨hM,hN,hO⟩,
   qb,
   qg,
   vM,
   vN,
   vO,
   vP,
   t7,
   t8,
   vQ,
   vR,
   rT,
   pI,
   ⟨hP,hQ,hR,hS⟩,
   ⟨afJ,im,io,hT⟩,
   mg_of X G hj,
   d9,
   jL,
   ⟨hU,hV,hW,hX⟩,
   ⟨Cq,Vb,Vc,hY⟩,
   mg_of X G hk,
   gG,
   fL,
   cB,
   dh,
   dq,
   eV,
   ⟨hZ,h0,h3,h4⟩,
   ⟨afK,i9,ja,h5⟩,
   mg_of X G hl,
   rD,
   ⟨h6,h7,h8,h9⟩,
   ⟨afL,jm,jn,ia⟩,
   mg_of X G hm,
   jM,
   ur,
   gf,
   fY,
   fZ,
   rW,
   aH ag ah ai,
   (aH ag ah ai).binds (Sort 1),
   mg_of X G ib,
   aH RN RP RQ,
   (aH RN RP RQ).binds (Sort 2),
   mg_of X G ic,
   aH Em En Eo,
   (aH Em En Eo).binds (Sort 2),
   mg_of X G YX,
   aH Lf Lg Lh,
   (aH Lf Lg Lh).binds (Sort 2),
   mg_of X G ih,
   aH Li Lj Lk,
   (aH Li Lj Lk).binds (Sort 3),
   mg_of X G ii,
   aH Ln Lp Lq,
   (aH Ln Lp Lq).binds (Sort 2),
   mg_of X G ij,
   aH VL VM VN,
   (aH VL VM VN).binds (Sort 2),
   mg_of X G ik,
   aH Jb Jc Jd,
   (aH Jb Jc Jd).binds (Sort 1),
   mg_of X G il,
   aH VP VR V0,
   (aH VP VR V0).binds (Sort 1),
   aH Ep Er tQ,
   (aH Ep Er tQ).binds (Sort 2),
   ⟨YZ,Y0,tQ⟩,
   aH RT RV Dv,
   (aH RT RV Dv).binds (Sort 1),
   ⟨iq,ir,Dv⟩,
   aH V1 V2 Je,
   (aH V1 V2 Je).binds (Sort 2),
   ⟨it,iv,Je⟩,
   aH V3 V4 Jf,
   (aH V3 V4 Jf).binds (Sort 2),
   ⟨ix,iz,Jf⟩,
   aH V5 V6 Jg,
   (aH V5 V6 Jg).binds (Sort 2),
   ⟨iB,iC,Jg⟩,
   aH Lr Ls zm,
   (aH Lr Ls zm).binds (Sort 2),
   ⟨iF,iG,zm⟩,
   aH Jh Ji wj,
   (aH Jh Ji wj).binds (Sort 2),
   ⟨iI,iJ,wj⟩,
   aH Af Ag qY,
   (aH Af Ag qY).binds (Sort 4),
   ⟨U9,Va,qY⟩,
   aH Jj Jk wu,
   (aH Jj Jk wu).binds (Sort 3),
   ⟨iM,iN,wu⟩,
   aH qt qu j6,
   (aH qt qu j6).binds (Sort 2),
   ⟨Gr,Gs,j6⟩,
   aH V7 V8 Jl,
   (aH V7 V8 Jl).binds (Sort 4),
   ⟨iS,iX,Jl⟩,
   aH Ai Aj Ak,
   (aH Ai Aj Ak).binds (Sort 3),
   aH sE sG lJ,
   (aH sE sG lJ).binds (Sort 3),
   ⟨Jm,Jo,lJ⟩,
   aH nZ n6 jw,
   (aH nZ n6 jw).binds (Sort 2),
   ⟨Al,Am,jw⟩,
   aH qw qx j7,
   (aH qw qx j7).binds (Sort 3),
   ⟨Gu,Gv,j7⟩,
   aH xY xZ pU,
   (aH xY xZ pU).binds (Sort 1),
   ⟨RW,RX,pU⟩,
   aH lK lL iy,
   (aH lK lL iy).binds (Sort 1),
   ⟨wy,wz,iy⟩,
   aH An Ao qZ,
   (aH An Ao qZ).binds (Sort 1),
   ⟨Vd,Ve,qZ⟩,
   aH qy qz j8,
   (aH qy qz j8).binds (Sort 2),
   ⟨Gw,Gx,j8⟩,
   aH sH sI lM,
   (aH sH sI lM).binds (Sort 2),
   ⟨Jp,Jq,lM⟩,
   aH V9 Wa Wb,
   (aH V9 Wa Wb).binds (Sort 2),
   aH Wc Wd Jr,
   (aH Wc Wd Jr).binds (Sort 3),
   ⟨jj,jk,Jr⟩,
   aH We Wf Wg,
   (aH We Wf Wg).binds (Sort 3),
   aH Js Jt wA,
   (aH Js Jt wA).binds (Sort 2),
   ⟨jo,jp,wA⟩,
   aH yc yd pW,
   (aH yc yd pW).binds (Sort 2),
   ⟨RZ,R0,pW⟩,
   aH ye yf pX,
   (aH ye yf pX).binds (Sort 2),
   ⟨R1,R3,pX⟩,
   aH Ju Jv wB,
   (aH Ju Jv wB).binds (Sort 3),
   ⟨jv,jD,wB⟩,
   aH Lw Lx zp,
   (aH Lw Lx zp).binds (Sort 4),
   ⟨jF,jG,zp⟩,
   aH Jw Jx wC,
   (aH Jw Jx wC).binds (Sort 3),
   ⟨jI,jJ,wC⟩,
   aH Es Et tR,
   (aH Es Et tR).binds (Sort 2),
   ⟨Y4,Y5,tR⟩,
   aH yg yh pY,
   (aH yg yh pY).binds (Sort 2),
   ⟨R4,R5,pY⟩,
   aH ue uf mz,
   (aH ue uf mz).binds (Sort 2),
   ⟨J8,J9,mz⟩,
   aH Aq Ar rm,
   (aH Aq Ar rm).binds (Sort 3),
   ⟨Vf,Vg,rm⟩,
   aH yj ym pZ,
   (aH yj ym pZ).binds (Sort 1),
   ⟨R6,R7,pZ⟩,
   aH Av Aw rA,
   (aH Av Aw rA).binds (Sort 2),
   ⟨Vh,Vi,rA⟩,
   aH sJ sO lN,
   (aH sJ sO lN).binds (Sort 1),
   ⟨Jy,Jz,lN⟩,
   aH Wh Wi Wj,
   (aH Wh Wi Wj).binds (Sort 2),
   mg_of X G jU,
   aH R8 R9 Sd,
   (aH R8 R9 Sd).binds (Sort 3),
   mg_of X G jY,
   aH aj ak al,
   (aH aj ak al).binds (Sort 3),
   mg_of X G jZ,
   aH Sg Sh Sq,
   (aH Sg Sh Sq).binds (Sort 3),
   mg_of X G j0,
   aH am an ao,
   (aH am an ao).binds (Sort 1),
   mg_of X G j1,
   aH ap aq ar,
   (aH ap aq ar).binds (Sort 2),
   mg_of X G j2,
   aH as au av,
   (aH as au av).binds (Sort 2),
   mg_of X G j3,
   aH Wk Wl Wm,
   (aH Wk Wl Wm).binds (Sort 2),
   mg_of X G j4,
   aH aw ax ay,
   (aH aw ax ay).binds (Sort 2),
   mg_of X G j5,
   aH Ss Su Sv,
   (aH Ss Su Sv).binds (Sort 2),
   mg_of X G j9,
   aH az aA aB,
   (aH az aA aB).binds (Sort 2),
   mg_of X G ka,
   aH Wn Wo Wq,
   (aH Wn Wo Wq).binds (Sort 2),
   mg_of X G kb,
   aH aC aE aF,
   (aH aC aE aF).binds (Sort 2),
   mg_of X G kc,
   aH Ly Lz LC,
   (aH Ly Lz LC).binds (Sort 3),
   mg_of X G kd,
   aH LK LQ LR,
   (aH LK LQ LR).binds (Sort 2),
   mg_of X G ke,
   aH JB JC JD,
   (aH JB JC JD).binds (Sort 2),
   mg_of X G kf,
   aH Sw Sx Sy,
   (aH Sw Sx Sy).binds (Sort 2),
   mg_of X G kg,
   aH JF JG JH,
   (aH JF JG JH).binds (Sort 2),
   mg_of X G kh,
   aH Eu Ew Ex,
   (aH Eu Ew Ex).binds (Sort 2),
   mg_of X G Y6,
   aH SJ SM SN,
   (aH SJ SM SN).binds (Sort 3),
   mg_of X G ki,
   aH JK JL JM,
   (aH JK JL JM).binds (Sort 3),
   mg_of X G kj,
   aH Ma Mf Mg,
   (aH Ma Mf Mg).binds (Sort 3),
   mg_of X G kk,
   aH Wr Ws Wt,
   (aH Wr Ws Wt).binds (Sort 2),
   mg_of X G kl,
   aH SQ SX S5,
   (aH SQ SX S5).binds (Sort 1),
   mg_of X G kn,
   aH Wu Wv Ww,
   (aH Wu Wv Ww).binds (Sort 2),
   mg_of X G ko,
   aH aI aJ aL,
   (aH aI aJ aL).binds (Sort 1),
   mg_of X G aG,
   ⟨Z,mg_of X G kp⟩,
   ⟨aa,mg_of X G kq⟩,
   ⟨ac,mg_of X G kr⟩,
   mg_of X G kt,
   awN ku kv kw kx ky,
   ⟨ad,mg_of X G kz⟩,
   ⟨ae,mg_of X G kA⟩,
   mg_none_of X G kB,
   mg_none_of X G kC,
   mg_none_of X G kD,
   mg_none_of X G kE,
   mg_none_of X G kF,
   mg_none_of X G kG,
   mg_none_of X G kH,
   mg_none_of X G kI,
   mg_none_of X G kJ⟩
  exact⟨_,λs v=>.of_eq rfl,λbase _ _=>ayN T⟩
end
theorem walk{l:PySem.W.OpenLaw}{q:Program}{loose:List Str}{XP:(Str->Option Value)->Heap->Prop}{YP:World->Heap->Prop}{d:DefRec}{K:Params->Frag}(J:l.most=some 63)(hdf:d.params.defaults=[])
 (L:∀(w:World) (h:Heap),YP w h->(K w.params).In h)
 (F:∀(w:World) (mg:Str->Option Value) (I:Addr) (h:Heap),(K w.params).In h->h.Ns mainGlobals mg->mg d.name=some (.ref I)->
   ∃fd:FuncData,(∀(s:Shared) (u:Value),BindsTo s fd ⟨[u],[]⟩ [("_law_script",u)])/\∀base:Heap,(K w.params).In base->base.Ns mainGlobals mg->cX l.prog w (K w.params) mg base mW 11 I fd ["_law_script"] (anC (K w.params))) :
 PySem.W.WalkO q loose XP YP l.row.toRowW d [] (λf vs=>PySem.call f vs):=
 L2.asF (n:=63) (k:=11) (x:="_law_script") (CX:=λ_=>mW) (sp:=λw=>anC (K w.params)) J (by decide) hdf ⟨rfl,by decide,by decide⟩ L F (λ_ _ a ns hl _ O=>⟨a,ns,rfl,O,hl,λ_=>rfl⟩) λ_ _ _ _ _ z=>z
end fV
open PySem PySem.W PyProof.Rows
set_option maxRecDepth 100000 in
set_option maxHeartbeats 0 in
theorem PySem.Challenge.cw_copydesks_k04_whole_nobody_waits_for_eve_holds : PySem.Challenge.rw_copydesks_k04_whole_nobody_waits_for_eve.Holds := by
 w_on;refine PySem.W.holds_law H1.said λsaid=>?_
 refine PySem.W.holds_open (r:=PySem.W.OpenLaw.row H1.rw_) (q:=H1.q) (loose:=["RANKS"]) (d:=H1.d) (kwd:=[]) (Xt:=H1.Xt) (XP:=PySem.W.XL H1.q []) (YP:=PySem.W.InK H1.K0.heap_1) H1.hl (PySem.W.InK.of H1.KAe) PySem.W.InK.keeps (λs e=>PySem.W.xl_of s (Bool.and_eq_true_iff.mp e).1) PySem.W.XL.keeps H1.hdef H1.hp H1.hk (λs e=>PySem.W.recFacts_of (Bool.and_eq_true_iff.mp e).2) rfl said H1.ok ⟨rfl,rfl,rfl,rfl,rfl,∅⟩ ?hw ?hc
 (case hw=>w_witness2)
 k_fill
 refine fV.walk (l:=PySem.Challenge.rw_copydesks_k04_whole_nobody_waits_for_eve) rfl H1.hdf (λw h Y=>Y) ?F
 case F=>
  intro w mg fa h KX G hmg
  refine' fV.all_mk KX G hmg ..
  all_goals try first | k_is | kernel_rfl | decide | exact⟨⟨_,_,rfl,rfl⟩,⟨⟨_,_,rfl,rfl⟩,⟨⟨_,_,rfl,rfl⟩,trivial⟩⟩⟩
