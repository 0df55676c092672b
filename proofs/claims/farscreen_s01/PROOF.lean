import PyProof.Rows.All
import Wide.All
import OpenK.AllK
import Wide.FinOn
import PyProof.EqAt
import PyProof.EqKinds
import PyProof.TupleCall
import KE.BitLaws
import KE.OsGo
import PySem.Challenge.RW_farscreen_s01_answers
set_option Elab.async false
set_option linter.all false
set_option maxRecDepth 100000
section
set_option maxHeartbeats 0
namespace Fs
noncomputable section
open PySem PySem.W PyProof.Rows
noncomputable abbrev pw:Program:=PySem.Challenge.pw_farscreen_s01_answers
noncomputable abbrev tbQ:String→Option Builtin:=PySem.W.Fast.tw14364793385576792824
noncomputable def Tv(p:Program)(w:World)(n₀:Nat)(ann:Option Value):Nat→SharedT→Thread→Option SharedT
 | 0,_,_=>none
 | n+1,s,t=>match through t with
  | true=>some s
  | false=>match PySem.W.Fast.tw6613529449190102663 n₀ ann t with
   | false=>none
   | true=>match PySem.W.Fast.tw10156331382660048174 (PySem.W.Fast.tw11892475500146522536 tbQ) p w s t with
    | some (s',t')=>Tv p w n₀ ann n s' t'
    | none=>none
theorem Rq{p:Program}{w:World}{n₀:Nat}{ann:Option Value}:∀ {n:Nat}{s:SharedT}{t:Thread}{r:SharedT},Tv p w n₀ ann n s t=some r→topRun treeTable p w n₀ ann n s.abs t=some r.abs:=by
 intro n
 induction n with
 | zero=>intro s t r h;cases h
 | succ n ih=>
  intro s t r h
  unfold Tv at h
  unfold tbQ at h
  rw[←PySem.W.Fast.te6613529449190102663,←PySem.W.Fast.te10156331382660048174,←PySem.W.Fast.te11892475500146522536,←PySem.W.Fast.te14364793385576792824]at h
  unfold topRun
  cases ht:through t with
  | true=>rw[ht]at h;cases h;rfl
  | false=>
   rw[ht]at h
   cases hs:stepOk n₀ ann t with
   | false=>rw[hs]at h;cases h
   | true=>
    rw[hs]at h
    cases hq:stepT (denote treeTable) p w s t with
    | none=>rw[hq]at h;cases h
    | some x=>
     obtain⟨s',t'⟩:=x
     rw[hq]at h
     dsimp only
     rw[stepT_spec hq]
     exact ih h
noncomputable def tr0(P:Params):BT:=((boot_heap P).objs.toList.foldl (fun(x:BT × Nat)o=>(x.1.ins x.2 o,x.2+1)) (.nil,0)).1
noncomputable def s0T(w:World)(os:OsState):SharedT:=⟨tr0 w.params,(boot_heap w.params).objs.size,(boot_heap w.params).life,#[],boot_drawn,boot_toks,os⟩
theorem Zb:∀P:Params,absHeap (tr0 P) (boot_heap P).objs.size (boot_heap P).life=boot_heap P:=fun P=>by kernel_rfl
noncomputable def su(w:World)(os:OsState):Option SharedT:=Tv pw w (boot_heap w.params).objs.size ((boot_heap w.params).nsMap mainGlobals "__annotations__") 10356 (s0T w os) (topStub pw)
theorem Wl:opening pw=plainProg pw.main.scope.names:=by kernel_rfl
theorem Tw(s:Shared):fenceModules? pw s=some s:=by kernel_rfl
theorem Wm(P:Params):((boot_heap P).isNs mainGlobals&&(#[]:Array GenState).size==0)=true:=by kernel_rfl
noncomputable def Qm(w:World)(t:SharedT):Bool:=staticsOk (importedModules pw.main.body) (boot_heap w.params) t.abs.heap&&namesBound pw t.abs.heap&&gensDone t.abs&&laidKept (boot_heap w.params) t.abs.heap
theorem Tz{p q:Program}{loose:List Str}{Xt:Shared→Bool}{α:Type}{Yf:Shared→α}{Ya:World→α}{N:Nat}{H:Params→Heap}{d:Drawn}{k:Nat}{S:World→OsState→SharedT}
  (op:∀w:World,(fencedOpening treeTable p w N).map (fun s=>(s.heap,s.gens,s.drawn,s.toks))=some (H w.params,#[],d,k))
  (ns:∀P,((H P).isNs mainGlobals&&(#[]:Array GenState).size==0)=true) (hS:∀w os,(S w os).abs=⟨H w.params,#[],d,k,os⟩)
  (h:∀(w:World)(os:OsState),∃t,Tv p w (H w.params).objs.size ((H w.params).nsMap mainGlobals "__annotations__") N (S w os) (topStub p)=some t∧
   (staticsOk (importedModules p.main.body) (H w.params) t.abs.heap&&namesBound p t.abs.heap&&gensDone t.abs&&laidKept (H w.params) t.abs.heap)=true∧openSeen q loose (importedModules p.main.body) Xt true t.abs=openGood q loose∧Yf t.abs=Ya w):LeftO p q loose Xt Yf Ya N:=fun w=>by
 obtain⟨⟨hp,gs,d',k',os⟩,e,e'⟩:=Option.map_eq_some_iff.mp (op w)
 obtain⟨rfl,rfl,rfl,rfl⟩:hp=H w.params∧gs= #[]∧d'=d∧k'=k:=by simpa using e'
 obtain⟨t,h1,h2,h3,h4⟩:=h w os
 have r:=Rq h1
 rw[hS]at r
 have tt:topFrom treeTable p w N ⟨H w.params,#[],d',k',os⟩=some t.abs:=by
  unfold topFrom
  dsimp only
  rw[ns,r]
  show (match staticsOk (importedModules p.main.body) (H w.params) t.abs.heap&&namesBound p t.abs.heap&&gensDone t.abs&&laidKept (H w.params) t.abs.heap with | true=>some t.abs | false=>none)=_
  rw[h2]
 unfold openEnds
 rw[e]
 show (topFrom treeTable p w N _).map _=_
 rw[tt]
 exact congrArg some (Prod.ext h3 h4)
theorem Zc(w:World)(os:OsState):(s0T w os).abs=⟨boot_heap w.params,#[],boot_drawn,boot_toks,os⟩:=by
 unfold s0T SharedT.abs
 rw[Zb]
theorem Wn{q:Program}{loose:List Str}{Xt:Shared→Bool}{α:Type}{Yf:Shared→α}{Ya:World→α}
  (h:∀(w:World)(os:OsState),∃t,su w os=some t∧Qm w t=true∧openSeen q loose (importedModules pw.main.body) Xt true t.abs=openGood q loose∧Yf t.abs=Ya w):LeftO pw q loose Xt Yf Ya 10356:=
 Tz (boot_open Wl rfl Tw) Wm Zc h
noncomputable def outs:List Nat:= [0,2,7,11,15,17,19,25,37,46,55,79,90,101]
noncomputable def qv:Program:= {pw with main:= {pw.main with body:=(pw.main.body.zipIdx.filter fun x=> !outs.contains x.2).map (·.1)} }
noncomputable abbrev Qn:List Str:= ["SIZES"]
noncomputable abbrev mds:List Str:=importedModules pw.main.body
noncomputable abbrev fal(w:World):World:=w.withFollow "special-get-raises" false
noncomputable abbrev tru(w:World):World:=w.withFollow "special-get-raises" true
noncomputable def obA(t:SharedT):=seen ((recsOf qv).map (·.name)) (ownsOf qv) [] {t.abs with gens:= #[]}
noncomputable def obG(w:World)(t:SharedT):=(Qm w t,t.abs.heap.bltView,t.abs.heap.accountedOkI mds&&t.abs.heap.isNs mainGlobals&&t.abs.heap.isNs builtinsNs&&t.abs.gens.size==0,tabsOk qv t.abs,pinSeenD qv (drecsOf qv) t.abs,xlAt qv [] t.abs&&recOk [] t.abs)
noncomputable def goG:=(true,bltViewBooted,true,true,pinGoodD (drecsOf qv),true)
noncomputable def obB(t:SharedT):=(plainSeenE qv (looseW qv Qn) t.abs,plainSeenD qv Qn t.abs,wideSeen qv t.abs,clsSeenW qv Qn t.abs)
noncomputable def goB:=(plainGoodE qv (looseW qv Qn),plainGoodD qv Qn,wideGood qv,clsGoodW qv Qn)
noncomputable def obD(t:SharedT):=tablesOk qv t.abs.heap
noncomputable def obC(t:SharedT):=t.abs.heap.keysOk (looseW qv Qn) ((recsOf qv).map (·.name)) ((litsOf qv).map (·.1)) ((clssOf qv (looseW qv Qn)).map (·.name))
end
end Fs
end
section
set_option maxHeartbeats 0
namespace Fs
open PySem PySem.W PyProof.Rows
theorem adx(w:World)(os:OsState):(su (fal w) os).map (fun t=>(obA t,obD t))=some (expectedOf qv,true):=by kernel_rfl
theorem evG(w:World)(os:OsState):(su (fal w) os).map (obG (fal w))=some goG:=by kernel_rfl
theorem evB(w:World)(os:OsState):(su (fal w) os).map obB=some goB:=by kernel_rfl
theorem evC(w:World)(os:OsState):(su (fal w) os).map obC=some true:=by kernel_rfl
theorem aa7(w:World)(os:OsState):(su (tru w) os).map (fun t=>(obA t,obD t))=some (expectedOf qv,true):=by kernel_rfl
theorem ady(w:World)(os:OsState):(su (tru w) os).map (obG (tru w))=some goG:=by kernel_rfl
theorem adz(w:World)(os:OsState):(su (tru w) os).map obB=some goB:=by kernel_rfl
theorem adA(w:World)(os:OsState):(su (tru w) os).map obC=some true:=by kernel_rfl
end Fs
end
section
namespace L2
open PySem PySem.Spec PyProof.Rows
noncomputable abbrev Key:=Sum Int Str
noncomputable def Aj:Key→Value→Bool
 | .inl k,v=>Value.isInt k v
 | .inr x,v=>Value.isStrOf x v
noncomputable def adB(w:World):Key→Int
 | .inl k=>hashInt k
 | .inr x=>hashStr w x
theorem dM:∀ {k:Key}{v:Value},Aj k v=true→(∃i t,k=Sum.inl i∧v=Value.int i t)∨(∃x t,k=Sum.inr x∧v=Value.str x t)
 | .inl i,v,h=>by
  obtain⟨t,e⟩:=Value.isInt_shape (k:=i) (v:=v) h
  exact .inl ⟨i,t,rfl,e⟩
 | .inr x,v,h=>by
  obtain⟨t,e⟩:=Value.isStrOf_shape (x:=x) (v:=v) h
  exact .inr ⟨x,t,rfl,e⟩
theorem Rr(i:Int)(t:Tok):Aj (.inl i) (.int i t)=true:=by simp[Aj,Value.isInt]
theorem Rt(x:Str)(t:Tok):Aj (.inr x) (.str x t)=true:=by simp[Aj,Value.isStrOf]
theorem Zd(a b:Int):decide ((Sum.inl a:Key)=Sum.inl b)=(a==b):=by
 by_cases e:a=b
 ·subst e;simp
 ·have h:¬(Sum.inl a:Key)=Sum.inl b:=fun q=>e (Sum.inl.inj q)
  rw[decide_eq_false h]
  exact(beq_eq_false_iff_ne.mpr e).symm
theorem Ze(a b:Str):decide ((Sum.inr a:Key)=Sum.inr b)=decide (a=b):=by
 by_cases e:a=b
 ·subst e;simp
 ·have h:¬(Sum.inr a:Key)=Sum.inr b:=fun q=>e (Sum.inr.inj q)
  rw[decide_eq_false h,decide_eq_false e]
theorem Zf(a:Int)(b:Str):decide ((Sum.inl a:Key)=Sum.inr b)=false:=decide_eq_false (fun q=>nomatch q)
theorem Zg(a:Str)(b:Int):decide ((Sum.inr a:Key)=Sum.inl b)=false:=decide_eq_false (fun q=>nomatch q)
noncomputable def dI(prog:Program)(w:World):PySem.KeyKind prog w Key where
 is:=Aj
 hash:=adB w
 inj:=fun v a b ha hb=>by
  rcases dM ha with ⟨i,t,rfl,rfl⟩ | ⟨x,t,rfl,rfl⟩
  ·rcases dM hb with ⟨j,u,rfl,e⟩ | ⟨y,u,rfl,e⟩
   ·injection e with e1 _;rw[e1]
   ·exact nomatch e
  ·rcases dM hb with ⟨j,u,rfl,e⟩ | ⟨y,u,rfl,e⟩
   ·exact nomatch e
   ·injection e with e1 _;rw[e1]
 byValue:=fun k v h=>by
  rcases dM h with ⟨i,t,rfl,rfl⟩ | ⟨x,t,rfl,rfl⟩<;>rfl
 pyHash:=fun hv h=>by
  rcases dM hv with ⟨i,t,rfl,rfl⟩ | ⟨x,t,rfl,rfl⟩
  ·exact wpAny_pyHash_int h
  ·exact wpAny_pyHash_str h
 eqBool:=fun hu hv h=>by
  rcases dM hu with ⟨i,t,rfl,rfl⟩ | ⟨x,t,rfl,rfl⟩
  ·rcases dM hv with ⟨j,u,rfl,rfl⟩ | ⟨y,u,rfl,rfl⟩
   ·rw[Zd]at h;exact wpAny_eqBool_int h
   ·rw[Zf]at h;exact SeqAt.EqAt.int_str i t y u _ _ _ _ h
  ·rcases dM hv with ⟨j,u,rfl,rfl⟩ | ⟨y,u,rfl,rfl⟩
   ·rw[Zg]at h;exact SeqAt.EqAt.str_int x t j u _ _ _ _ h
   ·rw[Ze]at h;exact wpAny_eqBool_str h
 «strs» :=fun k x t v h=>by
  rcases dM h with ⟨i,u,rfl,e⟩ | ⟨y,u,rfl,e⟩
  ·exact nomatch e
  ·injection e with e1 _
   subst e1
   cases v<;>rfl
theorem Kd(prog:Program)(w:World)(i:Int)(t:Tok):(dI prog w).is (.inl i) (.int i t)=true:=Rr i t
theorem Ke(prog:Program)(w:World)(x:Str)(t:Tok):(dI prog w).is (.inr x) (.str x t)=true:=Rt x t
end L2
namespace L2
open PySem PySem.Spec PyProof.Rows
inductive V where
 | non | bl (b:Bool) | int (i:Int) | str (x:Str) | Qo (b:Array UInt8) | flt (b:UInt64) | ref (a:Addr) | ty (n:String)
 deriving DecidableEq
noncomputable def RelV:V→Value→Prop
 | .non,u=>u=Value.none
 | .bl b,u=>u=Value.bool b
 | .int i,u=>∃t,u=Value.int i t
 | .str x,u=>∃t,u=Value.str x t
 | .Qo b,u=>∃t,u=Value.bytes b t
 | .flt b,u=>∃t,u=Value.float b t
 | .ref a,u=>u=Value.ref a
 | .ty n,u=>u=Value.type n
noncomputable abbrev Vals:List V→List Value→Prop:=Paired RelV
theorem Vals.length {xs:List V} {us:List Value} (r:Vals xs us):xs.length=us.length:=Paired.length r
theorem Vals.get:∀ {xs:List V}{us:List Value}{i:Nat}{x:V},Vals xs us→xs[i]? =some x→∃u,us[i]? =some u∧RelV x u
 | _,_,_,_,.nil,e=>by simp at e
 | _,_,0,_,.cons r _,e=>by simp at e;subst e;exact⟨_,rfl,r⟩
 | _,_,i+1,x,.cons _ t,e=>by
  obtain⟨u,h1,h2⟩:=Vals.get (i:=i) (x:=x) t (by simpa using e)
  exact⟨u,by simpa using h1,h2⟩
theorem Vals.set {x:V} {u:Value} (r:RelV x u):∀ {xs:List V}{us:List Value}(i:Nat),Vals xs us→Vals (xs.set i x) (us.set i u)
 | _,_,_,.nil=> .nil
 | _,_,0,.cons _ t=> .cons r t
 | _,_,i+1,.cons q t=> .cons q (Vals.set r i t)
theorem Vals.append:∀ {xs ys:List V}{us ws:List Value},Vals xs us→Vals ys ws→Vals (xs++ys) (us++ws)
 | _,_,_,_,.nil,s=>s
 | _,_,_,_,.cons r t,s=> .cons r (Vals.append t s)
theorem Vals.take:∀ {xs:List V}{us:List Value}(n:Nat),Vals xs us→Vals (xs.take n) (us.take n)
 | _,_,0,_=> .nil
 | _,_,_+1,.nil=> .nil
 | _,_,n+1,.cons r t=> .cons r (Vals.take n t)
theorem Vals.drop:∀ {xs:List V}{us:List Value}(n:Nat),Vals xs us→Vals (xs.drop n) (us.drop n)
 | _,_,0,r=>r
 | _,_,_+1,.nil=> .nil
 | _,_,n+1,.cons _ t=>Vals.drop n t
noncomputable def sE:Option V→Option Value→Prop
 | some v,some u=>RelV v u
 | none,none=>True
 | _,_=>False
noncomputable def KV{κ:Type}:List (κ × V)→List (κ × Value)→Prop:=Paired fun(p:κ × V)(q:κ × Value)=>p.1=q.1∧RelV p.2 q.2
noncomputable def kV:Key→V
 | .inl i=> .int i
 | .inr x=> .str x
inductive HO where
 | lst (xs:List V)
 | tup (xs:List V)
 | dK (kvs:List (Key × V)) | dT (kvs:List (List Key × V))
 | set (S:Int→Bool) (n:Nat)
 | ins (C dx:Addr) (fs:List (Str × V))
 | own (x:Addr)
 | xd (fs:List (Str × V))
 | met (f x:Addr)
 | rng (lo hi:Int)
 | vB (o:Obj) (u:HO)
 | Zh (ps:Array Value)
 | ext (φ:Heap→Prop)
noncomputable abbrev Hp:=Addr→Option HO
noncomputable def upd(H:Hp)(a:Addr)(o:HO):Hp:=fun b=>if b=a then some o else H b
theorem aj{H:Hp}{a:Addr}{o:HO}:upd H a o a=some o:=by unfold upd;rw[if_pos rfl]
theorem bF{H:Hp}{a b:Addr}{o:HO}(h:b≠a):upd H a o b=H b:=by unfold upd;rw[if_neg h]
theorem bM{H:Hp}{a:Addr}{o u:HO}:upd (upd H a o) a u=upd H a u:=by
 funext b;unfold upd;split<;>rfl
theorem aN{H:Hp}{a b:Addr}{o u:HO}(h:H a=some o)(h':H b=some u)(d:o≠u):a≠b:=by
 intro e;subst e;rw[h]at h';exact d (Option.some.inj h')
theorem ao{H:Hp}{a b:Addr}{o:HO}(h:H a=some o)(h':H b=none):a≠b:=by
 intro e;subst e;rw[h]at h';cases h'
section
variable(P:Program)(w:World)
noncomputable def fJ(H:Hp)(h:Heap)(a:Addr):HO→Prop
 | .lst xs=>xs.length≤sizeLine∧∃(its:List Value)(n:Nat),Vals xs its∧h.get? a=some {cls:= .type "list",data:= .seq its.toArray n}
 | .tup xs=>xs.length≤sizeLine∧∃its:List Value,Vals xs its∧IsTup h a its.toArray
 | .dK kvs=>kvs.length≤sizeLine∧(a==sysModules)=false∧∃vs,KV kvs vs∧h.DictOf (dI P w) a vs
 | .dT kvs=>kvs.length≤sizeLine∧(a==sysModules)=false∧∃xs:List (List Key × Addr × Value),
  Paired (fun(p:List Key × V)(q:List Key × Addr × Value)=>p.1=q.1∧H q.2.1=some (.tup (p.1.map kV))∧RelV p.2 q.2.2) kvs xs∧
  ∃o es ep,h.get? a=some o∧o.ExactDict∧o.data= .dict es ep∧es.toList=xs.map (entryOfKey (tupleKind (dI P w)))∧(xs.map (·.1)).Nodup
 | .set S n=>h.SetOf (intKind P w) a S n
 | .ins C dx fs=>H dx=some (.own a)∧fs.length≤1000∧dx≠a∧h.get? a=some (PySem.W.instObj C dx)∧
  ∃mA,h.Ns1 dx mA∧(∀f,sE (fs.lookup f) (mA f))∧PySem.Within mA (fs.map (·.1))
 | .own _=>∃o,h.get? a=some o
 | .xd fs=>∃mA,h.Ns1 a mA∧∀f,sE (fs.lookup f) (mA f)
 | .rng lo hi=>∃t u v,h.get? a=some {cls:= .type "range",data:= .fields #[.int lo t,.int hi u,.int 1 v]}
 | .vB o u=>h.get? a=some o∧fJ H h a u
 | .Zh ps=>h.get? a=some {cls:= .none,data:= .fields ps}
 | .met f x=>h.get? a=some (PySem.W.methodObj (.ref f) (.ref x))
 | .ext φ=>φ h∧(∃o,h.get? a=some o)∧∀h1 h2:Heap,φ h1→(∀o,h1.get? a=some o→h2.get? a=some o)→φ h2
noncomputable def vC(H:Hp)(h:Heap):Prop:=∀a o,H a=some o→fJ P w H h a o
end
section
variable{P:Program}{w:World}{H H':Hp}{h h':Heap}{a:Addr}{o:HO}
theorem fJ.lt (x:fJ P w H h a o):a<h.objs.size:=by
 cases o with
 | lst xs=>obtain⟨_,_,_,_,e⟩:=x;exact Heap.lt_size e
 | tup xs=>obtain⟨_,_,_,p⟩:=x;exact p.lt
 | dK kvs=>obtain⟨_,_,_,_,o,_,_,e,_⟩:=x;exact Heap.lt_size e
 | dT kvs=>obtain⟨_,_,_,_,o,_,_,e,_⟩:=x;exact Heap.lt_size e
 | set S n=>obtain⟨o,_,_,_,e,_⟩:=x;exact Heap.lt_size e
 | ins C dx fs=>obtain⟨_,_,_,e,_⟩:=x;exact Heap.lt_size e
 | own y=>obtain⟨_,e⟩:=x;exact Heap.lt_size e
 | xd fs=>obtain⟨_,⟨_,_,_,e,_⟩,_⟩:=x;exact Heap.lt_size e
 | rng lo hi=>obtain⟨_,_,_,e⟩:=x;exact Heap.lt_size e
 | vB ob u=>obtain⟨e,_⟩:=x;exact Heap.lt_size e
 | Zh ps=>exact Heap.lt_size (show h.get? a=some _ from x)
 | met f y=>exact Heap.lt_size (show h.get? a=some _ from x)
 | ext φ=>obtain⟨_,⟨_,e⟩,_⟩:=x;exact Heap.lt_size e
theorem Paired.Zi {α β:Type} {F G:α→β→Prop}:∀ {l₁:List α}{l₂:List β},Paired F l₁ l₂→(∀a b,F a b→G a b)→Paired G l₁ l₂
 | _,_,.nil,_=> .nil
 | _,_,.cons r t,f=> .cons (f _ _ r) (Paired.Zi t f)
theorem fJ.stay (x:fJ P w H h a o) (k:∀b u,(b=a∨H b=some (.own a))→h.get? b=some u→h'.get? b=some u)
  (ho:∀b,H b=some (.own a)→H' b=some (.own a)) (ht:∀b xs,H b=some (.tup xs)→H' b=some (.tup xs)):fJ P w H' h' a o:=by
 induction o with
 | lst xs=>obtain⟨z,its,n,r,e⟩:=x;exact⟨z,its,n,r,k _ _ (.inl rfl) e⟩
 | tup xs=>obtain⟨z,its,r,ob,e,c⟩:=x;exact⟨z,its,r,ob,k _ _ (.inl rfl) e,c⟩
 | dK kvs=>obtain⟨z,y,vs,r,ob,es,ep,e,c⟩:=x;exact⟨z,y,vs,r,ob,es,ep,k _ _ (.inl rfl) e,c⟩
 | dT kvs=>
  obtain⟨z,y,xs,r,ob,es,ep,e,c⟩:=x
  exact⟨z,y,xs,Paired.Zi r fun p q z=>⟨z.1,ht _ _ z.2.1,z.2.2⟩,ob,es,ep,k _ _ (.inl rfl) e,c⟩
 | set S n=>obtain⟨ob,es,ep,t,e,c⟩:=x;exact⟨ob,es,ep,t,k _ _ (.inl rfl) e,c⟩
 | ins C dx fs=>
  obtain⟨d,z,ne,e,mA,⟨od,es,ep,e2,c⟩,r⟩:=x
  exact⟨ho _ d,z,ne,k _ _ (.inl rfl) e,mA,⟨od,es,ep,k _ _ (.inr d) e2,c⟩,r⟩
 | own y=>obtain⟨ob,e⟩:=x;exact⟨ob,k _ _ (.inl rfl) e⟩
 | xd fs=>obtain⟨mA,⟨od,es,ep,e,c⟩,r⟩:=x;exact⟨mA,⟨od,es,ep,k _ _ (.inl rfl) e,c⟩,r⟩
 | rng lo hi=>obtain⟨t,u,v,e⟩:=x;exact⟨t,u,v,k _ _ (.inl rfl) e⟩
 | vB ob u ih=>obtain⟨e,q⟩:=x;exact⟨k _ _ (.inl rfl) e,ih q⟩
 | Zh ps=>
  have e:h.get? a=some {cls:= .none,data:= .fields ps}:=x
  show h'.get? a=some {cls:= .none,data:= .fields ps}
  exact k a _ (.inl rfl) e
 | met f y=>
  have e:h.get? a=some (PySem.W.methodObj (.ref f) (.ref y)):=x
  show h'.get? a=some (PySem.W.methodObj (.ref f) (.ref y))
  exact k a _ (.inl rfl) e
 | ext φ=>obtain⟨p,⟨o,e⟩,st⟩:=x;exact⟨st _ _ p fun o q=>k _ _ (.inl rfl) q,⟨o,k _ _ (.inl rfl) e⟩,st⟩
theorem vC.lt (x:vC P w H h) (e:H a=some o):a<h.objs.size:=(x a o e).lt
theorem vC.fresh (x:vC P w H h) (e:h.objs.size≤a):H a=none:=by
 cases q:H a with
 | none=>rfl
 | some u=>exact absurd (Nat.lt_of_lt_of_le (x.lt q) e) (Nat.lt_irrefl _)
theorem vC.kept (x:vC P w H h) (k:∀b u,h.get? b=some u→h'.get? b=some u):vC P w H h':=fun a o e=>
 (x a o e).stay (fun b u _ q=>k b u q) (fun _ q=>q) fun _ _ q=>q
theorem vC.laid (x:vC P w H h) (k:∀b u,h.get? b=some u→h'.get? b=some u) (hp:h.objs.size≤a) (new:fJ P w (upd H a o) h' a o):vC P w (upd H a o) h':=fun b u e=>by
 have hn:=x.fresh hp
 by_cases hb:b=a
 ·subst hb;rw[aj]at e;cases e;exact new
 ·rw[bF hb]at e
  exact(x b u e).stay (fun c v _ q=>k c v q) (fun c q=>by rw[bF (ao q hn)];exact q) fun c xs q=>by rw[bF (ao q hn)];exact q
end
noncomputable def Rd(H:Hp)(a:Addr)(u:HO):Prop:=H a=some u∨∃o,H a=some (.vB o u)
theorem Rd.ok {P:Program} {w:World} {H:Hp} {h:Heap} {a:Addr} {u:HO} (r:Rd H a u) (x:vC P w H h):fJ P w H h a u:=by
 rcases r with r | ⟨o,r⟩
 ·exact x a u r
 ·obtain⟨_,q⟩:=x a _ r
  exact q
noncomputable def Yd:Option HO→Prop
 | some (.lst _)=>True
 | some (.dK _)=>True
 | some (.dT _)=>True
 | some (.set _ _)=>True
 | some (.ins _ _ _)=>True
 | some (.ext _)=>True
 | _=>False
section
variable{P:Program}{w:World}{H:Hp}{h h':Heap}{x e:Addr}{o':HO}
theorem vC.write (ok:vC P w H h) (mu:Yd (H x)) (he:e=x∨H e=some (.own x)) (k:∀b u,b≠e→h.get? b=some u→h'.get? b=some u) (heo:∃u,h'.get? e=some u)
  (new:fJ P w (upd H x o') h' x o'):vC P w (upd H x o') h':=fun b u q=>by
 have aa8:∀c y,H c=some (.own y)→c≠x:=fun c y r z=>by subst z;rw[r]at mu;exact mu
 have adD:∀c xs,H c=some (.tup xs)→c≠x:=fun c xs r z=>by subst z;rw[r]at mu;exact mu
 by_cases hb:b=x
 ·subst hb;rw[aj]at q;cases q;exact new
 ·rw[bF hb]at q
  by_cases hbe:b=e
  ·have q':H b=some (.own x):=by
    rcases he with z | z
    ·exact absurd (hbe.trans z) hb
    ·rw[hbe];exact z
   rw[q]at q';cases q'
   obtain⟨v,hv⟩:=heo
   exact⟨v,by rw[hbe];exact hv⟩
  ·refine(ok b u q).stay (fun c v hc r=>k c v ?_ r) (fun c r=>by rw[bF (aa8 c b r)];exact r) fun c xs r=>by rw[bF (adD c xs r)];exact r
   rcases hc with rfl | hc
   ·exact hbe
   ·rintro rfl
    rcases he with z | z
    ·exact aa8 c b hc z
    ·rw[hc]at z;cases z;exact hb rfl
end
structure Un(fs ex:List Addr)(H H':Hp)(h h':Heap):Prop where
 keep:∀b o,h.get? b=some o→H b=none→b ∉ fs→b ∉ ex→h'.get? b=some o
 slot:∀b o,h.get? b=some o→H b=none→b ∈ fs→b ∉ ex→∃sl,h'.get? b=some {o with slots:=sl}
 free:∀b o,h.get? b=some o→H b=none→b ∉ ex→H' b=none
 there:∀b o,h.get? b=some o→b ∉ ex→∃o',h'.get? b=some o'
 tups:∀b xs,H b=some (.tup xs)→H' b=some (.tup xs)
 CG:∀b o u,H b=some (.vB o u)→H' b=some (.vB o u)
 Iz:∀b ps,H b=some (.Zh ps)→∃more,H' b=some (.Zh (ps++more))
section
variable{fs fs' ex ex':List Addr}{H H1 H2:Hp}{h h1 h2 h':Heap}{a x e:Addr}{o:HO}
theorem Un.any (u:Un fs ex H H1 h h1) {b:Addr} {ob:Obj} (q:h.get? b=some ob) (n:H b=none) (hx:b ∉ ex):∃sl,h1.get? b=some {ob with slots:=sl}:=by
 by_cases hb:b ∈ fs
 ·exact u.slot b ob q n hb hx
 ·exact⟨ob.slots,u.keep b ob q n hb hx⟩
theorem Un.kept (k:∀b u,h.get? b=some u→h'.get? b=some u):Un fs ex H H h h':=
 ⟨fun b ob q _ _ _=>k b ob q,fun b ob q _ _ _=>⟨ob.slots,k b ob q⟩,fun _ _ _ n _=>n,fun b ob q _=>⟨ob,k b ob q⟩,fun _ _ q=>q,fun _ _ _ q=>q,fun _ ps q=>⟨#[],by rw[q];simp⟩⟩
theorem Un.refl:Un fs ex H H h h:=Un.kept fun _ _ q=>q
theorem Un.laid (k:∀b u,h.get? b=some u→h'.get? b=some u) (hp:h.objs.size≤a) (hn:H a=none):Un fs ex H (upd H a o) h h' where
 keep:=fun b u q _ _ _=>k b u q
 slot:=fun b u q _ _ _=>⟨u.slots,k b u q⟩
 free:=fun b u q n _=>by rw[bF (Nat.ne_of_lt (Nat.lt_of_lt_of_le (Heap.lt_size q) hp))];exact n
 there:=fun b u q _=>⟨u,k b u q⟩
 tups:=fun b xs q=>by rw[bF (ao q hn)];exact q
 CG:=fun b u xs q=>by rw[bF (ao q hn)];exact q
 Iz:=fun b ps q=>⟨#[],by rw[bF (ao q hn),q];simp⟩
theorem Un.write (mu:Yd (H x)) (he:e=x∨H e=some (.own x)) (k:∀b u,b≠e→h.get? b=some u→h'.get? b=some u) (heo:∃u,h'.get? e=some u):Un fs ex H (upd H x o) h h':=by
 have hx:∀b,H b=none→b≠x:=fun b n z=>by subst z;rw[n]at mu;exact mu
 have hb:∀b,H b=none→b≠e:=fun b n z=>by
  subst z
  rcases he with r | r
  ·exact hx b n r
  ·rw[n]at r;cases r
 have hm:∀b u,H b=some u→¬Yd (some u)→b≠x:=fun b u q nm z=>by subst z;rw[q]at mu;exact nm mu
 refine⟨fun b u q n _ _=>k b u (hb b n) q,fun b u q n _ _=>⟨u.slots,k b u (hb b n) q⟩,fun b u q n _=>by rw[bF (hx b n)];exact n,fun b u q _=> ?_,
  fun b xs q=>by rw[bF (hm b _ q fun z=>z)];exact q,fun b u xs q=>by rw[bF (hm b _ q fun z=>z)];exact q,fun b ps q=>⟨#[],by rw[bF (hm b _ q fun z=>z),q];simp⟩⟩
 by_cases hbe:b=e
 ·subst hbe;exact heo
 ·exact⟨u,k b u hbe q⟩
end
noncomputable def trk(h:Heap)(H:Hp):List Addr:=(List.range h.objs.size).filter fun a=>(H a).isSome
noncomputable def IK(h:Heap)(H:Hp):Heap:=PySem.W.hideAll h (trk h H)
theorem Ru(h:Heap)(H:Hp):(IK h H).objs.size=h.objs.size:=PySem.W.hideAll_size _ _
theorem TF{h:Heap}{H:Hp}{b:Addr}{o:Obj}(e:h.get? b=some o)(n:H b=none):(IK h H).get? b=some o:=
 PySem.W.hideAll_get _ e fun hm=>by
  have q:(H b).isSome=true:=(List.mem_filter.mp hm).2
  rw[n]at q;simp at q
theorem Wo{h:Heap}{H:Hp}{b:Addr}{o:Obj}(e:(IK h H).get? b=some o):h.get? b=some o∧H b=none:=by
 have e':h.get? b=some o:=PySem.W.of_hideAll (trk h H) e
 refine⟨e',?_⟩
 cases q:H b with
 | none=>rfl
 | some x=>
  have hm:b ∈ trk h H:=List.mem_filter.mpr ⟨List.mem_range.mpr (Heap.lt_size e'),by simp[q]⟩
  have z:(IK h H).get? b=none:=PySem.W.hideAll_none (trk h H) hm
  rw[z]at e;cases e
noncomputable def Wq(g h:Heap)(L:Addr):List (Addr × Obj):=(List.range h.objs.size).filterMap fun a=>if a=L∨(g.get? a).isSome=true then none else (h.get? a).map fun o=>(a,o)
noncomputable def rest(g h:Heap)(L d:Addr):List (Addr × Obj):=(Wq g h L).filter fun p=>decide (p.1≠d)
end L2
namespace L2
open PySem PySem.Spec PyProof.Rows
structure Mod(K:PySem.W.Frag)(mg:Str→Option Value)(base:Heap):Prop where
 kin:K.In base
 glob:base.Ns mainGlobals mg
 blt:∃mb,base.Ns builtinsNs mb∧∀x:Str,x≠ "__name__" →mb x=bootBuiltins x
 nolimit:base.NoLimit
structure Cx where
 prog:Program
 w:World
 K:PySem.W.Frag
 mg:Str→Option Value
 base:Heap
 A:Around
 N:List Str
 s₀:Shared
 H₀:Hp
 env:Env
 outer:List Env
 stack:List Env
 ex:List Addr
 fn:Str→Bool
 calm:Bool
 pn:List (Addr × Obj)
 xe:Value→Shared→Prop
noncomputable def frs(l:List Env):List Addr:=l.filterMap (·.frame)
noncomputable abbrev Cx.fs (X:Cx):List Addr:=frs X.outer
noncomputable def Vis(sc:Scope)(x:Str):Prop:=sc.names.lookup x=some .local∨sc.names.lookup x=some .cell∨sc.names.lookup x=some .free
noncomputable def Loc(sc:Scope)(x:Str):Prop:=sc.names.lookup x=some .local∨sc.names.lookup x=some .cell
noncomputable def Look(env:Env)(h:Heap)(m:Str→Option Value)(x:Str)(u:Value):Prop:=
 (env.kindOf x=some .local∧m x=some u)∨((env.kindOf x=some .cell∨env.kindOf x=some .free)∧∃c,env.cells.lookup x=some c∧h.IsCell c (some u))
structure Cx.Ok (X:Cx):Prop where
 mod:Mod X.K X.mg X.base
 kind:X.env.scope.kind= .function
 glob:X.env.globals=mainGlobals
 blt:X.env.builtins=builtinsNs
 above:X.s₀.heap.objs.size≤X.env.locals
 inj:∀x y c,X.env.cells.lookup x=some c→X.env.cells.lookup y=some c→x=y
 has:∀x,(X.env.kindOf x=some .cell∨X.env.kindOf x=some .free)→∃c,X.env.cells.lookup x=some c
 cab:∀x c,X.fn x=true→X.env.cells.lookup x=some c→X.s₀.heap.objs.size≤c
 hd:X.calm=true→X.A.handled=none
 frames:X.A.frames=some X.stack
 stk:X.stack=X.outer∨(X.stack=X.env::X.outer∧X.env.frame=some X.env.locals)
 exf:∀b ∈ X.ex,b≠X.env.locals∧∀x c,X.env.cells.lookup x=some c→c≠b
 bs:∀b o,X.base.get? b=some o→X.s₀.heap.get? b=some o∧X.H₀ b=none
 Wr:X.base.objs.size≤X.s₀.heap.objs.size
 TJ:∀b o,X.base.get? b=some o→b ∉ X.ex
 TQ:∀b ∈ X.ex,b ∉ X.fs
 BL:X.s₀.heap.FunFrames X.base X.outer
 Zj:∀b ∈ X.fs,X.H₀ b=none
structure Inv(X:Cx)(pins:List (Addr × Obj))(σ:List (Option V))(H:Hp)(s:Shared):Prop where
 ok:X.Ok
 os:s.os=X.s₀.os
 bare:AllBare s.gens
 base:Un X.fs X.ex X.H₀ H X.s₀.heap s.heap
 loc:∃m,s.heap.Ns X.env.locals m∧∀(i:Nat)(x:Str)(v:V),X.N[i]? =some x→σ[i]? =some (some v)→Vis X.env.scope x→∃u,RelV v u∧Look X.env s.heap m x u
 cell:∀x c,X.env.cells.lookup x=some c→∃v,s.heap.IsCell c v
 free:H X.env.locals=none
 pG:∀x c,X.env.cells.lookup x=some c→H c=none
 pin:∀p ∈ X.pn++pins,s.heap.get? p.1=some p.2∧H p.1=none∧p.1≠X.env.locals∧p.1 ∉ X.fs∧∀v,p.2.data≠ .cell v
 hok:vC X.prog X.w H s.heap
 len:σ.length=X.N.length
section
variable{X:Cx}{pins:List (Addr × Obj)}{σ:List (Option V)}{H H':Hp}{s:Shared}{h':Heap}
theorem Cx.Ok.adE (ok:X.Ok) {b:Addr} {o:Obj} (e:X.base.get? b=some o):b ∉ X.fs:=fun hb=>by
 have:=(ok.BL.mem hb).1
 rw[e]at this;cases this
theorem Inv.bs (I:Inv X pins σ H s):∀b o,X.base.get? b=some o→s.heap.get? b=some o∧H b=none:=fun b o e=>
 ⟨I.base.keep b o (I.ok.bs b o e).1 (I.ok.bs b o e).2 (I.ok.adE e) (I.ok.TJ b o e),I.base.free b o (I.ok.bs b o e).1 (I.ok.bs b o e).2 (I.ok.TJ b o e)⟩
theorem Inv.bk (I:Inv X pins σ H s):∀b o,X.base.get? b=some o→s.heap.get? b=some o:=fun b o e=>(I.bs b o e).1
theorem Inv.mod (I:Inv X pins σ H s):Mod X.K X.mg X.base:=I.ok.mod
theorem Inv.Kf (I:Inv X pins σ H s):X.K.In s.heap:=I.ok.mod.kin.keeps I.bk
theorem Inv.lt (I:Inv X pins σ H s):X.env.locals<s.heap.objs.size:=let ⟨_,hn,_⟩:=I.loc;hn.lt
theorem Inv.sz (I:Inv X pins σ H s):X.s₀.heap.objs.size≤s.heap.objs.size:=Nat.le_trans I.ok.above (Nat.le_of_lt I.lt)
theorem Inv.adF (I:Inv X pins σ H s) {a:Addr} (h:s.heap.objs.size≤a):a ∉ X.fs:=fun hb=>by
 obtain⟨_,o,ho,_⟩:=I.ok.BL.mem hb
 exact absurd (Nat.lt_of_lt_of_le (Heap.lt_size ho) (Nat.le_trans I.sz h)) (Nat.lt_irrefl _)
theorem Inv.Zk (I:Inv X pins σ H s):∀x c,X.env.cells.lookup x=some c→c≠X.env.locals:=fun x c e z=>by
 obtain⟨v,o,ho,hd⟩:=I.cell x c e
 obtain⟨m,⟨o',es,ep,ho',hd',_⟩,_⟩:=I.loc
 rw[z,ho']at ho;cases ho;rw[hd']at hd;cases hd
theorem Inv.BL (I:Inv X pins σ H s):s.heap.FunFrames X.base X.outer:=by
 have all:∀(l:List Env),(∀b ∈ frs l,b ∈ X.fs)→X.s₀.heap.FunFrames X.base l→s.heap.FunFrames X.base l:=by
  intro l
  induction l with
  | nil=>intro _ _;trivial
  | cons env r ih=>
   intro hs hl
   obtain⟨hk,⟨L,o,hf,hn,ho,hd⟩,hr⟩:=hl
   have hL:L ∈ X.fs:=hs L (by unfold frs;rw[List.filterMap_cons,hf];exact List.mem_cons_self)
   obtain⟨sl,e⟩:=I.base.slot L o ho (I.ok.Zj L hL) hL fun z=>I.ok.TQ L z hL
   exact⟨hk,⟨L,_,hf,hn,e,hd⟩,ih (fun b hb=>hs b (by unfold frs;rw[List.filterMap_cons,hf];exact List.mem_cons_of_mem _ hb)) hr⟩
 exact all X.outer (fun _ hb=>hb) I.ok.BL
theorem Inv.stack (I:Inv X pins σ H s):s.heap.FunFrames X.base X.stack:=by
 rcases I.ok.stk with e | ⟨e,hf⟩
 ·rw[e];exact I.BL
 ·rw[e]
  obtain⟨m,hn,_⟩:=I.loc
  refine .cons (by rw[I.ok.kind];decide) hf hn ?_ I.BL
  exact Heap.get?_none_of_le (Nat.le_trans I.ok.Wr I.ok.above)
theorem Inv.Nv (I:Inv X pins σ H s):∀b ∈ frs X.stack,b ∈ X.env.locals::X.fs:=fun b hb=>by
 rcases I.ok.stk with e | ⟨e,hf⟩
 ·rw[e]at hb;exact List.mem_cons_of_mem _ hb
 ·rw[e]at hb
  unfold frs at hb
  rw[List.filterMap_cons,hf]at hb
  exact hb
theorem Inv.Qp (I:Inv X pins σ H s):∀b ∈ frs X.stack,H b=none:=fun b hb=>by
 rcases List.mem_cons.mp (I.Nv b hb)with e | hb
 ·rw[e];exact I.free
 ·obtain⟨_,o,ho,_⟩:=I.ok.BL.mem hb
  exact I.base.free b o ho (I.ok.Zj b hb) fun z=>I.ok.TQ b z hb
theorem Inv.step {g':Array GenState} {t':Nat} {d':Drawn} {ch:List Addr} (I:Inv X pins σ H s)
  (hch:∀b ∈ ch,(b ∈ X.ex∨X.s₀.heap.objs.size≤b)∧b≠X.env.locals∧(∀x c,X.env.cells.lookup x=some c→c≠b)∧∀p ∈ X.pn++pins,p.1≠b)
  (keep:∀b o,b≠X.env.locals→b ∉ X.fs→b ∉ ch→s.heap.get? b=some o→H b=none→h'.get? b=some o)
  (slot:∀b o,b≠X.env.locals→b ∈ X.fs→b ∉ ch→s.heap.get? b=some o→H b=none→∃sl,h'.get? b=some {o with slots:=sl}) (free:∀b o,b ∉ ch→s.heap.get? b=some o→H b=none→H' b=none)
  (there:∀b o,b ∉ ch→s.heap.get? b=some o→∃o',h'.get? b=some o')
  (tups:∀b xs,H b=some (.tup xs)→H' b=some (.tup xs)) (CG:∀b o u,H b=some (.vB o u)→H' b=some (.vB o u)) (Iz:∀b ps,H b=some (.Zh ps)→∃more,H' b=some (.Zh (ps++more)))
  (ns:∀m,s.heap.Ns X.env.locals m→h'.Ns X.env.locals m) (hok:vC X.prog X.w H' h') (hg:AllBare g'):
  Inv X pins σ H' {s with heap:=h',gens:=g',drawn:=d',toks:=t'}:=by
 have neL:∀b o,X.s₀.heap.get? b=some o→b≠X.env.locals:=fun b o e=>Nat.ne_of_lt (Nat.lt_of_lt_of_le (Heap.lt_size e) I.ok.above)
 have neC:∀b o,X.s₀.heap.get? b=some o→b ∉ X.ex→b ∉ ch:=fun b o e hx hb=>by
  rcases (hch b hb).1 with z | z
  ·exact hx z
  ·exact absurd (Nat.lt_of_lt_of_le (Heap.lt_size e) z) (Nat.lt_irrefl _)
 have cellK:∀x c,X.env.cells.lookup x=some c→∀v,s.heap.IsCell c v→h'.IsCell c v:=fun x c e v ⟨o,ho,hd⟩=>by
  have nch:c ∉ ch:=fun z=>(hch c z).2.2.1 x c e rfl
  by_cases hc:c ∈ X.fs
  ·obtain⟨sl,q⟩:=slot c o (I.Zk x c e) hc nch ho (I.pG x c e)
   exact⟨_,q,hd⟩
  ·exact⟨o,keep c o (I.Zk x c e) hc nch ho (I.pG x c e),hd⟩
 refine⟨I.ok,I.os,hg,⟨fun b o e n hb hx=> ?_,fun b o e n hb hx=> ?_,fun b o e n hx=> ?_,fun b o e hx=> ?_,fun b xs e=>tups b xs (I.base.tups b xs e),fun b o xs e=>CG b o xs (I.base.CG b o xs e),fun b ps e=> ?_⟩,?_,fun x c e=> ?_,?_,fun x c e=> ?_,fun p hp=> ?_,hok,I.len⟩
 ·exact keep b o (neL b o e) hb (neC b o e hx) (I.base.keep b o e n hb hx) (I.base.free b o e n hx)
 ·obtain⟨sl,e1⟩:=I.base.slot b o e n hb hx
  obtain⟨sl',e2⟩:=slot b _ (neL b o e) hb (neC b o e hx) e1 (I.base.free b o e n hx)
  exact⟨sl',e2⟩
 ·obtain⟨o',e1⟩:=I.base.there b o e hx
  exact free b o' (neC b o e hx) e1 (I.base.free b o e n hx)
 ·obtain⟨o',e1⟩:=I.base.there b o e hx
  exact there b o' (neC b o e hx) e1
 ·obtain⟨m1,e1⟩:=I.base.Iz b ps e
  obtain⟨m2,e2⟩:=Iz b _ e1
  exact⟨m1++m2,by rw[e2,Array.append_assoc]⟩
 ·obtain⟨m,hn,hl⟩:=I.loc
  refine⟨m,ns m hn,fun i x v e1 e2 e3=> ?_⟩
  obtain⟨u,r,l⟩:=hl i x v e1 e2 e3
  refine⟨u,r,?_⟩
  rcases l with l | ⟨k,c,e,z⟩
  ·exact .inl l
  ·exact .inr ⟨k,c,e,cellK x c e _ z⟩
 ·obtain⟨v,z⟩:=I.cell x c e
  exact⟨v,cellK x c e v z⟩
 ·obtain⟨m,⟨o,_,_,ho,_⟩,_⟩:=I.loc
  exact free _ o (fun z=>(hch _ z).2.1 rfl) ho I.free
 ·obtain⟨v,o,ho,hd⟩:=I.cell x c e
  exact free c o (fun z=>(hch c z).2.2.1 x c e rfl) ho (I.pG x c e)
 ·obtain⟨e,n,ne,nf,d⟩:=I.pin p hp
  have nch:p.1 ∉ ch:=fun z=>(hch p.1 z).2.2.2 p hp rfl
  exact⟨keep p.1 p.2 ne nf nch e n,free p.1 p.2 nch e n,ne,nf,d⟩
theorem Inv.un {t':Nat} (I:Inv X pins σ H s) (u:Un X.fs [] H H' s.heap h') (hok:vC X.prog X.w H' h'):Inv X pins σ H' {s with heap:=h',toks:=t'}:=by
 obtain⟨m,⟨o,es,ep,ho,r⟩,_⟩:=id I.loc
 obtain⟨sl,hL⟩:=u.any ho I.free (by simp)
 exact I.step (g':=s.gens) (d':=s.drawn) (ch:= []) (fun _ z=>nomatch z) (fun b o _ hb _ e n=>u.keep b o e n hb (by simp)) (fun b o _ hb _ e n=>u.slot b o e n hb (by simp)) (fun b o _ e n=>u.free b o e n (by simp)) (fun b o _ e=>u.there b o e (by simp)) u.tups u.CG u.Iz (fun m' hm=>by
  obtain⟨o',es',ep',ho',r'⟩:=hm
  rw[ho]at ho';cases ho'
  exact⟨_,es',ep',hL,r'⟩) hok I.bare
theorem Inv.call {g':Array GenState} {t':Nat} {d':Drawn} {ch:List Addr} (I:Inv X pins σ H s) (u:Un (frs X.stack) ch H H' s.heap h') (hok:vC X.prog X.w H' h') (hg:AllBare g')
  (hch:∀b ∈ ch,(b ∈ X.ex∨X.s₀.heap.objs.size≤b)∧b≠X.env.locals∧(∀x c,X.env.cells.lookup x=some c→c≠b)∧∀p ∈ X.pn++pins,p.1≠b):
  Inv X pins σ H' {s with heap:=h',gens:=g',drawn:=d',toks:=t'}:=by
 obtain⟨m,⟨o,es,ep,ho,r⟩,_⟩:=id I.loc
 obtain⟨sl,hL⟩:=u.any ho I.free fun z=>(hch _ z).2.1 rfl
 exact I.step (ch:=ch) hch (fun b o hL hb hc e n=>u.keep b o e n (fun z=>(List.mem_cons.mp (I.Nv b z)).elim hL hb) hc) (fun b o _ _ hc e n=>u.any e n hc) (fun b o hc e n=>u.free b o e n hc) (fun b o hc e=>u.there b o e hc) u.tups u.CG u.Iz (fun m' hm=>by
  obtain⟨o',es',ep',ho',r'⟩:=hm
  rw[ho]at ho';cases ho'
  exact⟨_,es',ep',hL,r'⟩) hok hg
theorem Inv.turned {t':Nat} {it:Addr} (I:Inv X pins σ H s) (k:∀b o,b≠it→s.heap.get? b=some o→h'.get? b=some o) (hn:H it=none) (hL:it≠X.env.locals)
  (h1:it ∈ X.ex∨X.s₀.heap.objs.size≤it) (h2:∀x c,X.env.cells.lookup x=some c→c≠it) (h3:∀p ∈ X.pn++pins,p.1≠it):Inv X pins σ H {s with heap:=h',toks:=t'}:=by
 have Ye:∀b u,H b=some u→b≠it:=fun b u e z=>by rw[z,hn]at e;cases e
 refine I.step (g':=s.gens) (d':=s.drawn) (ch:= [it]) (fun b hb=> ?_) (fun b o _ _ hc e _=>k b o (fun z=>hc (by simp[z])) e) (fun b o _ _ hc e _=>⟨o.slots,k b o (fun z=>hc (by simp[z])) e⟩) (fun _ _ _ _ n=>n)
  (fun b o hc e=>⟨o,k b o (fun z=>hc (by simp[z])) e⟩) (fun _ _ e=>e) (fun _ _ _ e=>e) (fun b ps e=>⟨#[],by rw[e];simp⟩) (fun m hm=> ?_) (fun b u e=> ?_) I.bare
 ·have e:b=it:=by simpa using hb
  subst e
  exact⟨h1,hL,h2,h3⟩
 ·obtain⟨o,es,ep,ho,r⟩:=hm
  exact⟨o,es,ep,k _ o (Ne.symm hL) ho,r⟩
 ·refine(I.hok b u e).stay (fun c v hc q=>k c v ?_ q) (fun _ q=>q) fun _ _ q=>q
  rcases hc with z | z
  ·rw[z];exact Ye b u e
  ·exact Ye c _ z
theorem Inv.tok (I:Inv X pins σ H s) (t:Nat):Inv X pins σ H {s with toks:=t}:=I.un (h':=s.heap) (t':=t) Un.refl I.hok
theorem Inv.kept {t':Nat} (I:Inv X pins σ H s) (k:∀b u,s.heap.get? b=some u→h'.get? b=some u):Inv X pins σ H {s with heap:=h',toks:=t'}:=I.un (Un.kept k) (I.hok.kept k)
theorem Inv.laid {a:Addr} {o:HO} {t':Nat} (I:Inv X pins σ H s) (k:∀b u,s.heap.get? b=some u→h'.get? b=some u) (hp:s.heap.objs.size≤a) (new:fJ X.prog X.w (upd H a o) h' a o):
 Inv X pins σ (upd H a o) {s with heap:=h',toks:=t'}:=I.un (Un.laid k hp (I.hok.fresh hp)) (I.hok.laid k hp new)
theorem Inv.write {x e:Addr} {o:HO} {t':Nat} (I:Inv X pins σ H s) (mu:Yd (H x)) (he:e=x∨H e=some (.own x)) (k:∀b u,b≠e→s.heap.get? b=some u→h'.get? b=some u) (heo:∃u,h'.get? e=some u)
 (new:fJ X.prog X.w (upd H x o) h' x o):Inv X pins σ (upd H x o) {s with heap:=h',toks:=t'}:=I.un (Un.write mu he k heo) (I.hok.write mu he k heo new)
theorem Inv.weak {σ':List (Option V)} (I:Inv X pins σ H s) (hl:σ'.length=σ.length) (w:∀(i:Nat)v,σ'[i]? =some (some v)→σ[i]? =some (some v)):Inv X pins σ' H s:=
 ⟨I.ok,I.os,I.bare,I.base,let ⟨m,hn,hl'⟩:=I.loc;⟨m,hn,fun i x v e1 e2 e3=>hl' i x v e1 (w i v e2) e3⟩,I.cell,I.free,I.pG,I.pin,I.hok,hl.trans I.len⟩
theorem Inv.Qq {Yg:List (Addr × Obj)} (I:Inv X pins σ H s) (h:∀p ∈ Yg,s.heap.get? p.1=some p.2∧H p.1=none∧p.1≠X.env.locals∧p.1 ∉ X.fs∧∀v,p.2.data≠ .cell v):Inv X Yg σ H s:=
 ⟨I.ok,I.os,I.bare,I.base,I.loc,I.cell,I.free,I.pG,fun p hp=>(List.mem_append.mp hp).elim (fun z=>I.pin p (List.mem_append_left _ z)) (h p),I.hok,I.len⟩
theorem CJ{N:List Str}(hN:N.Nodup){i j:Nat}{x:Str}(a:N[i]? =some x)(b:N[j]? =some x):i=j:=by
 obtain⟨h1,e1⟩:=List.getElem?_eq_some_iff.mp a
 obtain⟨h2,e2⟩:=List.getElem?_eq_some_iff.mp b
 exact(List.getElem_inj hN).mp (e1.trans e2.symm)
theorem Hl{M:Model}{A:Around}{E:Value→Shared→Prop}{i:Nat}{x:Str}{v:V}{u:Value}{Q:Unit→Shared→Prop}(I:Inv X pins σ H s)(hN:X.N.Nodup)(hi:X.N[i]? =some x)(hx:Loc X.env.scope x)(r:RelV v u)
  (h:∀s',Inv X pins (σ.set i (some v)) H s'→(∃a,Heap.SameBut a s.heap s'.heap∧(a=X.env.locals∨X.env.cells.lookup x=some a))→Q () s') (hf:X.fn x=true∨X.env.scope.names.lookup x=some .local:=by first | exact .inl rfl | exact .inr rfl | assumption):wpAny M A (storeName X.env x u) Q E s:=by
 obtain⟨m,hn,hl⟩:=id I.loc
 have hcls:(X.env.scope.kind == .class||(X.env.scope.kind == .module&&X.env.locals != X.env.globals))=false:=by rw[I.ok.kind];rfl
 have abb:i<σ.length:=by rw[I.len];exact(List.getElem?_eq_some_iff.mp hi).1
 have Zk:=I.Zk
 have tracked:∀ {a:Addr}{h':Heap},(∃o,s.heap.get? a=some o∧H a=none)→Heap.SameBut a s.heap h'→vC X.prog X.w H h':=fun{a h'}ha hs b ob e=>by
  obtain⟨_,_,hfree⟩:=ha
  refine(I.hok b ob e).stay (fun c w' hc q=>(hs.2 c ?_).trans q) (fun _ q=>q) fun _ _ q=>q
  rintro rfl
  rcases hc with rfl | hc
  ·rw[hfree]at e;cases e
  ·rw[hfree]at hc;cases hc
 rcases hx with hk | hk
 ·refine wpAny_storeName_local hk hn (fun h' hn' hs=> ?_) hcls
  obtain⟨oL,_,_,hoL,_⟩:=id hn
  refine h _ ⟨I.ok,I.os,I.bare,⟨fun b o e n hb hx=> ?_,fun b o e n hb hx=> ?_,I.base.free,fun b o e hx=> ?_,I.base.tups,I.base.CG,I.base.Iz⟩,⟨_,hn',fun j y v' e1 e2 e3=> ?_⟩,fun y c e=> ?_,I.free,I.pG,fun p hp=> ?_,tracked ⟨oL,hoL,I.free⟩ hs,by simpa using I.len⟩ ⟨_,hs,.inl rfl⟩
  ·exact(hs.2 b (Nat.ne_of_lt (Nat.lt_of_lt_of_le (Heap.lt_size e) I.ok.above))).trans (I.base.keep b o e n hb hx)
  ·obtain⟨sl,e1⟩:=I.base.slot b o e n hb hx
   exact⟨sl,(hs.2 b (Nat.ne_of_lt (Nat.lt_of_lt_of_le (Heap.lt_size e) I.ok.above))).trans e1⟩
  ·obtain⟨o',e1⟩:=I.base.there b o e hx
   exact⟨o',(hs.2 b (Nat.ne_of_lt (Nat.lt_of_lt_of_le (Heap.lt_size e) I.ok.above))).trans e1⟩
  ·by_cases hj:j=i
   ·subst hj
    rw[hi]at e1;cases e1
    rw[List.getElem?_set_self abb]at e2
    cases e2
    exact⟨u,r,.inl ⟨hk,by simp⟩⟩
   ·rw[List.getElem?_set_ne (Ne.symm hj)]at e2
    obtain⟨u',r',q⟩:=hl j y v' e1 e2 e3
    refine⟨u',r',?_⟩
    rcases q with ⟨k,e⟩ | ⟨k,c,e,z⟩
    ·refine .inl ⟨k,?_⟩
     have:y≠x:=fun e=>hj (CJ hN e1 (e▸hi))
     simp[this,e]
    ·exact .inr ⟨k,c,e,z.sameBut hs (Zk y c e)⟩
  ·obtain⟨w',z⟩:=I.cell y c e
   exact⟨w',z.sameBut hs (Zk y c e)⟩
  ·obtain⟨e,n,ne,nf,d⟩:=I.pin p hp
   exact⟨(hs.2 p.1 ne).trans e,n,ne,nf,d⟩
 ·have hfn:X.fn x=true:=by
   rcases hf with z | z
   ·exact z
   ·rw[z]at hk;cases hk
  obtain⟨c,hc⟩:=I.ok.has x (.inl hk)
  obtain⟨w',z⟩:=I.cell x c hc
  refine wpAny_storeName_cell I.ok.kind hk hc z (fun h' hc' hs=> ?_)
  obtain⟨oc,hoc,adG⟩:=id z
  refine h {s with heap:=h'} ⟨I.ok,I.os,I.bare,⟨fun b o e n hb hx=> ?_,fun b o e n hb hx=> ?_,I.base.free,fun b o e hx=> ?_,I.base.tups,I.base.CG,I.base.Iz⟩,⟨m,hn.sameBut hs (Ne.symm (Zk x c hc)),fun j y v' e1 e2 e3=> ?_⟩,fun y c' e=> ?_,I.free,I.pG,fun p hp=> ?_,tracked ⟨oc,hoc,I.pG x c hc⟩ hs,by simpa using I.len⟩ ⟨c,hs,.inr hc⟩
  ·exact(hs.2 b (Nat.ne_of_lt (Nat.lt_of_lt_of_le (Heap.lt_size e) (I.ok.cab x c hfn hc)))).trans (I.base.keep b o e n hb hx)
  ·obtain⟨sl,e1⟩:=I.base.slot b o e n hb hx
   exact⟨sl,(hs.2 b (Nat.ne_of_lt (Nat.lt_of_lt_of_le (Heap.lt_size e) (I.ok.cab x c hfn hc)))).trans e1⟩
  ·obtain⟨o',e1⟩:=I.base.there b o e hx
   exact⟨o',(hs.2 b (Nat.ne_of_lt (Nat.lt_of_lt_of_le (Heap.lt_size e) (I.ok.cab x c hfn hc)))).trans e1⟩
  ·by_cases hj:j=i
   ·subst hj
    rw[hi]at e1;cases e1
    rw[List.getElem?_set_self abb]at e2
    cases e2
    exact⟨u,r,.inr ⟨.inl hk,c,hc,hc'⟩⟩
   ·rw[List.getElem?_set_ne (Ne.symm hj)]at e2
    obtain⟨u',r',q⟩:=hl j y v' e1 e2 e3
    refine⟨u',r',?_⟩
    rcases q with q | ⟨k,c',e,z'⟩
    ·exact .inl q
    ·refine .inr ⟨k,c',e,z'.sameBut hs ?_⟩
     rintro rfl
     exact hj (CJ hN e1 (I.ok.inj _ _ _ e hc▸hi))
  ·by_cases hcc:c'=c
   ·subst hcc;exact⟨_,hc'⟩
   ·obtain⟨w2,z2⟩:=I.cell y c' e
    exact⟨w2,z2.sameBut hs hcc⟩
  ·obtain⟨e,n,ne,nf,d⟩:=I.pin p hp
   refine⟨(hs.2 p.1 ?_).trans e,n,ne,nf,d⟩
   intro q
   rw[q,hoc]at e
   have q':oc=p.2:=Option.some.inj e
   exact d w' (by rw[←q'];exact adG)
theorem CK{M:Model}{A:Around}{E:Value→Shared→Prop}{i:Nat}{x:Str}{v:V}{u:Value}{Q:Unit→Shared→Prop}(I:Inv X pins σ H s)(hN:X.N.Nodup)(hi:X.N[i]? =some x)(hx:Loc X.env.scope x)(r:RelV v u)
  (h:∀s',Inv X pins (σ.set i (some v)) H s'→Q () s') (hf:X.fn x=true∨X.env.scope.names.lookup x=some .local:=by first | exact .inl rfl | exact .inr rfl | assumption):wpAny M A (storeName X.env x u) Q E s:=
 Hl I hN hi hx r (fun s' I' _=>h s' I') hf
theorem Inv.call' {s':Shared} {ch:List Addr} (I:Inv X pins σ H s) (ho:s'.os=s.os) (u:Un (frs X.stack) ch H H' s.heap s'.heap) (hok:vC X.prog X.w H' s'.heap) (hg:AllBare s'.gens)
  (hch:∀b ∈ ch,(b ∈ X.ex∨X.s₀.heap.objs.size≤b)∧b≠X.env.locals∧(∀x c,X.env.cells.lookup x=some c→c≠b)∧∀p ∈ X.pn++pins,p.1≠b):Inv X pins σ H' s':=by
 obtain⟨h',g',d',t',o'⟩:=s'
 have e:o'=s.os:=ho
 subst e
 exact I.call (g':=g') (t':=t') (d':=d') u hok hg hch
end
noncomputable abbrev XK:=Value→Option Addr→Hp→Prop
noncomputable abbrev St:=List (Option V)
noncomputable abbrev VK:=V→Hp→Prop
noncomputable abbrev TE:=St→Hp→VK→Prop
noncomputable abbrev TT:=St→Hp→(Bool→Hp→Prop)→Prop
noncomputable abbrev TA:=St→Hp→(List V→Hp→Prop)→Prop
structure Ends where
 nx:St→Hp→Prop
 rt:VK
 bk:St→Hp→Prop:=fun _ _=>False
 ct:St→Hp→Prop:=fun _ _=>False
noncomputable abbrev TS:=Ends→St→Hp→Prop
noncomputable def EP(X:Cx)(pins:List (Addr × Obj))(σ:St)(Q:VK)(u:Value)(s':Shared):Prop:=∃v H',Inv X pins σ H' s'∧RelV v u∧Q v H'
noncomputable def TP(X:Cx)(pins:List (Addr × Obj))(σ:St)(Q:Bool→Hp→Prop)(b:Bool)(s':Shared):Prop:=∃H',Inv X pins σ H' s'∧Q b H'
noncomputable def AP(X:Cx)(pins:List (Addr × Obj))(σ:St)(Q:List V→Hp→Prop)(us:List Value)(s':Shared):Prop:=∃vs H',Inv X pins σ H' s'∧Vals vs us∧Q vs H'
noncomputable def SP(X:Cx)(pins:List (Addr × Obj))(D:Ends)(f:Flow)(s':Shared):Prop:=
 match f with
 | .next=>∃σ' H',Inv X pins σ' H' s'∧D.nx σ' H'
 | .brk=>∃σ' H',Inv X pins σ' H' s'∧D.bk σ' H'
 | .cont=>∃σ' H',Inv X pins σ' H' s'∧D.ct σ' H'
 | .ret u=>∃v σ' H',Inv X pins σ' H' s'∧RelV v u∧D.rt v H'
noncomputable def PE(X:Cx)(e:Expr)(t:TE):Prop:=
 ∀(pins:List (Addr × Obj))(s:Shared)(σ:St)(H:Hp)(Q:VK),Inv X pins σ H s→t σ H Q→wpAny (model X.prog X.w) X.A (eval e X.env) (EP X pins σ Q) X.xe s
noncomputable def PT(X:Cx)(e:Expr)(t:TT):Prop:=
 ∀(pins:List (Addr × Obj))(s:Shared)(σ:St)(H:Hp)(Q:Bool→Hp→Prop),Inv X pins σ H s→t σ H Q→wpAny (model X.prog X.w) X.A (isTrue e X.env (eval e X.env)) (TP X pins σ Q) X.xe s
noncomputable def PW(X:Cx)(e:Expr)(t:TT):Prop:=
 ∀(whole:Sem Value)(pins:List (Addr × Obj))(s:Shared)(σ:St)(H:Hp)(Q:Bool→Hp→Prop),Inv X pins σ H s→t σ H Q→wpAny (model X.prog X.w) X.A (isTrue e X.env whole) (TP X pins σ Q) X.xe s
theorem PW.pt {X:Cx} {e:Expr} {t:TT} (h:PW X e t):PT X e t:=h _
noncomputable def PA(X:Cx)(es:List Expr)(t:TA):Prop:=
 ∀(pos:Pos)(pins:List (Addr × Obj))(s:Shared)(σ:St)(H:Hp)(Q:List V→Hp→Prop),Inv X pins σ H s→t σ H Q→wpAny (model X.prog X.w) X.A (spliced (backTo pos (starEach es X.env))) (AP X pins σ Q) X.xe s
noncomputable def PS(X:Cx)(st:Stmt)(t:TS):Prop:=
 ∀(pins:List (Addr × Obj))(s:Shared)(σ:St)(H:Hp)(D:Ends),Inv X pins σ H s→t D σ H→wpAny (model X.prog X.w) X.A (exec st X.env) (SP X pins D) X.xe s
noncomputable def Nq(X:Cx)(st:List Stmt)(t:TS):Prop:=
 ∀(pins:List (Addr × Obj))(s:Shared)(σ:St)(H:Hp)(D:Ends),Inv X pins σ H s→t D σ H→wpAny (model X.prog X.w) X.A (execs st X.env) (SP X pins D) X.xe s
theorem dN{α:Type}{t:Sem α}{Q Q':α→Shared→Prop}{M:Model}{A:Around}{E:Value→Shared→Prop}{s:Shared}(h:wpAny M A t Q E s)(hQ:∀a s,Q a s→Q' a s):wpAny M A t Q' E s:=wpAny_mono h hQ fun _ _ x=>x
end L2
namespace L2
open PySem PySem.Spec PyProof.Rows
section
variable{X:Cx}
noncomputable def CN(i:Nat):TE:=fun σ H Q=>∃v,σ[i]? =some (some v)∧Q v H
noncomputable def tC(v:V):TE:=fun _ H Q=>Q v H
theorem Zm{i:Nat}{x:Str}{pos:Pos}(hN:X.N[i]? =some x)(hv:Vis X.env.scope x)(hd:(x==("__debug__" :Str))=false:=by decide)(hcd:(x==("__classdict__" :Str))=false:=by decide):PE X (.Name x pos) (CN i):=by
 intro pins s σ H Q I h
 obtain⟨v,e,h⟩:=h
 obtain⟨m,hn,hl⟩:=I.loc
 obtain⟨u,r,l⟩:=hl i x v hN e hv
 have fin:EP X pins σ Q u s:=⟨v,H,I,r,h⟩
 rcases l with ⟨hk,hm⟩ | ⟨hk,c,hc,hcell⟩
 ·exact wpAny_Name (wpAny_loadName_local I.ok.kind hk hn hm fin) hd
 ·rcases hk with hk | hk
  ·exact wpAny_Name (wpAny_loadName_cell I.ok.kind hk hc hcell fin) hd
  ·exact wpAny_Name (wpAny_loadName_free I.ok.kind hk hc hcell fin hcd) hd
theorem aA{i j pos}:PE X (.Constant (.int i) j pos) (tC (.int i)):=fun _ _ _ H _ I h=>wpAny_Constant_int ⟨.int i,H,I.tok _,⟨_,rfl⟩,h⟩
theorem lR{b j pos}:PE X (.Constant (.bool b) j pos) (tC (.bl b)):=fun _ _ _ H _ I h=>Constant_bool ⟨.bl b,H,I,rfl,h⟩
theorem gP{j pos}:PE X (.Constant .none j pos) (tC .non):=fun _ _ _ H _ I h=>Constant_none ⟨.non,H,I,rfl,h⟩
theorem Zn{x j pos}:PE X (.Constant (.str x) j pos) (tC (.str x)):=fun _ _ _ H _ I h=>Calls.Constant_str ⟨.str x,H,I.tok _,⟨_,rfl⟩,h⟩
noncomputable def Gl(X:Cx)(x:Str):Prop:=X.env.kindOf x=some .globalImplicit
theorem Cv{E:Value→Shared→Prop}{pins:List (Addr × Obj)}{s:Shared}{σ:St}{H:Hp}{x:Str}{u:Value}{pos:Pos}{Q:Value→Shared→Prop}(I:Inv X pins σ H s)(hg:Gl X x)(hm:X.mg x=some u)(h:Q u s)
  (hd:(x==("__debug__" :Str))=false:=by decide):wpAny (model X.prog X.w) X.A (eval (.Name x pos) X.env) Q E s:=
 Calls.Name_function_global I.ok.kind hg (Calls.loadGlobal_global (by rw[I.ok.glob];exact I.mod.glob.keeps I.bk) hm h) hd
theorem qd{E:Value→Shared→Prop}{pins:List (Addr × Obj)}{s:Shared}{σ:St}{H:Hp}{x:Str}{u:Value}{pos:Pos}{Q:Value→Shared→Prop}(I:Inv X pins σ H s)(hg:Gl X x)(hm:X.mg x=none)(hv:bootBuiltins x=some u)(h:Q u s)
  (hn:x≠ "__name__" :=by decide) (hd:(x==("__debug__" :Str))=false:=by decide):wpAny (model X.prog X.w) X.A (eval (.Name x pos) X.env) Q E s:=by
 obtain⟨mb,h1,h2⟩:=I.mod.blt
 exact Calls.Name_function_global I.ok.kind hg (Calls.loadGlobal_builtin (by rw[I.ok.glob];exact I.mod.glob.keeps I.bk) hm (by rw[I.ok.blt];exact h1.keeps I.bk) ((h2 x hn).trans hv) h) hd
theorem IV{x:Str}{v:V}{u:Value}{pos:Pos}(hg:Gl X x)(hm:X.mg x=some u)(r:RelV v u)(hd:(x==("__debug__" :Str))=false:=by decide):PE X (.Name x pos) (tC v):=
 fun _ _ _ H _ I h=>Cv I hg hm ⟨v,H,I,r,h⟩ hd
variable{a b:Expr}{ta tb:TE}{pos:Pos}
noncomputable def PC(X:Cx)(op:CmpOp)(a b:Expr)(t:TE):Prop:=
 ∀(pins:List (Addr × Obj))(s:Shared)(σ:St)(H:Hp)(Q:VK),Inv X pins σ H s→t σ H Q→
  wpAny (model X.prog X.w) X.A (eval a X.env) (fun v s₁=>wpAny (model X.prog X.w) X.A (eval b X.env) (fun u s₂=>wpAny (model X.prog X.w) X.A (compareOp op v u) (EP X pins σ Q) X.xe s₂) X.xe s₁) X.xe s
theorem TV(b:Expr){op:CmpOp}(h:op≠ .In)(h2:op≠ .NotIn):behindInMarks op b=false:=by
 have e1:(op==CmpOp.In)=false:=by cases op<;>first | rfl | exact absurd rfl h
 have e2:(op==CmpOp.NotIn)=false:=by cases op<;>first | rfl | exact absurd rfl h2
 cases b<;>simp[behindInMarks,e1,e2]
noncomputable def tB(t:TE):TT:=fun σ H Q=>t σ H fun x H1=>∃c,x= .bl c∧Q c H1
theorem Zo{op:CmpOp}{t:TE}(h:PC X op a b t)(h1:behindInMarks op b=false:=by first | exact TV _ (by decide) (by decide) | rfl):PT X (.Compare a [op] [b] pos) (tB t):=by
 intro pins s σ H Q I hw
 refine wpAny_isTrue_Compare1 (dN (h pins s σ H _ I hw) fun v s1 h1=>dN h1 fun u s2 h2=>dN h2 fun c s3 ⟨x,H1,I1,r1,q1⟩=> ?_) h1
 obtain⟨d,rfl,q⟩:=q1
 cases r1
 exact wpAny_truthy_bool ⟨H1,I1,q⟩
theorem oF{e:Expr}{t:TE}(h:PE X e t)(he:∀whole,isTrue e X.env whole=(do let v ←whole;standAt e.pos;holding [v] (truthy v)):=by intro _;rfl):PT X e (tB t):=by
 intro pins s σ H Q I hw
 refine isTrue_plain (dN (h pins s σ H _ I hw) fun v s1 ⟨x,H1,I1,r1,q1⟩=> ?_) (he _)
 obtain⟨d,rfl,q⟩:=q1
 cases r1
 exact wpAny_truthy_bool ⟨H1,I1,q⟩
variable{tA tB':TT}{rest:List Expr}
noncomputable def adH(t u:TT):TT:=fun σ H Q=>t σ H fun c H1=>if c=true then u σ H1 Q else Q false H1
noncomputable def tOr(t u:TT):TT:=fun σ H Q=>t σ H fun c H1=>if c=true then Q true H1 else u σ H1 Q
noncomputable def adI(t:TT):TT:=fun σ H Q=>t σ H fun c H1=>Q (!c) H1
theorem Qs(ha:PT X a tA):PW X (.BoolOp .And [a] pos) tA:=by
 intro wh pins s σ H Q I h
 refine isTrue_and (dN (ha pins s σ H Q I h) fun c s1 e=> ?_)
 cases c with
 | true=>exact isTrue_and_nil e
 | false=>exact e
theorem wD(ha:PT X a tA):PW X (.BoolOp .Or [a] pos) tA:=by
 intro wh pins s σ H Q I h
 refine isTrue_or (dN (ha pins s σ H Q I h) fun c s1 e=> ?_)
 cases c with
 | false=>exact isTrue_or_nil e
 | true=>exact e
theorem TX(ha:PT X a tA)(hb:PW X (.BoolOp .And (b::rest) pos) tB'):PW X (.BoolOp .And (a::b::rest) pos) (adH tA tB'):=by
 intro wh pins s σ H Q I h
 refine isTrue_and (dN (ha pins s σ H _ I h) fun c s1 ⟨H1,I1,q1⟩=> ?_)
 cases c with
 | true=>exact hb wh pins s1 σ H1 Q I1 q1
 | false=>exact⟨H1,I1,q1⟩
theorem vD(ha:PT X a tA)(hb:PW X (.BoolOp .Or (b::rest) pos) tB'):PW X (.BoolOp .Or (a::b::rest) pos) (tOr tA tB'):=by
 intro wh pins s σ H Q I h
 refine isTrue_or (dN (ha pins s σ H _ I h) fun c s1 ⟨H1,I1,q1⟩=> ?_)
 cases c with
 | true=>exact⟨H1,I1,q1⟩
 | false=>exact hb wh pins s1 σ H1 Q I1 q1
theorem mV(ha:PT X a tA):PT X (.UnaryOp .Not a pos) (adI tA):=by
 intro pins s σ H Q I h
 exact isTrue_not (ha pins s σ H (fun c H1=>Q (!c) H1) I h)
noncomputable def abd(ta tb:TE):TE:=fun σ H Q=>ta σ H fun x H1=>∃c,x= .bl c∧if c=true then tb σ H1 Q else Q (.bl false) H1
theorem TY{op}{t:TE}(h:PE X a t):PE X (.BoolOp op [a] pos) t:=fun pins s σ H Q I hw=>BoolOp_one (h pins s σ H Q I hw)
theorem T3(ha:PE X a ta)(hb:PE X (.BoolOp .And (b::rest) pos) tb):PE X (.BoolOp .And (a::b::rest) pos) (abd ta tb):=by
 intro pins s σ H Q I h
 refine BoolOp_and (dN (ha pins s σ H _ I h) fun v s1 ⟨x,H1,I1,r1,q1⟩=> ?_)
 obtain⟨c,rfl,q1⟩:=q1
 cases r1
 refine wpAny_truthy_bool ?_
 cases c with
 | true=>exact hb pins s1 σ H1 Q I1 q1
 | false=>exact⟨.bl false,H1,I1,rfl,q1⟩
noncomputable def tIf(t:TT)(ta tb:TE):TE:=fun σ H Q=>t σ H fun c H1=>if c=true then ta σ H1 Q else tb σ H1 Q
theorem Kg{c:Expr}(hc:PT X c tA)(ha:PE X a ta)(hb:PE X b tb):PE X (.IfExp c a b pos) (tIf tA ta tb):=by
 intro pins s σ H Q I h
 refine wpAny_IfExp (dN (hc pins s σ H _ I h) fun d s1 ⟨H1,I1,q1⟩=> ?_)
 cases d with
 | true=>exact ha pins s1 σ H1 Q I1 q1
 | false=>exact hb pins s1 σ H1 Q I1 q1
end
end L2
namespace L2
open PySem PySem.Spec PyProof.Rows
noncomputable def bj(K:PySem.W.Frag)(H:Hp)(a:Addr)(xs:List V):Prop:=
 Rd H a (.lst xs)∨
  ∃(o:Obj)(its:Array Value)(n:Nat),K.lookup a=some o∧o.cls= .type "list" ∧o.dict=none∧o.data= .seq its n∧its.size≤sizeLine∧Vals xs its.toList
noncomputable def iT(K:PySem.W.Frag)(H:Hp)(a:Addr)(xs:List V):Prop:=
 Rd H a (.tup xs)∨
  ∃(o:Obj)(its:Array Value)(n:Nat),K.lookup a=some o∧o.cls= .type "tuple" ∧o.data= .seq its n∧its.size≤sizeLine∧Vals xs its.toList
noncomputable def adJ:Value→Option V
 | .none=>some .non
 | .bool b=>some (.bl b)
 | .int i _=>some (.int i)
 | .str x _=>some (.str x)
 | .bytes b _=>some (.Qo b)
 | .float b _=>some (.flt b)
 | .ref a=>some (.ref a)
 | .type n=>some (.ty n)
 | _=>none
theorem RelV.abs {x:V} {u:Value} (r:RelV x u):adJ u=some x:=by
 cases x with
 | non=>cases r;rfl
 | bl _=>cases r;rfl
 | int _=>obtain⟨t,rfl⟩:=r;rfl
 | str _=>obtain⟨t,rfl⟩:=r;rfl
 | Qo _=>obtain⟨t,rfl⟩:=r;rfl
 | flt _=>obtain⟨t,rfl⟩:=r;rfl
 | ref _=>cases r;rfl
 | ty _=>cases r;rfl
theorem RelV.inj {x y:V} {u:Value} (r:RelV x u) (q:RelV y u):x=y:=Option.some.inj (r.abs.symm.trans q.abs)
theorem Vals.inj:∀ {xs ys:List V}{us:List Value},Vals xs us→Vals ys us→xs=ys
 | _,_,_,.nil,.nil=>rfl
 | _,_,_,.cons r t,.cons r' t'=>by rw[r.inj r',Vals.inj t t']
section
variable{X:Cx}{pins:List (Addr × Obj)}{σ:St}{H:Hp}{s:Shared}{a:Addr}{xs ys:List V}
theorem bj.of {K:PySem.W.Frag} (h:H a=some (.lst xs)):bj K H a xs:= .inl (.inl h)
theorem iT.of {K:PySem.W.Frag} (h:H a=some (.tup xs)):iT K H a xs:= .inl (.inl h)
theorem Inv.list (I:Inv X pins σ H s) (h:bj X.K H a xs):∃its:List Value,Vals xs its∧PlainL s.heap a its.toArray∧xs.length≤sizeLine:=by
 rcases h with h | ⟨o,its,n,hk,hc,hd,hs,hz,r⟩
 ·obtain⟨z,its,n,r,e⟩:=h.ok I.hok
  exact⟨its,r,⟨_,n,e,rfl,rfl,rfl⟩,z⟩
 ·refine⟨its.toList,r,⟨o,n,I.Kf a o hk,hc,hd,by simpa using hs⟩,?_⟩
  have e:=r.length
  simp only[Array.length_toList]at e
  omega
theorem Inv.tuple (I:Inv X pins σ H s) (h:iT X.K H a xs):∃its:List Value,Vals xs its∧IsTup s.heap a its.toArray∧xs.length≤sizeLine:=by
 rcases h with h | ⟨o,its,n,hk,hc,hs,hz,r⟩
 ·obtain⟨z,its,r,p⟩:=h.ok I.hok
  exact⟨its,r,p,z⟩
 ·refine⟨its.toList,r,⟨o,I.Kf a o hk,hc,n,by simpa using hs⟩,?_⟩
  have e:=r.length
  simp only[Array.length_toList]at e
  omega
theorem Inv.xN (I:Inv X pins σ H s) (h:bj X.K H a xs) (h':bj X.K H a ys):xs=ys:=by
 obtain⟨its,r,⟨o,n,e,_,_,d⟩,_⟩:=I.list h
 obtain⟨its',r',⟨o',n',e',_,_,d'⟩,_⟩:=I.list h'
 rw[e]at e';cases e'
 rw[d]at d'
 injection d' with d1 _
 have:its=its':=by simpa using congrArg Array.toList d1
 subst this
 exact r.inj r'
theorem Inv.Rv (I:Inv X pins σ H s) (h:iT X.K H a xs) (h':iT X.K H a ys):xs=ys:=by
 obtain⟨its,r,⟨o,e,_,n,d⟩,_⟩:=I.tuple h
 obtain⟨its',r',⟨o',e',_,n',d'⟩,_⟩:=I.tuple h'
 rw[e]at e';cases e'
 rw[d]at d'
 injection d' with d1 _
 have:its=its':=by simpa using congrArg Array.toList d1
 subst this
 exact r.inj r'
end
noncomputable abbrev Cx.wish (X:Cx) (E:Value→Shared→Prop):Cx:= {X with xe:=E}
noncomputable abbrev Cx.nox (X:Cx):Cx:=X.wish fun _ _=>False
theorem Cx.Ok.wish {X:Cx} (ok:X.Ok) (E:Value→Shared→Prop):(X.wish E).Ok:=
 ⟨ok.mod,ok.kind,ok.glob,ok.blt,ok.above,ok.inj,ok.has,ok.cab,ok.hd,ok.frames,ok.stk,ok.exf,ok.bs,ok.Wr,ok.TJ,ok.TQ,ok.BL,ok.Zj⟩
theorem Cx.Ok.sV {X:Cx} {E:Value→Shared→Prop} (ok:(X.wish E).Ok):X.Ok:=
 ⟨ok.mod,ok.kind,ok.glob,ok.blt,ok.above,ok.inj,ok.has,ok.cab,ok.hd,ok.frames,ok.stk,ok.exf,ok.bs,ok.Wr,ok.TJ,ok.TQ,ok.BL,ok.Zj⟩
section
variable{X:Cx}{pins:List (Addr × Obj)}{σ:St}{H:Hp}{s:Shared}{E:Value→Shared→Prop}
theorem Inv.wish (I:Inv X pins σ H s) (E:Value→Shared→Prop):Inv (X.wish E) pins σ H s:=⟨I.ok.wish E,I.os,I.bare,I.base,I.loc,I.cell,I.free,I.pG,I.pin,I.hok,I.len⟩
theorem Inv.sV (I:Inv (X.wish E) pins σ H s):Inv X pins σ H s:=⟨I.ok.sV,I.os,I.bare,I.base,I.loc,I.cell,I.free,I.pG,I.pin,I.hok,I.len⟩
theorem SP.sV {D:Ends} {f:Flow} {s':Shared} (h:SP (X.wish E) pins D f s'):SP X pins D f s':=by
 cases f with
 | next=>obtain⟨σ',H',I,q⟩:=h;exact⟨σ',H',I.sV,q⟩
 | brk=>obtain⟨σ',H',I,q⟩:=h;exact⟨σ',H',I.sV,q⟩
 | cont=>obtain⟨σ',H',I,q⟩:=h;exact⟨σ',H',I.sV,q⟩
 | ret u=>obtain⟨v,σ',H',I,r,q⟩:=h;exact⟨v,σ',H',I.sV,r,q⟩
theorem Nq.nox {st:List Stmt} {t:TS} (h:Nq X.nox st t):Nq X st t:=fun pins s σ H D I hw=>
 wpAny_mono (h pins s σ H D (I.wish _) hw) (fun _ _ q=>q.sV) fun _ _ z=>False.elim z
end
section
variable{X:Cx}{st:Stmt}{rest:List Stmt}{t u:TS}{e:Expr}{te:TE}{pos:Pos}
noncomputable def Yh:TS:=fun D σ H=>D.nx σ H
noncomputable def Gq(t u:TS):TS:=fun D σ H=>t {D with nx:=u D} σ H
theorem aM:Nq X [] Yh:=fun _ _ σ H _ I h=>wpAny_execs_nil ⟨σ,H,I,h⟩
theorem ak(h1:PS X st t)(h2:Nq X rest u):Nq X (st::rest) (Gq t u):=by
 intro pins s σ H D I h
 refine wpAny_execs_cons (dN (h1 pins s σ H {D with nx:=u D} I h) fun f s1 q=> ?_)
 cases f with
 | next=>
  obtain⟨σ',H',I',q⟩:=q
  exact h2 pins s1 σ' H' D I' q
 | ret v=>exact q
 | brk=>exact q
 | cont=>exact q
theorem au(h1:PS X st t):Nq X [st] t:=by
 intro pins s σ H D I h
 refine wpAny_execs_cons (dN (h1 pins s σ H D I h) fun f s1 q=> ?_)
 cases f with
 | next=>exact wpAny_execs_nil q
 | ret v=>exact q
 | brk=>exact q
 | cont=>exact q
noncomputable def Zq:TS:=fun D σ H=>D.bk σ H
theorem T4:PS X (.Break pos) Zq:=fun _ _ σ H _ I h=>wpAny_Break ⟨σ,H,I,h⟩
theorem Inv.quiet {pins:List (Addr × Obj)} {σ:St} {H:Hp} {s:Shared} (I:Inv X pins σ H s):interactive X.env=false:=by simp[interactive,I.ok.kind]
noncomputable def Yi(te:TE):TS:=fun D σ H=>te σ H fun _ H1=>D.nx σ H1
theorem aR(he:PE X e te)(hs:swapsWith e none pos.line X.env=pure false:=by rfl):PS X (.Expr e pos) (Yi te):=by
 intro pins s σ H D I h
 exact wpAny_Expr_any (dN (he pins s σ H _ I h) fun v s1 ⟨x,H1,I1,r1,q1⟩=>⟨σ,H1,I1,q1⟩) I.quiet hs
noncomputable def Zr(te:TE):TS:=fun D σ H=>te σ H D.rt
theorem aG(he:PE X e te):PS X (.Return (some e) pos) (Zr te):=by
 intro pins s σ H D I h
 exact wpAny_Return_some (dN (he pins s σ H _ I h) fun v s1 ⟨x,H1,I1,r1,q1⟩=>⟨x,σ,H1,I1,r1,q1⟩)
noncomputable def abe:TS:=fun D _ H=>D.rt .non H
theorem IW:PS X (.Return none pos) abe:=fun _ _ σ H _ I h=>wpAny_Return_none ⟨.non,σ,H,I,rfl,h⟩
noncomputable def adK(c:TT)(t u:TS):TS:=fun D σ H=>c σ H fun b H1=>if b=true then t D σ H1 else u D σ H1
theorem bC{c:Expr}{a b:List Stmt}{tc:TT}(hc:PT X c tc)(ha:Nq X a t)(hb:Nq X b u):PS X (.If c a b pos) (adK tc t u):=by
 intro pins s σ H D I h
 refine wpAny_If (dN (hc pins s σ H _ I h) fun d s1 ⟨H1,I1,q1⟩=> ?_)
 cases d with
 | true=>exact ha pins s1 σ H1 D I1 q1
 | false=>exact hb pins s1 σ H1 D I1 q1
noncomputable def Zt:TS:=fun _ _ _=>False
theorem Rw{sts:List Stmt}:Nq X sts Zt:=fun _ _ _ _ _ _ h=>h.elim
end
noncomputable abbrev TG:=V→St→Hp→(St→Hp→Prop)→Prop
noncomputable abbrev Yj:=List V→St→Hp→(St→Hp→Prop)→Prop
noncomputable def PG(X:Cx)(target:Expr)(t:TG):Prop:=
 ∀(pins:List (Addr × Obj))(s:Shared)(σ:St)(H:Hp)(v:V)(u:Value)(Q:St→Hp→Prop),Inv X pins σ H s→RelV v u→t v σ H Q→
  wpAny (model X.prog X.w) X.A (assign target X.env u) (fun _ s'=>∃σ' H',Inv X pins σ' H' s'∧Q σ' H') X.xe s
noncomputable def PGs(X:Cx)(ts:List Expr)(t:Yj):Prop:=
 ∀(pins:List (Addr × Obj))(s:Shared)(σ:St)(H:Hp)(vs:List V)(us:List Value)(Q:St→Hp→Prop),Inv X pins σ H s→Vals vs us→t vs σ H Q→
  wpAny (model X.prog X.w) X.A (assignInOrder ((assignEach ts X.env).map (·.2)) us) (fun _ s'=>∃σ' H',Inv X pins σ' H' s'∧Q σ' H') X.xe s
noncomputable abbrev Zu:=V→V→V→Hp→(Hp→Prop)→Prop
noncomputable def abg(X:Cx)(t:Zu):Prop:=
 ∀(pins:List (Addr × Obj))(s:Shared)(σ:St)(H:Hp)(o i v:V)(ov iv u:Value)(Q:Hp→Prop),Inv X pins σ H s→RelV o ov→RelV i iv→RelV v u→t o i v H Q→
  wpAny (model X.prog X.w) X.A (setItem ov iv u) (fun _ s'=>∃H',Inv X pins σ H' s'∧Q H') X.xe s
noncomputable abbrev TIp:=V→V→Hp→VK→Prop
noncomputable def PIp(X:Cx)(op:Operator)(t:TIp):Prop:=
 ∀(pins:List (Addr × Obj))(s:Shared)(σ:St)(H:Hp)(x y:V)(v u:Value)(Q:VK),Inv X pins σ H s→RelV x v→RelV y u→t x y H Q→
  wpAny (model X.prog X.w) X.A (inplaceOp op v u) (EP X pins σ Q) X.xe s
section
variable{X:Cx}{pos:Pos}
noncomputable def kZ(i:Nat):TG:=fun v σ H Q=>Q (σ.set i (some v)) H
theorem aX{i:Nat}{x:Str}(hN:X.N.Nodup)(hi:X.N[i]? =some x)(hx:Loc X.env.scope x)(hf:X.fn x=true∨X.env.scope.names.lookup x=some .local:=by first | exact .inl rfl | exact .inr rfl | assumption):PG X (.Name x pos) (kZ i):=by
 intro pins s σ H v u Q I r h
 exact wpAny_assign_Name (CK I hN hi hx r (fun s' I'=>⟨_,H,I',h⟩) hf)
noncomputable def adL:Yj:=fun vs σ H Q=>vs= []∧Q σ H
noncomputable def abh(t:TG)(u:Yj):Yj:=fun vs σ H Q=>∃v r,vs=v::r∧t v σ H fun σ' H'=>u r σ' H' Q
theorem lW:PGs X [] adL:=by
 intro pins s σ H vs us Q I r h
 obtain⟨e,h⟩:=h
 subst e
 cases r
 exact assignInOrder_nil ⟨σ,H,I,h⟩
theorem bU{e:Expr}{es:List Expr}{t:TG}{u:Yj}(h1:PG X e t)(h2:PGs X es u)
  (hs:(assignEach (e::es) X.env).map (·.2)=assign e X.env::(assignEach es X.env).map (·.2):=by rfl):PGs X (e::es) (abh t u):=by
 intro pins s σ H vs us Q I r h
 obtain⟨v,vr,e1,h⟩:=h
 subst e1
 cases r with
 | cons r rr=>
  rw[hs]
  refine assignInOrder_cons (dN (h1 pins s σ H _ _ _ I r h) fun _ s1 ⟨σ1,H1,I1,q1⟩=> ?_)
  exact h2 pins s1 σ1 H1 _ _ Q I1 rr q1
noncomputable def abi(K:PySem.W.Frag)(n:Nat)(t:Yj):TG:=fun v σ H Q=>∃a xs,v= .ref a∧iT K H a xs∧xs.length=n∧t xs σ H Q
theorem Zv{es:List Expr}{k:Nat}{t:Yj}{n:Nat}(hc:X.calm=true)(h:PGs X es t)
  (hn:(assignEach es X.env).length=n:=by rfl) (hst:(assignEach es X.env).findIdx? (·.1)=none:=by rfl):PG X (.Tuple es k pos) (abi X.K n t):=by
 intro pins s σ H v u Q I r hw
 obtain⟨a,xs,e1,hq,hl,hw⟩:=hw
 subst e1
 cases r
 obtain⟨its,rv,ht,hz⟩:=I.tuple hq
 refine assign_Tuple_tuple (I.ok.hd hc) ht (by simp[hn,←hl,rv.length]) hst fun h' hx=> ?_
 have I1:Inv X pins σ H {s with heap:=h'}:=I.kept (t':=s.toks) fun b o e=>hx b o (Nat.ne_of_lt (Heap.lt_size e)) e
 exact h pins _ σ H xs _ Q I1 (by simpa using rv) hw
noncomputable def abj(to ti:TE)(t:Zu):TG:=fun v σ H Q=>to σ H fun o H1=>ti σ H1 fun i H2=>t o i v H2 fun H3=>Q σ H3
theorem Ny{o i:Expr}{to ti:TE}{t:Zu}(ho:PE X o to)(hi:PE X i ti)(hs:abg X t)
  (ha:∀v,assign (.Subscript o i pos) X.env v=(do
   let ov ←holding [v] (eval o X.env)
   let iv ←holding [v,ov] (eval i X.env)
   standAt pos
   holding [v,ov,iv] (setItem ov iv v)
   release [v,ov,iv] []):=by intro _;rfl):PG X (.Subscript o i pos) (abj to ti t):=by
 intro pins s σ H v u Q I r h
 rw[ha]
 refine wpAny_bind (wpAny_holding (dN (ho pins s σ H _ I h) fun ov s1 ⟨x,H1,I1,r1,q1⟩=> ?_))
 refine wpAny_bind (wpAny_holding (dN (hi pins s1 σ H1 _ I1 q1) fun iv s2 ⟨y,H2,I2,r2,q2⟩=> ?_))
 refine wpAny_bind (wpAny_standAt (wpAny_bind (wpAny_holding (dN (hs pins s2 σ H2 x y v ov iv u _ I2 r1 r2 r q2) fun _ s3 ⟨H3,I3,q3⟩=> ?_))))
 exact wpAny_release ⟨σ,H3,I3,q3⟩
noncomputable def Ws(te:TE)(g:TG):TS:=fun D σ H=>te σ H fun x H1=>g x σ H1 D.nx
theorem Nz{tg e:Expr}{te:TE}{g:TG}(he:PE X e te)(hg:PG X tg g)(hs:swapsWithSole [tg] e pos.line X.env=pure false:=by rfl)(hw:swappedStores [tg] e X.env=pure none:=by rfl)
  (h1:(assignEach [tg] X.env).map (·.2)= [assign tg X.env]:=by rfl):PS X (.Assign [tg] e pos) (Ws te g):=by
 intro pins s σ H D I h
 refine wpAny_Assign_stores (dN (he pins s σ H _ I h) fun v s1 ⟨x,H1,I1,r1,q1⟩=> ?_) hs hw
 rw[h1]
 exact dN (hg pins s1 σ H1 x v _ I1 r1 q1) fun _ s2 q=>q
theorem aQ{i:Nat}{x:Str}{e:Expr}{te:TE}{pos':Pos}(hN:X.N.Nodup)(hi:X.N[i]? =some x)(hx:Loc X.env.scope x)(he:PE X e te)(hs:swapsWith e (some (.Name x pos')) pos.line X.env=pure false:=by rfl)(hf:X.fn x=true∨X.env.scope.names.lookup x=some .local:=by first | exact .inl rfl | exact .inr rfl | assumption):
  PS X (.Assign [.Name x pos'] e pos) (Ws te (kZ i)):=by
 intro pins s σ H D I h
 refine wpAny_Assign_Name (dN (he pins s σ H _ I h) fun v s1 ⟨y,H1,I1,r1,q1⟩=> ?_) hs
 exact CK I1 hN hi hx r1 (fun s2 I2=>⟨_,H1,I2,q1⟩) hf
noncomputable def adM(i:Nat)(te:TE)(ti:TIp):TS:=fun D σ H=>∃x,σ[i]? =some (some x)∧te σ H fun y H1=>ti x y H1 fun z H2=>D.nx (σ.set i (some z)) H2
theorem CP{i:Nat}{x:Str}{e:Expr}{te:TE}{op:Operator}{ti:TIp}{pos':Pos}(hN:X.N.Nodup)(hi:X.N[i]? =some x)(hx:Loc X.env.scope x)(he:PE X e te)(ho:PIp X op ti)(hf:X.fn x=true∨X.env.scope.names.lookup x=some .local:=by first | exact .inl rfl | exact .inr rfl | assumption):
  PS X (.AugAssign (.Name x pos') op e pos) (adM i te ti):=by
 intro pins s σ H D I h
 obtain⟨v,e1,h⟩:=h
 obtain⟨m,hn,hl⟩:=I.loc
 have vis:Vis X.env.scope x:=by rcases hx with k | k;exact .inl k;exact .inr (.inl k)
 obtain⟨u,r,l⟩:=hl i x v hi e1 vis
 refine wpAny_AugAssign_Name ?_
 have go:wpAny (model X.prog X.w) X.A (eval e X.env) (fun w s₂=>wpAny (model X.prog X.w) X.A (inplaceOp op u w) (fun r s₃=>wpAny (model X.prog X.w) X.A (storeName X.env x r) (fun _=>SP X pins D .next) X.xe s₃) X.xe s₂) X.xe s:=by
  refine dN (he pins s σ H _ I h) fun w s1 ⟨y,H1,I1,r1,q1⟩=> ?_
  refine dN (ho pins s1 σ H1 v y u w _ I1 r r1 q1) fun z s2 ⟨zv,H2,I2,r2,q2⟩=> ?_
  exact CK I2 hN hi hx r2 (fun s3 I3=>⟨_,H2,I3,q2⟩) hf
 rcases l with ⟨hk,hm⟩ | ⟨hk,c,hc,hcell⟩
 ·exact wpAny_loadName_local I.ok.kind hk hn hm go
 ·rcases hk with hk | hk
  ·exact wpAny_loadName_cell I.ok.kind hk hc hcell go
  ·rcases hx with k | k
   ·have:X.env.scope.names.lookup x=some .free:=hk
    rw[k]at this;cases this
   ·have:X.env.scope.names.lookup x=some .free:=hk
    rw[k]at this;cases this
noncomputable def ipI(f:Int→Int→Int):TIp:=fun x y H Q=>∃i j,x= .int i∧y= .int j∧Q (.int (f i j)) H
theorem CQ:PIp X .Add (ipI fun i j=>i+j):=by
 intro pins s σ H x y v u Q I r1 r2 h
 obtain⟨i,j,e1,e2,q⟩:=h
 subst e1;subst e2
 obtain⟨t,rfl⟩:=r1
 obtain⟨t',rfl⟩:=r2
 exact iadd_int ⟨.int _,H,I.tok _,⟨_,rfl⟩,q⟩
end
section
variable{X:Cx}{pos:Pos}
noncomputable def Zw(c:TT)(tb:TS):TS:=fun D σ H=>∃W:Nat→St→Hp→Prop,(∃m,W m σ H)∧∀m σ H,W m σ H→
 c σ H fun b H1=>if b=true then ∃N:St→Hp→Prop,(∀σ' H',N σ' H'→∃m',m'<m∧W m' σ' H')∧tb {D with nx:=N,ct:=N,bk:=D.nx} σ H1 else D.nx σ H1
theorem Kh{c:Expr}{body:List Stmt}{tc:TT}{tb:TS}(hp:PassesOwn (model X.prog X.w) X.A X.env X.xe)(hc:PT X c tc)(hb:Nq X body tb):PS X (.While c body [] pos) (Zw tc tb):=by
 intro pins s σ H D I h
 obtain⟨W,⟨m0,w0⟩,turn⟩:=h
 refine wpAny_While (codeAny_whileLoop (fun n s'=>∃σ' H',Inv X pins σ' H' s'∧W n σ' H') ?_ m0 ⟨σ,H,I,w0⟩)
 rintro n s1 ⟨σ1,H1,I1,w1⟩
 refine wpAny_passesOwn hp (dN (hc pins s1 σ1 H1 _ I1 (turn n σ1 H1 w1)) fun b s2 ⟨H2,I2,q2⟩=> ?_)
 cases b with
 | true=>
  obtain⟨N,hN,q2⟩:=q2
  rw[if_pos rfl]
  refine wpAny_passesOwn hp (dN (hb pins s2 σ1 H2 _ I2 q2) fun f s3 q3=> ?_)
  cases f with
  | next=>
   obtain⟨T5,H3,I3,n3⟩:=q3
   obtain⟨m',hm,w3⟩:=hN T5 H3 n3
   exact⟨m',hm,T5,H3,I3,w3⟩
  | cont=>
   obtain⟨T5,H3,I3,n3⟩:=q3
   obtain⟨m',hm,w3⟩:=hN T5 H3 n3
   exact⟨m',hm,T5,H3,I3,w3⟩
  | brk=>exact q3
  | ret v=>exact q3
 | false=>
  rw[if_neg Bool.false_ne_true]
  exact wpAny_execs_nil ⟨σ1,H2,I2,q2⟩
end
structure It where
 go:Nat→Hp→Prop
 T6:Nat→Hp→V→Hp→Prop
 stop:Nat→Hp→Prop
noncomputable def BP(X:Cx)(pins:List (Addr × Obj))(H:Hp)(b:Addr):Prop:=
 H b=none∧b≠X.env.locals∧b ∉ X.fs∧(b ∈ X.ex∨X.s₀.heap.objs.size≤b)∧(∀x c,X.env.cells.lookup x=some c→c≠b)∧∀p ∈ X.pn++pins,p.1≠b
theorem Inv.Km {X:Cx} {pins:List (Addr × Obj)} {σ:St} {H H':Hp} {s:Shared} {b:Addr} (I:Inv X pins σ H s) (hb:s.heap.objs.size≤b) (hn:H' b=none):BP X pins H' b:=by
 refine⟨hn,Nat.ne_of_gt (Nat.lt_of_lt_of_le I.lt hb),I.adF hb,.inr (Nat.le_trans I.sz hb),fun x c e z=> ?_,fun p hp z=> ?_⟩
 ·obtain⟨v,q⟩:=I.cell x c e
  exact absurd (Nat.lt_of_lt_of_le q.lt (by rw[z];exact hb)) (Nat.lt_irrefl _)
 ·exact absurd (Nat.lt_of_lt_of_le (Heap.lt_size (I.pin p hp).1) (by rw[z];exact hb)) (Nat.lt_irrefl _)
structure Turn(P:Program)(w:World)(K:PySem.W.Frag)(tg:Expr)(J:It)(fp:List Addr)(it:Addr)(tn:Nat→Heap→Prop):Prop where
 mem:it ∈ fp
 obj:∀i h,tn i h→∀b ∈ fp,∃o,h.get? b=some o∧∀v,o.data≠ .cell v
 keep:∀i h h',tn i h→(∀b ∈ fp,∀o,h.get? b=some o→h'.get? b=some o)→tn i h'
 item:∀(X:Cx),X.prog=P→X.w=w→X.K=K→X.calm=true→∀(i:Nat)(pins:List (Addr × Obj))(s:Shared)(σ:St)(H:Hp)(E:Value→Shared→Prop),Inv X pins σ H s→(∀b ∈ fp,BP X pins H b)→tn i s.heap→J.go i H→
  wpAny (model P w) X.A (pyNext (.ref it)) (fun r s1=>∃u,r=some u∧
   wpAny (model P w) X.A (letOwnedTupleGo tg (.ref it) u) (fun _ s2=>∃x H',Inv X pins σ H' s2∧RelV x u∧J.T6 i H x H'∧tn (i+1) s2.heap∧∀b ∈ fp,H' b=none) E s1) E s
 done:∀(X:Cx),X.prog=P→X.w=w→X.K=K→X.calm=true→∀(i:Nat)(pins:List (Addr × Obj))(s:Shared)(σ:St)(H:Hp)(E:Value→Shared→Prop),Inv X pins σ H s→(∀b ∈ fp,BP X pins H b)→tn i s.heap→J.stop i H→
  wpAny (model P w) X.A (pyNext (.ref it)) (fun r s1=>r=none∧Inv X pins σ H s1) E s
 self:∀(A:Around)(i:Nat)(s:Shared)(Q:Value→Shared→Prop)(E:Value→Shared→Prop),tn i s.heap→Q (.ref it) s→wpAny (model P w) A (pyIter (.ref it)) Q E s
noncomputable abbrev TI:=St→Hp→(It→Hp→Prop)→Prop
noncomputable def PIE(X:Cx)(pins:List (Addr × Obj))(σ:St)(tg:Expr)(R:It→Hp→Prop)(itv:Value)(s2:Shared):Prop:=
 ∃(it:Addr)(fp:List Addr)(tn:Nat→Heap→Prop)(J:It)(H':Hp),itv= .ref it∧Inv X pins σ H' s2∧Turn X.prog X.w X.K tg J fp it tn∧tn 0 s2.heap∧(∀b ∈ fp,BP X pins H' b)∧R J H'
noncomputable def PI(X:Cx)(tg iter:Expr)(wi:TI):Prop:=
 ∀(pins:List (Addr × Obj))(s:Shared)(σ:St)(H:Hp)(R:It→Hp→Prop),Inv X pins σ H s→wi σ H R→
  wpAny (model X.prog X.w) X.A (eval iter X.env) (fun v s1=>wpAny (model X.prog X.w) X.A (pyIter v) (PIE X pins σ tg R) X.xe s1) X.xe s
theorem Ko{M:Model}{A:Around}{E:Value→Shared→Prop}{s:Shared}{tg:Expr}{it:Addr}{u:Value}{o:Obj}{n:String}{vs:Array Value}{Q:Unit→Shared→Prop}(ho:s.heap.get? it=some o)(hc:o.cls= .type n)(hd:o.data= .fields vs)
  (hn: ["enumerate","zip","dict_itemiterator","dict_reverseitemiterator","odict_iterator","itertools.zip_longest","itertools.pairwise"].contains n=false) (hQ:Q () s):wpAny M A (letOwnedTupleGo tg (.ref it) u) Q E s:=by
 unfold letOwnedTupleGo
 cases tg<;>first
  | exact wpAny_pure hQ
  | (cases u<;>first
   | exact wpAny_pure hQ
   | (
    refine wpAny_bind (wpAny_load ho ?_)
    rw[hc,hd]
    show wpAny M A (if (["enumerate","zip","dict_itemiterator","dict_reverseitemiterator","odict_iterator","itertools.zip_longest","itertools.pairwise"].contains n&&vs[0]? == some (rawInt _))=true then _ else _) Q E s
    rw[if_neg (by intro h;rw[hn,Bool.false_and]at h;cases h)]
    exact wpAny_pure hQ))
noncomputable def Yk(K:PySem.W.Frag)(a:Addr):It:=
 ⟨fun i H=>∃xs x,bj K H a xs∧xs[i]? =some x,fun i H x H'=>H'=H∧∀xs,bj K H a xs→xs[i]? =some x,fun i H=>∃xs,bj K H a xs∧xs.length≤i⟩
noncomputable def Itt(K:PySem.W.Frag)(a:Addr):It:=
 ⟨fun i H=>∃xs x,iT K H a xs∧xs[i]? =some x,fun i H x H'=>H'=H∧∀xs,iT K H a xs→xs[i]? =some x,fun i H=>∃xs,iT K H a xs∧xs.length≤i⟩
noncomputable def Zx(lo:Int)(n:Nat):It:=⟨fun i _=>i<n,fun i H x H'=>H'=H∧x= .int (lo+i),fun i _=>n≤i⟩
theorem Rx{P:Program}{w:World}{K:PySem.W.Frag}{tg:Expr}(a it:Addr):Turn P w K tg (Yk K a) [it] it (fun i h=>h.IsListIter it a i) where
 mem:=by simp
 obj:=fun i h st b hb=>by
  have e:b=it:=by simpa using hb
  subst e
  obtain⟨o,e,c,d⟩:=st
  exact⟨o,e,fun v z=>by rw[d]at z;cases z⟩
 keep:=fun i h h' st k=>st.at fun o e=>k it (by simp) o e
 item:=by
  intro X hP hw hK hc i pins s σ H E I hf st hg
  subst hP hw hK
  obtain⟨xs,x,hq,hx⟩:=hg
  obtain⟨its,rv,p,hz⟩:=I.list hq
  obtain⟨u,hu,ru⟩:=rv.get hx
  obtain⟨f0,f1,f2,f3,f4,f5⟩:=hf it (by simp)
  refine wpAny_pyNext_list_item st p.isList (x:=u) (by simpa using hu) fun h' st' sb=> ?_
  have I1:Inv X pins σ H {s with heap:=h'}:=I.turned (t':=s.toks) (fun b o hb e=>(sb.2 b hb).trans e) f0 f1 f3 f4 f5
  obtain⟨o,e,c,d⟩:=id st'
  exact⟨u,rfl,Ko (s:= {s with heap:=h'}) e c d (by decide) ⟨x,H,I1,ru,⟨rfl,fun ys hy=>by rw[I.xN hy hq];exact hx⟩,st',fun b hb=>(hf b hb).1⟩⟩
 done:=by
  intro X hP hw hK hc i pins s σ H E I hf st hg
  subst hP hw hK
  obtain⟨xs,hq,hx⟩:=hg
  obtain⟨its,rv,p,hz⟩:=I.list hq
  obtain⟨f0,f1,f2,f3,f4,f5⟩:=hf it (by simp)
  have hl:=rv.length
  exact wpAny_pyNext_list_end (I.ok.hd hc) st p.isList (by simp;omega) fun h' eb=>⟨rfl,I.turned (t':=s.toks) (fun b o hb e=>eb b o hb e) f0 f1 f3 f4 f5⟩
 self:=fun _ _ _ _ _ st h=>wpAny_pyIter_listiter st h
theorem NB{P:Program}{w:World}{K:PySem.W.Frag}{tg:Expr}(a it:Addr):Turn P w K tg (Itt K a) [it] it (fun i h=>h.IsTupleIter it a i) where
 mem:=by simp
 obj:=fun i h st b hb=>by
  have e:b=it:=by simpa using hb
  subst e
  obtain⟨o,e,c,d⟩:=st
  exact⟨o,e,fun v z=>by rw[d]at z;cases z⟩
 keep:=fun i h h' st k=>st.at fun o e=>k it (by simp) o e
 item:=by
  intro X hP hw hK hc i pins s σ H E I hf st hg
  subst hP hw hK
  obtain⟨xs,x,hq,hx⟩:=hg
  obtain⟨its,rv,p,hz⟩:=I.tuple hq
  obtain⟨u,hu,ru⟩:=rv.get hx
  obtain⟨f0,f1,f2,f3,f4,f5⟩:=hf it (by simp)
  refine wpAny_pyNext_tuple_item st (show s.heap.IsTuple a its.toArray from p) (x:=u) (by simpa using hu) fun h' st' sb=> ?_
  have I1:Inv X pins σ H {s with heap:=h'}:=I.turned (t':=s.toks) (fun b o hb e=>(sb.2 b hb).trans e) f0 f1 f3 f4 f5
  obtain⟨o,e,c,d⟩:=id st'
  exact⟨u,rfl,Ko (s:= {s with heap:=h'}) e c d (by decide) ⟨x,H,I1,ru,⟨rfl,fun ys hy=>by rw[I.Rv hy hq];exact hx⟩,st',fun b hb=>(hf b hb).1⟩⟩
 done:=by
  intro X hP hw hK hc i pins s σ H E I hf st hg
  subst hP hw hK
  obtain⟨xs,hq,hx⟩:=hg
  obtain⟨its,rv,p,hz⟩:=I.tuple hq
  obtain⟨f0,f1,f2,f3,f4,f5⟩:=hf it (by simp)
  have hl:=rv.length
  exact wpAny_pyNext_tuple_end (I.ok.hd hc) st (show s.heap.IsTuple a its.toArray from p) (by simp;omega) fun h' eb=>⟨rfl,I.turned (t':=s.toks) (fun b o hb e=>eb b o hb e) f0 f1 f3 f4 f5⟩
 self:=fun _ _ _ _ _ st h=>wpAny_pyIter_tupleiter st h
theorem NK{P:Program}{w:World}{K:PySem.W.Frag}{tg:Expr}(it:Addr)(lo:Int)(n:Nat):Turn P w K tg (Zx lo n) [it] it (fun i h=>IsRangeIter h it (lo+(i:Nat)*1) ((n:Int)-(i:Nat)) 1) where
 mem:=by simp
 obj:=fun i h st b hb=>by
  have e:b=it:=by simpa using hb
  subst e
  exact⟨_,st,fun v z=>by
   have z':Data.fields _=Data.cell v:=z
   cases z'⟩
 keep:=fun i h h' st k=>k it (by simp) _ st
 item:=by
  intro X hP hw hK hc i pins s σ H E I hf st hg
  subst hP hw hK
  obtain⟨f0,f1,f2,f3,f4,f5⟩:=hf it (by simp)
  have W:=Walks.range (prog:=X.prog) (w:=X.w) (I.ok.hd hc) it lo 1 n
  refine W.item i s _ _ hg st fun v h' tk hv st' kk=> ?_
  obtain⟨t,rfl⟩:=hv
  have I1:Inv X pins σ H {s with heap:=h',toks:=tk}:=I.turned (fun b o hb e=>kk b o (by simpa using hb) e) f0 f1 f3 f4 f5
  refine⟨_,rfl,Ko (s:= {s with heap:=h',toks:=tk}) (n:= "range_iterator") st' rfl rfl (by decide) ⟨.int (lo+i),H,I1,⟨t,?_⟩,⟨rfl,rfl⟩,st',fun b hb=>(hf b hb).1⟩⟩
  rw[Int.mul_one]
 done:=by
  intro X hP hw hK hc i pins s σ H E I hf st hg
  subst hP hw hK
  obtain⟨f0,f1,f2,f3,f4,f5⟩:=hf it (by simp)
  exact wpAny_pyNext_range_end (I.ok.hd hc) st (by have:n≤i:=hg;omega) fun h' eb=>⟨rfl,I.turned (t':=s.toks) (fun b o hb e=>eb b o hb e) f0 f1 f3 f4 f5⟩
 self:=fun _ _ _ _ _ st h=>wpAny_pyIter_rangeiter st h
end L2
namespace L2
open PySem PySem.Spec PyProof.Rows
section
variable{X:Cx}{tg:Expr}
noncomputable def abl(K:PySem.W.Frag)(tl:TE):TI:=fun σ H R=>tl σ H fun x H1=>∃a,x= .ref a∧(∃xs,bj K H1 a xs)∧R (Yk K a) H1
noncomputable def adN(K:PySem.W.Frag)(tl:TE):TI:=fun σ H R=>tl σ H fun x H1=>∃a,x= .ref a∧(∃xs,iT K H1 a xs)∧R (Itt K a) H1
theorem ik{l:Expr}{tl:TE}(hl:PE X l tl):PI X tg l (abl X.K tl):=by
 intro pins s σ H R I h
 refine dN (hl pins s σ H _ I h) fun v s1 ⟨x,H1,I1,r1,q1⟩=> ?_
 obtain⟨a,e,⟨xs,hq⟩,q⟩:=q1
 subst e
 cases r1
 obtain⟨its,rv,p,hz⟩:=I1.list hq
 refine wpAny_pyIter_list p.isList ?_
 refine⟨s1.heap.objs.size,[s1.heap.objs.size],_,_,H1,rfl,I1.kept (t':=s1.toks) fun b o e=>Heap.get?_push_of_some _ e,Rx a _,⟨_,Heap.get?_push_size _ rfl,rfl,rfl⟩,fun b hb=> ?_,q⟩
 have e:b=s1.heap.objs.size:=by simpa using hb
 subst e
 exact I1.Km (Nat.le_refl _) (I1.hok.fresh (Nat.le_refl _))
theorem zg{l:Expr}{tl:TE}(hl:PE X l tl):PI X tg l (adN X.K tl):=by
 intro pins s σ H R I h
 refine dN (hl pins s σ H _ I h) fun v s1 ⟨x,H1,I1,r1,q1⟩=> ?_
 obtain⟨a,e,⟨xs,hq⟩,q⟩:=q1
 subst e
 cases r1
 obtain⟨its,rv,p,hz⟩:=I1.tuple hq
 refine wpAny_pyIter_tuple (show s1.heap.IsTuple a its.toArray from p) ?_
 refine⟨s1.heap.objs.size,[s1.heap.objs.size],_,_,H1,rfl,I1.kept (t':=s1.toks) fun b o e=>Heap.get?_push_of_some _ e,NB a _,⟨_,Heap.get?_push_size _ rfl,rfl,rfl⟩,fun b hb=> ?_,q⟩
 have e:b=s1.heap.objs.size:=by simpa using hb
 subst e
 exact I1.Km (Nat.le_refl _) (I1.hok.fresh (Nat.le_refl _))
theorem Kr{pins:List (Addr × Obj)}{σ:St}{H:Hp}{s:Shared}{R:It→Hp→Prop}{E:Value→Shared→Prop}{lo hi:Int}{t u v:Tok}{tk:Nat}(I:Inv X pins σ H s)(h1: -(2 ^ 62)≤lo)(h2:lo<2 ^ 62)(h3: -(2 ^ 62)≤hi)(h4:hi<2 ^ 62)
  (q:R (Zx lo (hi-lo).toNat) H):wpAny (model X.prog X.w) X.A (pyIter (.ref s.heap.objs.size)) (PIE X pins σ tg R) E {s with heap:=s.heap.push {cls:= .type "range",data:= .fields #[.int lo t,.int hi u,.int 1 v]},toks:=tk}:=by
 refine wpAny_pyIter_range (IsRange.new ..) (small_one h1 h2 h3 h4) ?_
 have I1:Inv X pins σ H {s with heap:=s.heap.push {cls:= .type "range",data:= .fields #[.int lo t,.int hi u,.int 1 v]},toks:=tk}:=I.kept fun b o e=>Heap.get?_push_of_some _ e
 refine⟨(s.heap.push {cls:= .type "range",data:= .fields #[.int lo t,.int hi u,.int 1 v]}).objs.size,[(s.heap.push {cls:= .type "range",data:= .fields #[.int lo t,.int hi u,.int 1 v]}).objs.size],_,_,H,rfl,
  I1.kept (t':=tk) fun b o e=>Heap.get?_push_of_some _ e,NK _ lo (hi-lo).toNat,?_,fun b hb=> ?_,q⟩
 ·have e1:lo+((0 :Nat):Int)*1=lo:=by simp
  have e2:(((hi-lo).toNat:Nat):Int)-((0 :Nat):Int)=Builtin.Range.rangeSize lo hi 1:=by rw[rangeSize_one];split<;>omega
  show IsRangeIter _ _ (lo+((0 :Nat):Int)*1) ((((hi-lo).toNat:Nat):Int)-((0 :Nat):Int)) 1
  rw[e1,e2]
  exact Heap.get?_push_size _ rfl
 ·have e:b=(s.heap.push {cls:= .type "range",data:= .fields #[.int lo t,.int hi u,.int 1 v]}).objs.size:=by simpa using hb
  subst e
  exact I1.Km (Nat.le_refl _) (I1.hok.fresh (Nat.le_refl _))
noncomputable def abm(ta:TA):TI:=fun σ H R=>ta σ H fun vs H1=>∃j:Int,vs= [.int j]∧ -(2 ^ 62)≤j∧j<2 ^ 62∧R (Zx 0 j.toNat) H1
noncomputable def abn(ta:TA):TI:=fun σ H R=>ta σ H fun vs H1=>∃i j:Int,vs= [.int i,.int j]∧(-(2 ^ 62)≤i∧i<2 ^ 62∧ -(2 ^ 62)≤j∧j<2 ^ 62)∧R (Zx i (j-i).toNat) H1
theorem uO{a:Expr}{ta:TA}{p pos:Pos}(hg:Gl X "range")(hm:X.mg "range" =none)(ha:PA X [a] ta)(hs:starEach [a] X.env= [(false,eval a X.env)]:=by rfl):PI X tg (.Call (.Name "range" p) [a] [] pos) (abm ta):=by
 intro pins s σ H R I h
 refine Call_ (qd I hg hm boot_range (PyProof.Rows.callWith_type1 (dN (ha pos pins s σ H _ I h) fun us s1 ⟨vs,H1,I1,r1,q1⟩=> ?_) hs rfl))
 obtain⟨j,e,q1,q2,q⟩:=q1
 subst e
 cases r1 with
 | cons r rr=>
  cases rr
  obtain⟨t,rfl⟩:=r
  exact call_range_1 (Kr I1 (by omega) (by omega) q1 q2 (by simpa using q))
theorem zj{a b:Expr}{ta:TA}{p pos:Pos}(hg:Gl X "range")(hm:X.mg "range" =none)(ha:PA X [a,b] ta)(hs:starEach [a,b] X.env= [(false,eval a X.env),(false,eval b X.env)]:=by rfl)(hs2:starEach [b] X.env= [(false,eval b X.env)]:=by rfl):
  PI X tg (.Call (.Name "range" p) [a,b] [] pos) (abn ta):=by
 intro pins s σ H R I h
 refine Call_ (qd I hg hm boot_range (PyProof.Rows.callWith_type1 (dN (ha pos pins s σ H _ I h) fun us s1 ⟨vs,H1,I1,r1,q1⟩=> ?_) (by rw[hs,hs2]) (by rw[hs2];rfl)))
 obtain⟨i,j,e,⟨q1,q2,q3,q4⟩,q⟩:=q1
 subst e
 cases r1 with
 | cons r rr=>
  cases rr with
  | cons r' rr=>
   cases rr
   obtain⟨t,rfl⟩:=r
   obtain⟨t',rfl⟩:=r'
   exact call_range_2 (Kr I1 q1 q2 q3 q4 q)
noncomputable def adO(wi:TI)(g:TG)(tb:TS):TS:=fun D σ H=>wi σ H fun J H1=>∃W:Nat→Nat→St→Hp→Prop,(∃m,W 0 m σ H1)∧∀i m σ H,W i m σ H→
 (J.stop i H∧D.nx σ H)∨(J.go i H∧∃N:St→Hp→Prop,(∀σ' H',N σ' H'→∃m',m'<m∧W (i+1) m' σ' H')∧∀x H',J.T6 i H x H'→g x σ H' fun sG H2=>tb {D with nx:=N,ct:=N,bk:=D.nx} sG H2)
noncomputable def CT(fp:List Addr)(h:Heap):List (Addr × Obj):=fp.filterMap fun b=>(h.get? b).map fun o=>(b,o)
theorem wG{fp:List Addr}{h:Heap}{b:Addr}{o:Obj}(hb:b ∈ fp)(e:h.get? b=some o):(b,o) ∈ CT fp h:=List.mem_filterMap.mpr ⟨b,hb,by rw[e];rfl⟩
theorem Ry{fp:List Addr}{h:Heap}{p:Addr × Obj}(hp:p ∈ CT fp h):p.1 ∈ fp∧h.get? p.1=some p.2:=by
 obtain⟨b,hb,e⟩:=List.mem_filterMap.mp hp
 cases q:h.get? b with
 | none=>rw[q]at e;cases e
 | some o=>
  rw[q]at e
  have e':(b,o)=p:=Option.some.inj e
  subst e'
  exact⟨hb,q⟩
theorem Inv.pinned {pins:List (Addr × Obj)} {σ:St} {H:Hp} {s:Shared} {fp:List Addr} (I:Inv X pins σ H s) (hf:∀b ∈ fp,BP X pins H b) (ho:∀b ∈ fp,∃o,s.heap.get? b=some o∧∀v,o.data≠ .cell v):Inv X (pins++CT fp s.heap) σ H s:=
 I.Qq fun p hp=>(List.mem_append.mp hp).elim (fun z=>I.pin p (List.mem_append_right _ z)) fun z=>by
  obtain⟨hb,e⟩:=Ry z
  obtain⟨f0,f1,f2,_⟩:=hf p.1 hb
  obtain⟨o,e',d⟩:=ho p.1 hb
  rw[e]at e';cases e'
  exact⟨e,f0,f1,f2,d⟩
theorem Inv.xO {pins pl:List (Addr × Obj)} {σ:St} {H:Hp} {s:Shared} (I:Inv X (pins++pl) σ H s):Inv X pins σ H s:=I.Qq fun p hp=>I.pin p (List.mem_append_right _ (List.mem_append_left _ hp))
theorem dC{iter:Expr}{body:List Stmt}{wi:TI}{g:TG}{tb:TS}{pos:Pos}(hp:PassesOwn (model X.prog X.w) X.A X.env X.xe)(hc:X.calm=true)(hi:PI X tg iter wi)(hg:PG X tg g)(hb:Nq X body tb)
  (hs:∀x,foldedSetIterable iter X.env x=pure x:=by intro _;rfl):PS X (.For tg iter body [] pos) (adO wi g tb):=by
 intro pins s σ H D I h
 refine wpAny_For (dN (hi pins s σ H _ I h) fun v s1 h1=>dN h1 fun itv s2 h2=> ?_) hs
 obtain⟨it,fp,tn,J,H2,e,I2,T,st2,f2,W,⟨m0,w0⟩,turn⟩:=h2
 subst e
 have stat:∀ {H':Hp},(∀b ∈ fp,H' b=none)→∀b ∈ fp,BP X pins H' b:=fun hn b hb=>⟨hn b hb,(f2 b hb).2⟩
 refine codeAny_forLoop_any (fun n s'=>∃i σ' H',Inv X pins σ' H' s'∧tn i s'.heap∧(∀b ∈ fp,H' b=none)∧W i n σ' H') ?_ m0 ⟨0,σ,H2,I2,st2,fun b hb=>(f2 b hb).1,w0⟩
 rintro n s3 ⟨i,T5,H3,I3,st3,zm,w3⟩
 rcases turn i n T5 H3 w3 with ⟨stop,qn⟩ | ⟨go,N,hN,step⟩
 ·refine wpAny_passesOwn hp (dN (T.done X rfl rfl rfl hc i pins s3 T5 H3 X.xe I3 (stat zm) st3 stop) fun r s4 ⟨hr,I4⟩=> ?_)
  subst hr
  exact wpAny_execs_nil ⟨T5,H3,I4,qn⟩
 ·refine wpAny_passesOwn hp (dN (T.item X rfl rfl rfl hc i pins s3 T5 H3 X.xe I3 (stat zm) st3 go) fun r s4 ⟨u,hr,h4⟩=> ?_)
  subst hr
  refine wpAny_passesOwn hp (dN h4 fun _ s5 ⟨x,H5,I5,r5,y5,st5,fr5⟩=> ?_)
  have I5':=I5.pinned (stat fr5) (T.obj _ _ st5)
  refine wpAny_passesOwn hp (dN (hg _ s5 T5 H5 x u _ I5' r5 (step x H5 y5)) fun _ s6 ⟨σ6,H6,I6,q6⟩=> ?_)
  refine wpAny_passesOwn hp (dN (hb _ s6 σ6 H6 _ I6 q6) fun f s7 q7=> ?_)
  have again:∀ {T7:St}{H7:Hp},Inv X (pins++CT fp s5.heap) T7 H7 s7→N T7 H7→∃m,m<n∧∃i σ' H',Inv X pins σ' H' s7∧tn i s7.heap∧(∀b ∈ fp,H' b=none)∧W i m σ' H':=fun{T7 H7}I7 n7=>by
   obtain⟨m',hm,w7⟩:=hN T7 H7 n7
   refine⟨m',hm,i+1,T7,H7,I7.xO,T.keep _ _ _ st5 fun b hb o e=>(I7.pin (b,o) (List.mem_append_right _ (List.mem_append_right _ (wG hb e)))).1,fun b hb=> ?_,w7⟩
   obtain⟨o,e,d⟩:=T.obj _ _ st5 b hb
   exact(I7.pin (b,o) (List.mem_append_right _ (List.mem_append_right _ (wG hb e)))).2.1
  cases f with
  | next=>obtain⟨T7,H7,I7,n7⟩:=q7;exact again I7 n7
  | cont=>obtain⟨T7,H7,I7,n7⟩:=q7;exact again I7 n7
  | brk=>obtain⟨T7,H7,I7,q7⟩:=q7;exact⟨T7,H7,I7.xO,q7⟩
  | ret v=>obtain⟨x7,T7,H7,I7,r7,q7⟩:=q7;exact⟨x7,T7,H7,I7.xO,r7,q7⟩
end
theorem lu{K:PySem.W.Frag}{a:Addr}{xs:List V}{g:TG}{tb:TS}{D:Ends}{σ:St}{H:Hp}(Pv:Nat→St→Hp→Prop)(h0:Pv 0 σ H)(hl:∀i σ H,i≤xs.length→Pv i σ H→bj K H a xs)
  (hs:∀i x σ H,xs[i]? =some x→Pv i σ H→g x σ H fun sG H2=>tb {D with nx:=Pv (i+1),ct:=Pv (i+1),bk:=D.nx} sG H2) (hd:∀σ H,Pv xs.length σ H→D.nx σ H):
  ∃W:Nat→Nat→St→Hp→Prop,(∃m,W 0 m σ H)∧∀i m σ H,W i m σ H→
   ((Yk K a).stop i H∧D.nx σ H)∨((Yk K a).go i H∧∃N:St→Hp→Prop,(∀σ' H',N σ' H'→∃m',m'<m∧W (i+1) m' σ' H')∧∀x H',(Yk K a).T6 i H x H'→g x σ H' fun sG H2=>tb {D with nx:=N,ct:=N,bk:=D.nx} sG H2):=by
 refine⟨fun i m σ H=>m=xs.length-i∧i≤xs.length∧Pv i σ H,⟨xs.length,by simp,Nat.zero_le _,h0⟩,?_⟩
 rintro i m σ H ⟨rfl,hi,p⟩
 have q:=hl i σ H hi p
 by_cases hlt:i<xs.length
 ·refine .inr ⟨⟨xs,xs[i],q,by simp[hlt]⟩,Pv (i+1),fun σ' H' p'=>⟨xs.length-(i+1),by omega,rfl,hlt,p'⟩,fun x H' y=> ?_⟩
  obtain⟨e,y⟩:=y
  subst e
  exact hs i x σ _ (y xs q) p
 ·have e:i=xs.length:=by omega
  subst e
  exact .inl ⟨⟨xs,q,Nat.le_refl _⟩,hd σ H p⟩
theorem Cw{K:PySem.W.Frag}{a:Addr}{xs:List V}{g:TG}{tb:TS}{D:Ends}{σ:St}{H:Hp}(Pv:Nat→St→Hp→Prop)(h0:Pv 0 σ H)(hl:∀i σ H,i≤xs.length→Pv i σ H→iT K H a xs)
  (hs:∀i x σ H,xs[i]? =some x→Pv i σ H→g x σ H fun sG H2=>tb {D with nx:=Pv (i+1),ct:=Pv (i+1),bk:=D.nx} sG H2) (hd:∀σ H,Pv xs.length σ H→D.nx σ H):
  ∃W:Nat→Nat→St→Hp→Prop,(∃m,W 0 m σ H)∧∀i m σ H,W i m σ H→
   ((Itt K a).stop i H∧D.nx σ H)∨((Itt K a).go i H∧∃N:St→Hp→Prop,(∀σ' H',N σ' H'→∃m',m'<m∧W (i+1) m' σ' H')∧∀x H',(Itt K a).T6 i H x H'→g x σ H' fun sG H2=>tb {D with nx:=N,ct:=N,bk:=D.nx} sG H2):=by
 refine⟨fun i m σ H=>m=xs.length-i∧i≤xs.length∧Pv i σ H,⟨xs.length,by simp,Nat.zero_le _,h0⟩,?_⟩
 rintro i m σ H ⟨rfl,hi,p⟩
 have q:=hl i σ H hi p
 by_cases hlt:i<xs.length
 ·refine .inr ⟨⟨xs,xs[i],q,by simp[hlt]⟩,Pv (i+1),fun σ' H' p'=>⟨xs.length-(i+1),by omega,rfl,hlt,p'⟩,fun x H' y=> ?_⟩
  obtain⟨e,y⟩:=y
  subst e
  exact hs i x σ _ (y xs q) p
 ·have e:i=xs.length:=by omega
  subst e
  exact .inl ⟨⟨xs,q,Nat.le_refl _⟩,hd σ H p⟩
theorem pH{lo:Int}{n:Nat}{g:TG}{tb:TS}{D:Ends}{σ:St}{H:Hp}(Pv:Nat→St→Hp→Prop)(h0:Pv 0 σ H)
  (hs:∀i σ H,i<n→Pv i σ H→g (.int (lo+i)) σ H fun sG H2=>tb {D with nx:=Pv (i+1),ct:=Pv (i+1),bk:=D.nx} sG H2) (hd:∀σ H,Pv n σ H→D.nx σ H):
  ∃W:Nat→Nat→St→Hp→Prop,(∃m,W 0 m σ H)∧∀i m σ H,W i m σ H→
   ((Zx lo n).stop i H∧D.nx σ H)∨((Zx lo n).go i H∧∃N:St→Hp→Prop,(∀σ' H',N σ' H'→∃m',m'<m∧W (i+1) m' σ' H')∧∀x H',(Zx lo n).T6 i H x H'→g x σ H' fun sG H2=>tb {D with nx:=N,ct:=N,bk:=D.nx} sG H2):=by
 refine⟨fun i m σ H=>m=n-i∧i≤n∧Pv i σ H,⟨n,by simp,Nat.zero_le _,h0⟩,?_⟩
 rintro i m σ H ⟨rfl,hi,p⟩
 by_cases hlt:i<n
 ·refine .inr ⟨hlt,Pv (i+1),fun σ' H' p'=>⟨n-(i+1),by omega,rfl,hlt,p'⟩,fun x H' y=> ?_⟩
  obtain⟨e,y⟩:=y
  subst e y
  exact hs i σ _ hlt p
 ·have e:i=n:=by omega
  subst e
  exact .inl ⟨Nat.le_refl _,hd σ H p⟩
end L2
namespace L2
open PySem PySem.Spec PyProof.Rows
noncomputable abbrev R2:=V→V→Hp→VK→Prop
noncomputable def wH(X:Cx)(f:Value→Value→Sem Value)(r:R2):Prop:=
 ∀(pins:List (Addr × Obj))(s:Shared)(σ:St)(H:Hp)(x y:V)(v u:Value)(Q:VK),Inv X pins σ H s→RelV x v→RelV y u→r x y H Q→
  wpAny (model X.prog X.w) X.A (f v u) (EP X pins σ Q) X.xe s
noncomputable def UnR(X:Cx)(f:Value→Sem Value)(r:V→Hp→VK→Prop):Prop:=
 ∀(pins:List (Addr × Obj))(s:Shared)(σ:St)(H:Hp)(x:V)(v:Value)(Q:VK),Inv X pins σ H s→RelV x v→r x H Q→
  wpAny (model X.prog X.w) X.A (f v) (EP X pins σ Q) X.xe s
noncomputable def xP(X:Cx)(f:Value)(r:List V→Hp→VK→Prop):Prop:=
 ∀(pins:List (Addr × Obj))(s:Shared)(σ:St)(H:Hp)(xs:List V)(us:List Value)(Q:VK),Inv X pins σ H s→Vals xs us→r xs H Q→
  wpAny (model X.prog X.w) X.A (call f us) (EP X pins σ Q) X.xe s
noncomputable def adQ(X:Cx)(r:V→Hp→(Bool→Hp→Prop)→Prop):Prop:=
 ∀(pins:List (Addr × Obj))(s:Shared)(σ:St)(H:Hp)(x:V)(v:Value)(Q:Bool→Hp→Prop),Inv X pins σ H s→RelV x v→r x H Q→
  wpAny (model X.prog X.w) X.A (truthy v) (TP X pins σ Q) X.xe s
noncomputable def tOp(r:R2)(ta tb:TE):TE:=fun σ H Q=>ta σ H fun x H1=>tb σ H1 fun y H2=>r x y H2 Q
noncomputable def tUn(r:V→Hp→VK→Prop)(ta:TE):TE:=fun σ H Q=>ta σ H fun x H1=>r x H1 Q
noncomputable def rI(C:Int→Int→Prop)(g:Int→Int→V):R2:=fun x y H Q=>∃i j,x= .int i∧y= .int j∧C i j∧Q (g i j) H
noncomputable def Wb(g:Int→Int→V):R2:=fun x y H Q=>∃i j,x= .int i∧y= .int j∧Q (g i j) H
noncomputable def rU(g:Int→V):V→Hp→VK→Prop:=fun x H Q=>∃i,x= .int i∧Q (g i) H
section
variable{X:Cx}{a b c:Expr}{ta tb tc:TE}{pos:Pos}
theorem Zy(ha:PE X a ta)(hb:PE X b tb){pins:List (Addr × Obj)}{s:Shared}{σ:St}{H:Hp}{R:V→V→Hp→Prop}(I:Inv X pins σ H s)
  (h:ta σ H fun x H1=>tb σ H1 fun y H2=>R x y H2) {Q:Value→Shared→Prop} {f:Value→Value→Sem Value}
  (hf:∀v u s2 x y H2,Inv X pins σ H2 s2→RelV x v→RelV y u→R x y H2→wpAny (model X.prog X.w) X.A (f v u) Q X.xe s2):
  wpAny (model X.prog X.w) X.A (eval a X.env) (fun v s₁=>wpAny (model X.prog X.w) X.A (eval b X.env) (fun u s₂=>wpAny (model X.prog X.w) X.A (f v u) Q X.xe s₂) X.xe s₁) X.xe s:=by
 refine dN (ha pins s σ H _ I h) fun v s1 ⟨x,H1,I1,r1,q1⟩=> ?_
 refine dN (hb pins s1 σ H1 _ I1 q1) fun u s2 ⟨y,H2,I2,r2,q2⟩=> ?_
 exact hf v u s2 x y H2 I2 r1 r2 q2
theorem bf{op:Operator}{r:R2}(ho:wH X (binaryOp op) r)(ha:PE X a ta)(hb:PE X b tb):PE X (.BinOp a op b pos) (tOp r ta tb):=by
 intro pins s σ H Q I h
 exact wpAny_BinOp (Zy ha hb I h fun v u s2 x y H2 I2 rx ry q=>ho pins s2 σ H2 x y v u Q I2 rx ry q)
theorem Yl{op:UnaryOp}{r:V→Hp→VK→Prop}(ho:UnR X (unaryOp op) r)(ha:PE X a ta):PE X (.UnaryOp op a pos) (tUn r ta):=by
 intro pins s σ H Q I h
 exact UnaryOp_ (dN (ha pins s σ H _ I h) fun v s1 ⟨x,H1,I1,r1,q1⟩=>ho pins s1 σ H1 x v Q I1 r1 q1)
theorem opI{f:Value→Value→Sem Value}{C:Int→Int→Prop}{g:Int→Int→Int}
  (rule:∀(i j:Int)(t u:Tok)(s:Shared)(Q:Value→Shared→Prop)(E:Value→Shared→Prop),C i j→Q (.int (g i j) s.toks) {s with toks:=s.toks+1}→wpAny (model X.prog X.w) X.A (f (.int i t) (.int j u)) Q E s):
  wH X f (rI C fun i j=> .int (g i j)):=by
 intro pins s σ H x y v u Q I rx ry h
 obtain⟨i,j,rfl,rfl,hc,q⟩:=h
 obtain⟨t,rfl⟩:=rx
 obtain⟨t',rfl⟩:=ry
 exact rule i j t t' s _ _ hc ⟨.int (g i j),H,I.tok _,⟨_,rfl⟩,q⟩
theorem Wt{f:Value→Value→Sem Value}{g:Int→Int→Int}
  (rule:∀(i j:Int)(t u:Tok)(s:Shared)(Q:Value→Shared→Prop)(E:Value→Shared→Prop),Q (.int (g i j) s.toks) {s with toks:=s.toks+1}→wpAny (model X.prog X.w) X.A (f (.int i t) (.int j u)) Q E s):
  wH X f (Wb fun i j=> .int (g i j)):=by
 intro pins s σ H x y v u Q I rx ry h
 obtain⟨i,j,rfl,rfl,q⟩:=h
 obtain⟨t,rfl⟩:=rx
 obtain⟨t',rfl⟩:=ry
 exact rule i j t t' s _ _ ⟨.int (g i j),H,I.tok _,⟨_,rfl⟩,q⟩
theorem Wu{f:Value→Value→Sem Value}{g:Int→Int→Bool}
  (rule:∀(i j:Int)(t u:Tok)(s:Shared)(Q:Value→Shared→Prop)(E:Value→Shared→Prop),Q (.bool (g i j)) s→wpAny (model X.prog X.w) X.A (f (.int i t) (.int j u)) Q E s):
  wH X f (Wb fun i j=> .bl (g i j)):=by
 intro pins s σ H x y v u Q I rx ry h
 obtain⟨i,j,rfl,rfl,q⟩:=h
 obtain⟨t,rfl⟩:=rx
 obtain⟨t',rfl⟩:=ry
 exact rule i j t t' s _ _ ⟨.bl (g i j),H,I,rfl,q⟩
noncomputable def adR(i j:Int):Prop:=0<j∧j<1073741824
noncomputable def adS(i j:Int):Prop:=0≤j∧j≤1000000∧i.natAbs<2 ^ 64
noncomputable def Zz(i j:Int):Prop:=(-(2 ^ 64)<i∧i<2 ^ 64)∨(-(2 ^ 64)<j∧j<2 ^ 64)
theorem Zz.ok {i j:Int} (h:Zz i j):IntMulOk i j:=by
 rcases h with ⟨h1,h2⟩ | ⟨h1,h2⟩
 ·exact .of_left (intBits_le_64 h1 h2)
 ·exact .of_right (intBits_le_64 h1 h2)
theorem NP(k:Nat):(0 :Int)≤2 ^ k:=by
 rw[two_pow_cast]
 exact Int.natCast_nonneg _
theorem eY:wH X (binaryOp .Add) (Wb fun i j=> .int (i+j)):=Wt fun _ _ _ _ _ _ _ q=>add_int q
theorem oG:wH X (binaryOp .Sub) (Wb fun i j=> .int (i-j)):=Wt fun _ _ _ _ _ _ _ q=>sub_int q
theorem qe:wH X (binaryOp .Mult) (rI Zz fun i j=> .int (i*j)):=opI fun _ _ _ _ _ _ _ hc q=>mul_int q hc.ok
theorem Wv:wH X (binaryOp .FloorDiv) (rI adR fun i j=> .int (i / j)):=opI fun i j _ _ _ _ _ hc q=>by
 have h1:(0 :Int)<j:=hc.1
 have h2:j<1073741824:=hc.2
 exact floordiv_int (by omega) (by rw[Int.fdiv_eq_ediv_of_nonneg i (by omega)];exact q) (.inl (PyProof.noPylong_small (by omega)))
theorem T8:wH X (binaryOp .Mod) (rI (fun _ j=>0<j) fun i j=> .int (i % j)):=opI fun i j _ _ _ _ _ hc q=>by
 have h1:(0 :Int)<j:=hc
 exact mod_int' (by omega) (by rw[Int.fmod_eq_emod_of_nonneg i (by omega)];exact q)
theorem NQ:wH X (binaryOp .LShift) (rI adS fun i j=> .int (i*2 ^ j.toNat)):=opI fun _ _ _ _ _ _ _ hc q=>lshift_int_small hc.1 hc.2.1 hc.2.2 q
theorem Ja:wH X (binaryOp .RShift) (rI (fun _ j=>0≤j) fun i j=> .int (i / 2 ^ j.toNat)):=opI fun i j _ _ _ _ _ hc q=>
 rshift_int hc (by rw[Int.fdiv_eq_ediv_of_nonneg i (NP _)];exact q)
theorem zp:wH X (binaryOp .BitAnd) (Wb fun i j=> .int (Builtin.bitAnd i j)):=Wt fun _ _ _ _ _ _ _ q=>and_int q
theorem abp:wH X (binaryOp .BitOr) (Wb fun i j=> .int (Builtin.bitOr i j)):=Wt fun _ _ _ _ _ _ _ q=>or_int q
theorem unI{f:Value→Sem Value}{g:Int→Int}
  (rule:∀(i:Int)(t:Tok)(s:Shared)(Q:Value→Shared→Prop)(E:Value→Shared→Prop),Q (.int (g i) s.toks) {s with toks:=s.toks+1}→wpAny (model X.prog X.w) X.A (f (.int i t)) Q E s):
  UnR X f (rU fun i=> .int (g i)):=by
 intro pins s σ H x v Q I rx h
 obtain⟨i,rfl,q⟩:=h
 obtain⟨t,rfl⟩:=rx
 exact rule i t s _ _ ⟨.int (g i),H,I.tok _,⟨_,rfl⟩,q⟩
theorem T9:UnR X (unaryOp .USub) (rU fun i=> .int (-i)):=unI fun _ _ _ _ _ q=>neg_int q
end
noncomputable def ZC:V→V→Bool
 | .non,.non=>true | .non,.int _=>true | .int _,.non=>true | .non,.bl _=>true | .bl _,.non=>true | .non,.str _=>true | .str _,.non=>true
 | .int _,.int _=>true | .bl _,.bl _=>true | .str _,.str _=>true | .Qo _,.Qo _=>true
 | .int _,.str _=>true | .str _,.int _=>true | .bl _,.str _=>true | .str _,.bl _=>true
 | _,_=>false
noncomputable def rEq:R2:=fun x y H Q=>ZC x y=true∧Q (.bl (decide (x=y))) H
noncomputable def rNe:R2:=fun x y H Q=>ZC x y=true∧Q (.bl (!decide (x=y))) H
theorem Qt{i j:Int}:decide (V.int i=V.int j)=(i==j):=by
 rw[Bool.eq_iff_iff]
 simp
theorem Ua{i j:Bool}:decide (V.bl i=V.bl j)=(i==j):=by
 rw[Bool.eq_iff_iff]
 simp
theorem Qu{i j:Str}:decide (V.str i=V.str j)=(i==j):=by
 rw[Bool.eq_iff_iff]
 simp
theorem Qv{i j:Array UInt8}:decide (V.Qo i=V.Qo j)=(i.toList==j.toList):=by
 rw[Bool.eq_iff_iff]
 cases i
 cases j
 simp
section
variable{X:Cx}{a b c:Expr}{ta tb tc:TE}{pos:Pos}
theorem cD{pins:List (Addr × Obj)}{σ:St}{H:Hp}{s:Shared}{Q:VK}{k k':Bool}(I:Inv X pins σ H s)(q:Q (.bl k) H)(e:k=k'):EP X pins σ Q (.bool k') s:=by
 subst e
 exact⟨.bl k,H,I,rfl,q⟩
theorem dF:wH X (compareOp .Eq) rEq:=by
 intro pins s σ H x y v u Q I rx ry h
 obtain⟨hs,q⟩:=h
 cases x with
 | non=>
  cases rx
  cases y with
  | non=>cases ry;exact PySem.EqNone.eq_none_none (cD I q (by simp))
  | bl j=>cases ry;exact PySem.EqNone.eq_none_bool (cD I q (by simp))
  | int j=>obtain⟨t',rfl⟩:=ry;exact PySem.EqNone.eq_none_int (cD I q (by simp))
  | str j=>obtain⟨t',rfl⟩:=ry;exact PySem.EqNone.eq_none_str (cD I q (by simp))
  | _=>exact absurd (show false=true from hs) Bool.false_ne_true
 | bl i=>
  cases rx
  cases y with
  | non=>cases ry;exact PySem.EqNone.eq_bool_none (cD I q (by simp))
  | bl j=>cases ry;exact eq_bool (cD I q Ua)
  | str j=>obtain⟨t',rfl⟩:=ry;exact PySem.EqMixed.eq_bool_str (cD I q (by simp))
  | _=>exact absurd (show false=true from hs) Bool.false_ne_true
 | int i=>
  obtain⟨t,rfl⟩:=rx
  cases y with
  | non=>cases ry;exact PySem.EqNone.eq_int_none (cD I q (by simp))
  | int j=>obtain⟨t',rfl⟩:=ry;exact eq_int (cD I q Qt)
  | str j=>obtain⟨t',rfl⟩:=ry;exact PySem.EqMixed.eq_int_str (cD I q (by simp))
  | _=>exact absurd (show false=true from hs) Bool.false_ne_true
 | str i=>
  obtain⟨t,rfl⟩:=rx
  cases y with
  | non=>cases ry;exact PySem.EqNone.eq_str_none (cD I q (by simp))
  | bl j=>cases ry;exact PySem.EqMixed.eq_str_bool (cD I q (by simp))
  | int j=>obtain⟨t',rfl⟩:=ry;exact PySem.EqMixed.eq_str_int (cD I q (by simp))
  | str j=>obtain⟨t',rfl⟩:=ry;exact eq_str (cD I q Qu)
  | _=>exact absurd (show false=true from hs) Bool.false_ne_true
 | Qo i=>
  obtain⟨t,rfl⟩:=rx
  cases y with
  | Qo j=>obtain⟨t',rfl⟩:=ry;exact PySem.W.eq_bytes (cD I q Qv)
  | _=>exact absurd (show false=true from hs) Bool.false_ne_true
 | _=>cases y<;>exact absurd (show false=true from hs) Bool.false_ne_true
theorem xQ:wH X (compareOp .NotEq) rNe:=by
 intro pins s σ H x y v u Q I rx ry h
 obtain⟨hs,q⟩:=h
 cases x with
 | non=>
  cases rx
  cases y with
  | non=>cases ry;exact PySem.EqNone.ne_none_none (cD I q (by simp))
  | bl j=>cases ry;exact PySem.EqNone.ne_none_bool (cD I q (by simp))
  | int j=>obtain⟨t',rfl⟩:=ry;exact PySem.EqNone.ne_none_int (cD I q (by simp))
  | str j=>obtain⟨t',rfl⟩:=ry;exact PySem.EqNone.ne_none_str (cD I q (by simp))
  | _=>exact absurd (show false=true from hs) Bool.false_ne_true
 | bl i=>
  cases rx
  cases y with
  | non=>cases ry;exact PySem.EqNone.ne_bool_none (cD I q (by simp))
  | bl j=>cases ry;exact ne_bool (cD I q (congrArg not Ua))
  | str j=>obtain⟨t',rfl⟩:=ry;exact PySem.EqMixed.ne_bool_str (cD I q (by simp))
  | _=>exact absurd (show false=true from hs) Bool.false_ne_true
 | int i=>
  obtain⟨t,rfl⟩:=rx
  cases y with
  | non=>cases ry;exact PySem.EqNone.ne_int_none (cD I q (by simp))
  | int j=>obtain⟨t',rfl⟩:=ry;exact ne_int (cD I q (congrArg not Qt))
  | str j=>obtain⟨t',rfl⟩:=ry;exact PySem.EqMixed.ne_int_str (cD I q (by simp))
  | _=>exact absurd (show false=true from hs) Bool.false_ne_true
 | str i=>
  obtain⟨t,rfl⟩:=rx
  cases y with
  | non=>cases ry;exact PySem.EqNone.ne_str_none (cD I q (by simp))
  | bl j=>cases ry;exact PySem.EqMixed.ne_str_bool (cD I q (by simp))
  | int j=>obtain⟨t',rfl⟩:=ry;exact PySem.EqMixed.ne_str_int (cD I q (by simp))
  | str j=>obtain⟨t',rfl⟩:=ry;exact ne_str (cD I q (congrArg not Qu))
  | _=>exact absurd (show false=true from hs) Bool.false_ne_true
 | Qo i=>
  obtain⟨t,rfl⟩:=rx
  cases y with
  | Qo j=>obtain⟨t',rfl⟩:=ry;exact PySem.W.ne_bytes (cD I q (congrArg not Qv))
  | _=>exact absurd (show false=true from hs) Bool.false_ne_true
 | _=>cases y<;>exact absurd (show false=true from hs) Bool.false_ne_true
theorem xR:wH X (compareOp .Lt) (Wb fun i j=> .bl (decide (i<j))):=Wu fun _ _ _ _ _ _ _ q=>lt_int q
theorem Ym:wH X (compareOp .LtE) (Wb fun i j=> .bl (decide (i≤j))):=Wu fun _ _ _ _ _ _ _ q=>le_int q
theorem Ak:wH X (compareOp .Gt) (Wb fun i j=> .bl (decide (j<i))):=Wu fun _ _ _ _ _ _ _ q=>gt_int q
theorem Ks:wH X (compareOp .GtE) (Wb fun i j=> .bl (decide (j≤i))):=Wu fun _ _ _ _ _ _ _ q=>ge_int q
theorem Jb:wH X (compareOp .Is) (fun x y H Q=>y= .non∧Q (.bl (decide (x= .non))) H):=by
 intro pins s σ H x y v u Q I rx ry h
 obtain⟨rfl,q⟩:=h
 cases ry
 refine is_none_gen (cD I q ?_)
 cases x<;>first
  | (cases rx;rfl)
  | (obtain⟨t,rfl⟩:=rx;rfl)
theorem Ww:wH X (compareOp .IsNot) (fun x y H Q=>y= .non∧Q (.bl (!decide (x= .non))) H):=by
 intro pins s σ H x y v u Q I rx ry h
 obtain⟨rfl,q⟩:=h
 cases ry
 refine isnot_none_gen (cD I q ?_)
 cases x<;>first
  | (cases rx;rfl)
  | (obtain⟨t,rfl⟩:=rx;rfl)
theorem aP(b:Expr){op:CmpOp}(h:op≠ .In:=by decide)(h2:op≠ .NotIn:=by decide):behindInMarks op b=false:=by
 have e1:(op==CmpOp.In)=false:=by cases op<;>first | rfl | exact absurd rfl h
 have e2:(op==CmpOp.NotIn)=false:=by cases op<;>first | rfl | exact absurd rfl h2
 cases b<;>simp[behindInMarks,e1,e2]
theorem qg{op:CmpOp}{r:R2}(ho:wH X (compareOp op) r)(ha:PE X a ta)(hb:PE X b tb)(hm:behindInMarks op b=false):PE X (.Compare a [op] [b] pos) (tOp r ta tb):=by
 intro pins s σ H Q I h
 exact wpAny_Compare1 (Zy ha hb I h fun v u s2 x y H2 I2 rx ry q=>ho pins s2 σ H2 x y v u Q I2 rx ry q) hm
noncomputable def abq(t:TE):TT:=fun σ H Q=>t σ H fun x H'=>∃k,x= .bl k∧Q k H'
theorem aJ{op:CmpOp}{r:R2}(ho:wH X (compareOp op) r)(ha:PE X a ta)(hb:PE X b tb)(hm:behindInMarks op b=false):PT X (.Compare a [op] [b] pos) (abq (tOp r ta tb)):=by
 intro pins s σ H Q I h
 refine wpAny_isTrue_Compare1 (dN (ha pins s σ H _ I h) fun v s1 ⟨x,H1,I1,r1,q1⟩=>dN (hb pins s1 σ H1 _ I1 q1) fun u s2 ⟨y,H2,I2,r2,q2⟩=>
  dN (ho pins s2 σ H2 x y v u _ I2 r1 r2 q2) fun c s3 ⟨z,H3,I3,r3,k,e,q3⟩=> ?_) hm
 subst e
 cases r3
 exact wpAny_truthy_bool ⟨H3,I3,q3⟩
noncomputable def abr(K:PySem.W.Frag)(x:V)(H:Hp)(k:Bool):Prop:=
 match x with
 | .non=>k=false
 | .bl b=>k=b
 | .int i=>k=(i != 0)
 | .str y=>y.length≤sizeLine∧k=((y.length:Int) != 0)
 | .Qo y=>y.size≤sizeLine∧k=((y.size:Int) != 0)
 | .ref p=>(∃xs,bj K H p xs∧k= !xs.isEmpty)∨(∃xs,iT K H p xs∧k= !xs.isEmpty)∨∃kvs,H p=some (.dK kvs)∧k= !kvs.isEmpty
 | _=>False
theorem NT{κ:Type}{kvs:List (κ × V)}{vs:List (κ × Value)}(r:KV kvs vs):(!vs.isEmpty)= !kvs.isEmpty:=by
 cases r<;>rfl
theorem CV{xs:List V}{its:List Value}(r:Vals xs its):(!its.toArray.isEmpty)= !xs.isEmpty:=by
 cases r<;>simp
theorem zq:(sizeLine:Nat)<2 ^ 63:=by rw[sizeLine_eq];decide
theorem ZD:adQ X (fun x H Q=>∃k,abr X.K x H k∧Q k H):=by
 intro pins s σ H x v Q I rx h
 obtain⟨k,e,q⟩:=h
 have hl:=zq
 have hs:sizeLine=16777216:=sizeLine_eq
 cases x with
 | non=>
  cases rx
  have e':k=false:=e
  subst e'
  exact truthy_none ⟨H,I,q⟩
 | bl b=>
  cases rx
  have e':k=b:=e
  subst e'
  exact wpAny_truthy_bool ⟨H,I,q⟩
 | int i=>
  obtain⟨t,rfl⟩:=rx
  have e':k=(i != 0):=e
  subst e'
  exact PySem.P.truthy_int ⟨H,I,q⟩
 | str y=>
  obtain⟨t,rfl⟩:=rx
  obtain⟨hy,e'⟩:y.length≤sizeLine∧k=((y.length:Int) != 0):=e
  subst e'
  exact PySem.P.truthy_str (by omega) ⟨H,I.tok _,q⟩
 | Qo y=>
  obtain⟨t,rfl⟩:=rx
  obtain⟨hy,e'⟩:y.size≤sizeLine∧k=((y.size:Int) != 0):=e
  subst e'
  exact PySem.W.truthy_bytes (by omega) ⟨H,I.tok _,q⟩
 | ref p=>
  cases rx
  have e':(∃xs,bj X.K H p xs∧k= !xs.isEmpty)∨(∃xs,iT X.K H p xs∧k= !xs.isEmpty)∨∃kvs,H p=some (.dK kvs)∧k= !kvs.isEmpty:=e
  rcases e' with ⟨xs,hx,e'⟩ | ⟨xs,hx,e'⟩ | ⟨kvs,hx,e'⟩
  ·subst e'
   obtain⟨its,r,pl,hz⟩:=I.list hx
   have hlen:=r.length
   exact wpAny_truthy_list pl.isList (by simp only[List.size_toArray];omega) ⟨H,I.tok _,by rw[CV r];exact q⟩
  ·subst e'
   obtain⟨its,r,pl,hz⟩:=I.tuple hx
   have hlen:=r.length
   exact truthy_tuple pl (by simp only[List.size_toArray];omega) ⟨H,I.tok _,by rw[CV r];exact q⟩
  ·subst e'
   obtain⟨hz,hS,vs,r,m⟩:kvs.length≤sizeLine∧(p==sysModules)=false∧∃vs,KV kvs vs∧s.heap.DictOf (dI X.prog X.w) p vs:=I.hok p _ hx
   have hlen:kvs.length=vs.length:=Paired.length r
   exact wpAny_truthy_dict hS m (by omega) ⟨H,I.tok _,by rw[NT r];exact q⟩
 | _=>exact(show False from e).elim
theorem pI(ha:PE X a ta)(he:∀whole,isTrue a X.env whole=(do let v ←whole;standAt a.pos;holding [v] (truthy v))):
  PT X a (fun σ H Q=>ta σ H fun x H'=>∃k,abr X.K x H' k∧Q k H'):=by
 intro pins s σ H Q I h
 exact isTrue_plain (dN (ha pins s σ H _ I h) fun v s1 ⟨x,H1,I1,r1,q1⟩=>ZD pins s1 σ H1 x v Q I1 r1 q1) (he _)
theorem qi:wH X (binaryOp .Add) (fun x y H Q=>∃i j,x= .str i∧y= .str j∧i.length+j.length≤sizeLine∧Q (.str (i++j)) H):=by
 intro pins s σ H x y v u Q I rx ry h
 obtain⟨i,j,rfl,rfl,hz,q⟩:=h
 obtain⟨t,rfl⟩:=rx
 obtain⟨t',rfl⟩:=ry
 exact add_str (fun t' tk=>⟨.str (i++j),H,I.tok _,⟨_,rfl⟩,q⟩) hz
theorem vals1{x:V}{us:List Value}(r:Vals [x] us):∃u,us= [u]∧RelV x u:=by
 cases r with
 | cons r1 r2=>cases r2;exact⟨_,rfl,r1⟩
theorem vals2{x y:V}{us:List Value}(r:Vals [x,y] us):∃u w',us= [u,w']∧RelV x u∧RelV y w':=by
 cases r with
 | cons r1 r2=>
  cases r2 with
  | cons r3 r4=>cases r4;exact⟨_,_,rfl,r1,r3⟩
theorem Rz(hc:X.calm=true):xP X (.builtin "max") (fun xs H Q=>∃i j,xs= [.int i,.int j]∧Q (.int (if j > i then j else i)) H):=by
 intro pins s σ H xs us Q I r h
 obtain⟨i,j,rfl,q⟩:=h
 obtain⟨u,w',rfl,⟨t,rfl⟩,⟨t',rfl⟩⟩:=vals2 r
 refine max_two_ints (I.ok.hd hc) fun h' tk k=>⟨_,H,I.kept k,?_,q⟩
 by_cases hj:j > i
 ·rw[if_pos hj,if_pos hj];exact⟨_,rfl⟩
 ·rw[if_neg hj,if_neg hj];exact⟨_,rfl⟩
theorem RB(hc:X.calm=true):xP X (.builtin "min") (fun xs H Q=>∃i j,xs= [.int i,.int j]∧Q (.int (if j<i then j else i)) H):=by
 intro pins s σ H xs us Q I r h
 obtain⟨i,j,rfl,q⟩:=h
 obtain⟨u,w',rfl,⟨t,rfl⟩,⟨t',rfl⟩⟩:=vals2 r
 refine min_two_ints (I.ok.hd hc) fun h' tk k=>⟨_,H,I.kept k,?_,q⟩
 by_cases hj:j<i
 ·rw[if_pos hj,if_pos hj];exact⟨_,rfl⟩
 ·rw[if_neg hj,if_neg hj];exact⟨_,rfl⟩
theorem Ub:xP X (.builtin "ord") (fun xs H Q=>∃x,xs= [.str x]∧x.length=1∧Q (.int (x.cps.getD 0 0 :Nat)) H):=by
 intro pins s σ H xs us Q I r h
 obtain⟨x,rfl,hz,q⟩:=h
 obtain⟨u,rfl,t,rfl⟩:=vals1 r
 exact ord_of_one hz ⟨.int _,H,I.tok _,⟨_,rfl⟩,q⟩
end
end L2
namespace L2
open PySem PySem.Spec PyProof.Rows
structure NZ(h:Heap)(x dx C:Addr)(mA:Str→Option Value):Prop where
 obj:h.get? x=some (PySem.W.instObj C dx)
 ns:h.Ns1 dx mA
 ne:dx≠x
theorem RC{h:Heap}{dx:Addr}{mA:Str→Option Value}(n:h.Ns1 dx mA):∃od,h.get? dx=some od∧∀name,PySem.W.lookIn name od=some (mA name):=by
 obtain⟨o,es,ep,ho,hd,hk,_,hm⟩:=n
 refine⟨o,ho,fun name=> ?_⟩
 have e:=hm name
 unfold nsFind findBy at e
 rw[←Array.find?_toList]at e
 unfold PySem.W.lookIn
 rw[hd]
 dsimp only
 split
 ·rename_i y q
  rw[q]at e
  exact congrArg some e
 ·rename_i q
  rw[q]at e
  have a:es.toList.any (·.refKey)=false:=by
   rw[List.any_eq_false]
   intro y hy
   obtain⟨z,t,hkey⟩:=hk y (Array.mem_toList_iff.mp hy)
   simp[DictEntry.refKey,hkey]
  have a':¬es.toList.any (·.refKey)=true:=by rw[a];exact Bool.false_ne_true
  rw[if_neg a']
  exact congrArg some e
theorem NZ.look {h:Heap} {x dx C:Addr} {mA:Str→Option Value} (I:NZ h x dx C mA):∃od,PySem.W.InstAt h x (PySem.W.instObj C dx) C (some od)∧∀name,PySem.W.lookIn name od=some (mA name):=
 let ⟨od,ho,hl⟩:=RC I.ns
 ⟨od,⟨I.obj,rfl,rfl,ho⟩,hl⟩
section
variable{prog:Program}{w:World}{A:Around}{E:Value→Shared→Prop}{s:Shared}{K:PySem.W.Frag}{x dx C f:Addr}{mA:Str→Option Value}{name:Str}{v:Value}
theorem get_map{expr:Bool}{Q:Value→Shared→Prop}(X:K.In s.heap)(I:NZ s.heap x dx C mA)(hg:PySem.W.plainGet K C name=true)(hh:PySem.W.hasDictIn K C=true)
  (ha:PySem.W.findIn K (.ref C) name=some none) (hv:mA name=some v) (hv':PySem.W.handedIn v=true) (h:Q v {s with toks:=s.toks+1}):
  wpAny (model prog w) A (getAttr (.ref x) name expr) Q E s:=by
 obtain⟨od,J,hl⟩:=I.look
 exact PySem.W.get_value X J (PySem.W.plainGet_of hg).1 (PySem.W.findObj_own hh ha rfl (by rw[hl,hv])) hv' h
theorem Uc{pl:Sem Bool}{Q:Value × List Value→Shared→Prop}(X:K.In s.heap)(I:NZ s.heap x dx C mA)(hg:PySem.W.plainGet K C name=true)
  (hf:PySem.W.findIn K (.ref C) name=some (some (.ref f))) (ht:PySem.W.isFn K (.ref f)=true) (hv:mA name=none) (h:Q (.ref f,[.ref x]) s):
  wpAny (model prog w) A (getMethod (.ref x) name pl) Q E s:=by
 obtain⟨od,J,hl⟩:=I.look
 exact PySem.W.method_fn X J (PySem.W.plainGet_of hg).1 (PySem.W.plainGet_of hg).2 hf (beq_iff_eq.mp ht) (by show (PySem.W.lookIn name od).map (·.isSome)=some false;rw[hl,hv];rfl) h
theorem Wx{ns:List Str}{Q:Unit→Shared→Prop}(X:K.In s.heap)(I:NZ s.heap x dx C mA)
  (hs:PySem.W.findIn K (.ref C) "__setattr__" =some (some (.builtin "object.__setattr__"))) (hp:PySem.W.plainOver K C=true) (ht:PySem.W.takerIn K C name=some none) (hh:PySem.W.hasDictIn K C=true)
  (hw:PySem.Within mA ns) (hsz:ns.length≤sizeLine)
  (h:∀h',NZ h' x dx C (fun y=>if y=name then some v else mA y)→Heap.SameBut dx s.heap h'→Q () {s with heap:=h',toks:=s.toks+2}):
  wpAny (model prog w) A (setAttr (.ref x) name v) Q E s:=by
 obtain⟨od,J,hl⟩:=I.look
 refine PySem.W.set_plain X J hs (PySem.W.osa_open (s:= {s with toks:=s.toks+1}) (r:=none) X J hp ht fun b=> ?_)
 obtain⟨cd,hc,hd'⟩:=PySem.W.any_some hh
 have hx:s.heap.get? x=some ⟨.ref C,some dx,.plain,#[]⟩:=I.obj
 refine wpAny_bind (wpAny_pure (wpAny_bind (wpAny_bind (wpAny_loadPart hx (wpAny_bind (PySem.W.Looks.here (s:= {s with toks:=s.toks+1}) (PySem.W.looks_clsIn X hc) ?_))))))
 rw[hd']
 refine wpAny_pure (a:=some dx) (wpAny_bind (wpAny_pure (wpAny_bind ?_)))
 refine wpAny_nsSet1 (s:= {s with toks:=s.toks+1}) I.ns fun h' hn2 hs2=> ?_
 obtain⟨oD,esD,epD,hoD,hdD,hcD⟩:=hn2.count (PySem.Within.cons name v hw)
 refine wpAny_bind (wpAny_lookBehind hoD (by rw[hdD];exact pastItsLine_dict (Nat.le_trans hcD (by rw[List.length_cons];omega))) ?_)
 exact wpAny_pure (h _ ⟨(hs2.2 _ (Ne.symm I.ne)).trans I.obj,hn2,I.ne⟩ hs2)
theorem Ud{R:Result→Shared→Prop}{vs:List Value}{kw:List (Str × Value)}(X:K.In s.heap)(hm:PySem.W.makesIn K C=true)
  (hi:PySem.W.findIn K (.ref C) "__init__" =some (some (.ref f))) (hf:PySem.W.typeIn K (.ref f)=some (.type "function"))
  (h:codeAny (model prog w) (A.under (.builtin "type.__call__" ⟨.ref C::vs,kw⟩)) (.call (.ref f) ⟨.ref (s.heap.objs.size+1)::vs,kw⟩) (PySem.W.InitBack (s.heap.objs.size+1) R)
   {s with heap:=(s.heap.push PySem.W.emptyDict).push (PySem.W.instObj C s.heap.objs.size)}):
  codeAny (model prog w) A (.call (.ref C) ⟨vs,kw⟩) R s:=by
 obtain⟨hh,g,d,t,os⟩:=s
 exact PySem.W.make_core (PySem.W.makes_of X hm) (PySem.W.looks_findIn X hi) (fun self=>PySem.W.bind_fn X self hf) (.inl rfl) h
end
noncomputable def pJ(f:Str)(v:V):List (Str × V)→List (Str × V)
 | []=> [(f,v)]
 | (g,x)::r=>if g=f then (g,v)::r else (g,x)::pJ f v r
theorem Al(f g:Str)(v:V):∀fs:List (Str × V),(pJ f v fs).lookup g=if g=f then some v else fs.lookup g
 | []=>by
  show List.lookup g [(f,v)]=_
  by_cases h:g=f
  ·have hb:(g==f)=true:=beq_iff_eq.mpr h
   simp only[List.lookup,hb,if_pos h]
  ·have hb:(g==f)=false:=beq_eq_false_iff_ne.mpr h
   simp only[List.lookup,hb,if_neg h]
 | (k,x)::r=>by
  have ih:=Al f g v r
  rw[show pJ f v ((k,x)::r)=(if k=f then (k,v)::r else (k,x)::pJ f v r) from rfl]
  by_cases hk:k=f
  ·rw[if_pos hk]
   by_cases h:g=k
   ·have hb:(g==k)=true:=beq_iff_eq.mpr h
    simp only[List.lookup,hb,if_pos (h.trans hk)]
   ·have hb:(g==k)=false:=beq_eq_false_iff_ne.mpr h
    simp only[List.lookup,hb,if_neg (fun e:g=f=>h (e.trans hk.symm))]
  ·rw[if_neg hk]
   by_cases h:g=k
   ·have hb:(g==k)=true:=beq_iff_eq.mpr h
    simp only[List.lookup,hb,if_neg (fun e:g=f=>hk (h.symm.trans e))]
   ·have hb:(g==k)=false:=beq_eq_false_iff_ne.mpr h
    simp only[List.lookup,hb]
    exact ih
theorem zr(f:Str)(v:V):∀fs:List (Str × V),f ∈ (pJ f v fs).map (·.1)∧∀g,g ∈ fs.map (·.1)→g ∈ (pJ f v fs).map (·.1)
 | []=>⟨by simp[pJ],fun g h=>by simp at h⟩
 | (k,x)::r=>by
  obtain⟨i1,i2⟩:=zr f v r
  rw[show pJ f v ((k,x)::r)=(if k=f then (k,v)::r else (k,x)::pJ f v r) from rfl]
  by_cases hk:k=f
  ·rw[if_pos hk]
   subst hk
   exact⟨by simp,fun g h=>by simpa using h⟩
  ·rw[if_neg hk]
   refine⟨?_,fun g h=> ?_⟩
   ·rw[List.map_cons]
    exact List.mem_cons_of_mem _ i1
   ·rw[List.map_cons]at h ⊢
    rcases List.mem_cons.mp h with e | e
    ·exact List.mem_cons.mpr (.inl e)
    ·exact List.mem_cons_of_mem _ (i2 g e)
theorem Am(f:Str)(v:V):∀fs:List (Str × V),(pJ f v fs).length≤fs.length+1
 | []=>by simp[pJ]
 | (k,x)::r=>by
  have ih:=Am f v r
  rw[show pJ f v ((k,x)::r)=(if k=f then (k,v)::r else (k,x)::pJ f v r) from rfl]
  by_cases hk:k=f
  ·rw[if_pos hk,List.length_cons,List.length_cons];omega
  ·rw[if_neg hk,List.length_cons,List.length_cons];omega
theorem sE.some_of {v:V} {o:Option Value} (r:sE (some v) o):∃u,o=some u∧RelV v u:=by
 cases o with
 | none=>exact(show False from r).elim
 | some u=>exact⟨u,rfl,r⟩
theorem sE.none_of {o:Option Value} (r:sE none o):o=none:=by
 cases o with
 | none=>rfl
 | some u=>exact(show False from r).elim
theorem RD{v:V}{u:Value}(r:RelV v u):PySem.W.handedIn u=true:=by
 cases v with
 | non=>cases (show u=Value.none from r);rfl
 | bl b=>cases (show u=Value.bool b from r);rfl
 | int i=>obtain⟨t,e⟩:=(show ∃t,u=Value.int i t from r);cases e;rfl
 | str x=>obtain⟨t,e⟩:=(show ∃t,u=Value.str x t from r);cases e;rfl
 | Qo b=>obtain⟨t,e⟩:=(show ∃t,u=Value.bytes b t from r);cases e;rfl
 | flt b=>obtain⟨t,e⟩:=(show ∃t,u=Value.float b t from r);cases e;rfl
 | ref a=>cases (show u=Value.ref a from r);rfl
 | ty n=>cases (show u=Value.type n from r);rfl
section
variable{P:Program}{w:World}{H H':Hp}{h h':Heap}{a C dx:Addr}{fs fs':List (Str × V)}
theorem Jc(hok:vC P w H h)(e:H a=some (.ins C dx fs)):∃mA,NZ h a dx C mA∧(∀f,sE (fs.lookup f) (mA f))∧PySem.Within mA (fs.map (·.1))∧fs.length≤1000∧H dx=some (.own a):=by
 obtain⟨d,z,ne,ob,mA,n,r,q⟩:=(show fJ P w H h a (.ins C dx fs) from hok a _ e)
 exact⟨mA,⟨ob,n,ne⟩,r,q,z,d⟩
end
structure Cls(K:PySem.W.Frag)(C:Addr):Prop where
 pg:PySem.W.plainGet K C Str.empty=true
 hd:PySem.W.hasDictIn K C=true
 po:PySem.W.plainOver K C=true
 sa:PySem.W.findIn K (.ref C) "__setattr__" =some (some (.builtin "object.__setattr__"))
theorem Cls.get {K:PySem.W.Frag} {C:Addr} (c:Cls K C) (f:Str):PySem.W.plainGet K C f=true:=c.pg
noncomputable def CW(K:PySem.W.Frag)(C:Addr)(f:Str):Prop:=PySem.W.findIn K (.ref C) f=some none
theorem CW.taker {K:PySem.W.Frag} {C:Addr} {f:Str} (n:CW K C f):PySem.W.takerIn K C f=some none:=by
 unfold PySem.W.takerIn
 rw[show PySem.W.findIn K (.ref C) f=some none from n]
 rfl
structure Meth(K:PySem.W.Frag)(C:Addr)(m:Str)(f:Addr):Prop where
 at_:PySem.W.findIn K (.ref C) m=some (some (.ref f))
 fn:PySem.W.isFn K (.ref f)=true
 kp:PySem.W.keepIn K (.ref f)=true
section
variable{X:Cx}{pins:List (Addr × Obj)}{σ:St}{H:Hp}{s:Shared}{a C dx:Addr}{fs:List (Str × V)}{f:Str}{v:V}{A:Around}{E:Value→Shared→Prop}
theorem CZ{b:Bool}{Q:Value→Shared→Prop}(I:Inv X pins σ H s)(e:H a=some (.ins C dx fs))(c:Cls X.K C)(n:CW X.K C f)(l:fs.lookup f=some v)
  (h:∀u s',Inv X pins σ H s'→RelV v u→Q u s'):wpAny (model X.prog X.w) A (getAttr (.ref a) f b) Q E s:=by
 obtain⟨mA,O,r,_,_,_⟩:=Jc I.hok e
 obtain⟨u,hu,ru⟩:=sE.some_of (v:=v) (o:=mA f) (by rw[←l];exact r f)
 exact get_map I.Kf O (c.get f) c.hd n hu (RD ru) (h u _ (I.tok _) ru)
theorem Dc{m:Str}{g:Addr}{pl:Sem Bool}{Q:Value × List Value→Shared→Prop}(I:Inv X pins σ H s)(e:H a=some (.ins C dx fs))(c:Cls X.K C)(k:Meth X.K C m g)(l:fs.lookup m=none)
  (h:Q (.ref g,[.ref a]) s):wpAny (model X.prog X.w) A (getMethod (.ref a) m pl) Q E s:=by
 obtain⟨mA,O,r,_,_,_⟩:=Jc I.hok e
 have hn:mA m=none:=sE.none_of (by rw[←l];exact r m)
 exact Uc I.Kf O (c.get m) k.at_ k.fn hn h
theorem wI{y:V}{u:Value}{Q:Unit→Shared→Prop}(I:Inv X pins σ H s)(e:H a=some (.ins C dx fs))(c:Cls X.K C)(n:CW X.K C f)(hl:fs.length<1000)(ry:RelV y u)
  (h:∀s',Inv X pins σ (upd H a (.ins C dx (pJ f y fs))) s'→Q () s'):wpAny (model X.prog X.w) A (setAttr (.ref a) f u) Q E s:=by
 obtain⟨mA,O,r,wi,_,ho⟩:=Jc I.hok e
 have hz:(fs.map (·.1)).length≤sizeLine:=by rw[List.length_map,sizeLine_eq];omega
 refine Wx I.Kf O c.sa c.po n.taker c.hd wi hz fun h' O' sb=>h _ ?_
 have hd:∃o,h'.get? dx=some o:=let ⟨o,_,_,e',_⟩:=O'.ns;⟨o,e'⟩
 refine I.write (x:=a) (e:=dx) (by rw[e];exact True.intro) (.inr ho) (fun b q hb z=>(sb.2 b hb).trans z) hd ?_
 refine⟨by rw[bF O.ne];exact ho,?_,O.ne,O'.obj,_,O'.ns,fun g=> ?_,fun g hg=> ?_⟩
 ·have:=Am f y fs;omega
 ·show sE ((pJ f y fs).lookup g) (if g=f then some u else mA g)
  rw[Al]
  by_cases q:g=f
  ·rw[if_pos q,if_pos q];exact ry
  ·rw[if_neg q,if_neg q];exact r g
 ·by_cases q:g=f
  ·rw[q];exact(zr f y fs).1
  ·refine(zr f y fs).2 g (wi g fun z=>hg ?_)
   show (if g=f then some u else mA g)=none
   rw[if_neg q];exact z
theorem Inv.made (I:Inv X pins σ H s):Inv X pins σ (upd (upd H s.heap.objs.size (.own (s.heap.objs.size+1))) (s.heap.objs.size+1) (.ins C s.heap.objs.size []))
  {s with heap:=(s.heap.push PySem.W.emptyDict).push (PySem.W.instObj C s.heap.objs.size)}:=by
 have e1:(s.heap.push PySem.W.emptyDict).get? s.heap.objs.size=some PySem.W.emptyDict:=Heap.get?_push_size s.heap rfl
 have e2:((s.heap.push PySem.W.emptyDict).push (PySem.W.instObj C s.heap.objs.size)).get? (s.heap.objs.size+1)=some (PySem.W.instObj C s.heap.objs.size):=by
  have:=Heap.get?_push_size (s.heap.push PySem.W.emptyDict) (o:=PySem.W.instObj C s.heap.objs.size) rfl
  rwa [Heap.size_push]at this
 have e3:(s.heap.push PySem.W.emptyDict).Ns s.heap.objs.size (fun _=>none):=⟨PySem.W.emptyDict,#[],_,e1,rfl,(fun e he=>absurd he (by simp)),fun _=>rfl⟩
 have I1:=I.laid (a:=s.heap.objs.size) (o:= .own (s.heap.objs.size+1)) (h':=s.heap.push PySem.W.emptyDict) (t':=s.toks) (fun b u q=>Heap.get?_push_of_some _ q) (Nat.le_refl _) ⟨_,e1⟩
 refine I1.laid (a:=s.heap.objs.size+1) (o:= .ins C s.heap.objs.size []) (t':=s.toks) (fun b u q=>Heap.get?_push_of_some _ q) (Nat.le_of_eq (Heap.size_push _ _)) ?_
 have ne:s.heap.objs.size≠s.heap.objs.size+1:=Nat.ne_of_lt (Nat.lt_succ_self _)
 refine⟨by rw[bF ne,aj],Nat.zero_le _,ne,e2,fun _=>none,(Heap.Ns1.of_empty e3).at fun o q=>Heap.get?_push_of_some _ q,fun _=>True.intro,fun y hy=>absurd rfl hy⟩
theorem Wy{prog:Program}{w:World}{env:Env}{e:Expr}{f:Str}{pos:Pos}{s:Shared}{Q:Value→Shared→Prop}(hb:attributeBase e f env (eval e env)=eval e env)
  (h:wpAny (model prog w) A (eval e env) (fun o s₁=>wpAny (model prog w) A (getAttr o f true) Q E s₁) E s):wpAny (model prog w) A (eval (.Attribute e f pos) env) Q E s:=
 Attribute_any_ h (by rw[arm_eval_Attribute,hb])
end
noncomputable def adT(X:Cx)(op:Operator)(rd:V→V→Hp→VK→Prop):Prop:=
 ∀(pins:List (Addr × Obj))(s:Shared)(σ:St)(H:Hp)(x y:V)(u v:Value)(Q:VK),Inv X pins σ H s→RelV x u→RelV y v→rd x y H Q→wpAny (model X.prog X.w) X.A (inplaceOp op u v) (EP X pins σ Q) X.xe s
section
variable{X:Cx}{o e value:Expr}{f:Str}{pos pos' tpos:Pos}{ta tv:TE}
noncomputable def adU:V→V→Hp→VK→Prop:=fun x y H Q=>∃i j,x= .int i∧y= .int j∧Q (.int (i+j)) H
theorem ZF:adT X .Add adU:=by
 rintro pins s σ H x y u v Q I rx ry ⟨i,j,rfl,rfl,q⟩
 obtain⟨t,rfl⟩:=(show ∃t,u=Value.int i t from rx)
 obtain⟨t',rfl⟩:=(show ∃t',v=Value.int j t' from ry)
 exact PyProof.Rows.iadd_int ⟨.int (i+j),H,I.tok _,⟨_,rfl⟩,q⟩
end
section
variable{X:Cx}{pins:List (Addr × Obj)}{σ:St}{H:Hp}{s:Shared}{A:Around}{E:Value→Shared→Prop}{Q:Value→Shared→Prop}{c:Value}{b:Bool}
end
end L2
namespace L2
open PySem PySem.Spec PyProof.Rows
structure jK(k:Nat)(A:Around):Prop where
 hd:A.handled=none
 dp:A.depth+3*k+5<recursionLimit
 un:A.units+16*k+200<cLine
theorem jK.mono {j k:Nat} {A:Around} (r:jK k A) (h:j≤k):jK j A:=⟨r.hd,by have:=r.dp;omega,by have:=r.un;omega⟩
theorem jK.deeper {k:Nat} {A:Around} (r:jK (k+1) A) (env:Env):jK k (A.deeper env):=
 ⟨r.hd,by have:=r.dp;show A.depth+1+3*k+5<_;omega,by have:=r.un;show A.units+3+16*k+200<_;omega⟩
theorem N5{A:Around}{C:Addr}{us:List Value}{kw:List (Str × Value)}:(A.under (.builtin "type.__call__" ⟨.ref C::us,kw⟩)).depth=A.depth+1:=by
 first | rfl | simp[Around.under,Code.weight,Code.isCreation,Code.isGuard,Code.isCaller,Code.frames,Code.isFrame,guardIds]
theorem N6{A:Around}{C:Addr}{us:List Value}{kw:List (Str × Value)}:(A.under (.builtin "type.__call__" ⟨.ref C::us,kw⟩)).units=A.units+1:=by
 first | rfl | simp[Around.under,Code.cUnits,Code.frames,Code.isFrame]
theorem jK.make {k:Nat} {A:Around} (r:jK (k+1) A) (C:Addr) (us:List Value) (kw:List (Str × Value)):jK k (A.under (.builtin "type.__call__" ⟨.ref C::us,kw⟩)):=
 ⟨r.hd,by have:=r.dp;rw[N5];omega,by have:=r.un;rw[N6];omega⟩
theorem jK.depth {k:Nat} {A:Around} (r:jK k A):A.depth<recursionLimit:=by have:=r.dp;omega
theorem jK.units {k:Nat} {A:Around} (r:jK k A):A.units+64<cLine:=by have:=r.un;omega
noncomputable def N7:TA:=fun _ H Q=>Q [] H
noncomputable def Ku(ta:TE)(tr:TA):TA:=fun σ H Q=>ta σ H fun x H1=>tr σ H1 fun xs H2=>Q (x::xs) H2
section
variable{X:Cx}{e:Expr}{es:List Expr}{te:TE}{t:TA}{pos:Pos}
theorem aq:PA X [] N7:=fun _ _ _ _ H Q I h=>Calls.spliced_nil ⟨[],H,I,.nil,h⟩
theorem aa(ha:PE X e te)(hr:PA X es t)(hs:starEach (e::es) X.env=(false,eval e X.env)::starEach es X.env:=by rfl):PA X (e::es) (Ku te t):=by
 intro pos pins s σ H Q I h
 rw[hs]
 show wpAny _ _ (spliced ((false,eval e X.env)::backTo pos (starEach es X.env))) _ _ s
 refine Calls.spliced_cons (dN (ha pins s σ H _ I h) fun u s1 ⟨x,H1,I1,r1,q1⟩=> ?_)
 exact dN (hr pos pins s1 σ H1 _ I1 q1) fun us s2 ⟨xs,H2,I2,r2,q2⟩=>⟨x::xs,H2,I2,.cons r1 r2,q2⟩
noncomputable def adV(t:TA):TE:=fun σ H Q=>t σ H fun xs H1=>xs.length≤sizeLine∧∀p,H1 p=none→Q (.ref p) (upd H1 p (.tup xs))
noncomputable def ZG(t:TA):TE:=fun σ H Q=>t σ H fun xs H1=>xs.length≤sizeLine∧∀p,H1 p=none→Q (.ref p) (upd H1 p (.lst xs))
theorem gQ{x1}(h:PA X es t):PE X (.Tuple es x1 pos) (adV t):=by
 intro pins s σ H Q I hq
 refine wpAny_Tuple_spliced (dN (h pos pins s σ H _ I hq) fun us s1 ⟨xs,H1,I1,r,z,q⟩=>⟨by rw[←r.length];exact z,?_⟩)
 have hf:H1 s1.heap.objs.size=none:=I1.hok.fresh (Nat.le_refl _)
 refine⟨.ref s1.heap.objs.size,upd H1 s1.heap.objs.size (.tup xs),I1.laid (t':=s1.toks) (fun b u e=>Heap.get?_push_of_some _ e) (Nat.le_refl _) ?_,rfl,q _ hf⟩
 exact⟨z,us,r,⟨_,Heap.get?_push_size _ rfl,rfl,_,rfl⟩⟩
theorem cG(h:PA X es t):PE X (.List es pos) (ZG t):=by
 intro pins s σ H Q I hq
 refine wpAny_List_spliced (dN (h pos pins s σ H _ I hq) fun us s1 ⟨xs,H1,I1,r,z,q⟩=>⟨by rw[←r.length];exact z,?_⟩)
 have hf:H1 s1.heap.objs.size=none:=I1.hok.fresh (Nat.le_refl _)
 refine⟨.ref s1.heap.objs.size,upd H1 s1.heap.objs.size (.lst xs),I1.laid (t':=s1.toks) (fun b u e=>Heap.get?_push_of_some _ e) (Nat.le_refl _) ?_,rfl,q _ hf⟩
 exact⟨z,us,0,r,Heap.get?_push_size _ rfl⟩
end
noncomputable abbrev Sp:=List V→Hp→VK→XK→Prop
noncomputable abbrev Wc:=List Env→Hp→Shared→XK→Value→Shared→Prop
structure N8(P:Program)(w:World)(K:PySem.W.Frag)(mg:Str→Option Value)(base:Heap)(A:Around)(outer:List Env)(s:Shared)(H:Hp):Prop where
 frames:A.frames=some outer
 mod:Mod K mg base
 bs:∀b o,base.get? b=some o→s.heap.get? b=some o∧H b=none
 Wr:base.objs.size≤s.heap.objs.size
 BL:s.heap.FunFrames base outer
 Zj:∀b ∈ frs outer,H b=none
 hok:vC P w H s.heap
 bare:AllBare s.gens
noncomputable def CE(outer:List Env)(P:Program)(w:World)(H:Hp)(s:Shared)(Q:VK)(u:Value)(s':Shared):Prop:=
 ∃v H',s'.os=s.os∧AllBare s'.gens∧Un (frs outer) [] H H' s.heap s'.heap∧vC P w H' s'.heap∧RelV v u∧Q v H'
noncomputable def CR(CX:Wc)(outer:List Env)(P:Program)(w:World)(H:Hp)(s:Shared)(Q:VK)(E:XK)(r:Result)(s':Shared):Prop:=
 match r with
 | .ok (.ret u)=>CE outer P w H s Q u s'
 | .ok _=>False
 | .error e=>CX outer H s E e s'
structure Jd(P:Program)(w:World)(K:PySem.W.Frag)(mg:Str→Option Value)(base:Heap)(CX:Wc)(k:Nat)(f:Addr)(fd:FuncData)(ps:List Str)(sp:Sp):Prop where
 len:∀vs H Q E,sp vs H Q E→vs.length=ps.length
 run:∀(A:Around)(outer:List Env)(s:Shared)(H:Hp)(args:Args)(us:List Value)(vs:List V)(Q:VK)(E:XK),jK k A→N8 P w K mg base A outer s H→BindsTo s fd args (ps.zip us)→Vals vs us→sp vs H Q E→
  codeAny (model P w) A (.call (.ref f) args) (CR CX outer P w H s Q E) s
theorem N8.make {P:Program} {w:World} {K:PySem.W.Frag} {mg:Str→Option Value} {base:Heap} {A:Around} {outer:List Env} {s:Shared} {H:Hp} (e:N8 P w K mg base A outer s H) (C:Addr) (us:List Value) (kw:List (Str × Value)):
 N8 P w K mg base (A.under (.builtin "type.__call__" ⟨.ref C::us,kw⟩)) outer s H:=⟨by first | exact e.frames | (simpa[Around.under,Code.envs,Code.isFrame,pushEnvs]using e.frames),e.mod,e.bs,e.Wr,e.BL,e.Zj,e.hok,e.bare⟩
section
variable{X:Cx}{pins:List (Addr × Obj)}{σ:St}{H:Hp}{s s':Shared}
theorem Inv.env0 (I:Inv X pins σ H s):N8 X.prog X.w X.K X.mg X.base X.A X.stack s H:=
 ⟨I.ok.frames,I.ok.mod,I.bs,Nat.le_trans I.ok.Wr I.sz,I.stack,I.Qp,I.hok,I.bare⟩
theorem Inv.after {Q:VK} {u:Value} (I:Inv X pins σ H s) (h:CE X.stack X.prog X.w H s Q u s'):EP X pins σ Q u s':=by
 obtain⟨v,H',os,bare,un,hok,r,q⟩:=h
 obtain⟨hh,g,d,t,os'⟩:=s'
 obtain rfl:os'=s.os:=os
 exact⟨v,H',I.call (h':=hh) (g':=g) (d':=d) (t':=t) (ch:= []) un hok bare (fun b z=>absurd z (by simp)),r,q⟩
end
noncomputable def Binds(K:PySem.W.Frag)(fd:FuncData)(ps:List Str)(ds:List Value):Prop:=
 ∀(s:Shared)(us:List Value),K.In s.heap→(us++ds).length=ps.length→BindsTo s fd ⟨us,[]⟩ (ps.zip (us++ds))
theorem Binds.all {K:PySem.W.Frag} {fd:FuncData} {ps:List Str} (h:∀us:List Value,us.length=ps.length→bindArgs fd ⟨us,[]⟩=pure (ps.zip us)):Binds K fd ps []:=fun s us _ hl=>by
 rw[List.append_nil]at hl ⊢
 exact .of_eq (h us hl)
noncomputable def Passes(CX:Wc)(X:Cx)(E:XK):Prop:=∀(pins:List (Addr × Obj))(σ:St)(H:Hp)(s:Shared)(e:Value)(s':Shared),Inv X pins σ H s→CX X.stack H s E e s'→X.xe e s'
section
variable{X:Cx}{CX:Wc}{k:Nat}{f C:Addr}{fd:FuncData}{ps:List Str}{sp:Sp}{ZJ:List V}{ds:List Value}{E:XK}{x m:Str}{p pos apos:Pos}{e o:Expr}{es:List Expr}{ta:TE}{t:TA}
theorem Oa{pins:List (Addr × Obj)}{σ:St}{H:Hp}{s:Shared}{Q:VK}{us:List Value}{vs:List V}(F:Jd X.prog X.w X.K X.mg X.base CX k f fd ps sp)(hr:jK k X.A)(hb:Binds X.K fd ps ds)(hd:Vals ZJ ds)(hx:Passes CX X E)
  (I:Inv X pins σ H s) (r:Vals vs us) (h:sp (vs++ZJ) H Q E):wpAny (model X.prog X.w) X.A (call (.ref f) us) (EP X pins σ Q) X.xe s:=by
 have r2:Vals (vs++ZJ) (us++ds):=r.append hd
 have hl:(us++ds).length=ps.length:=by rw[←r2.length];exact F.len _ _ _ _ h
 refine wpAny_call (codeAny_mono (F.run X.A X.stack s H ⟨us,[]⟩ (us++ds) (vs++ZJ) Q E hr I.env0 (hb s us I.Kf hl) r2 h) fun r s' hq=> ?_)
 cases r with
 | error e=>exact hx pins σ H s e s' I hq
 | ok fl=>
  cases fl with
  | ret u=>exact I.after hq
  | next=>exact False.elim hq
  | brk=>exact False.elim hq
  | cont=>exact False.elim hq
structure Mk(K:PySem.W.Frag)(C f:Addr):Prop where
 makes:PySem.W.makesIn K C=true
 init:PySem.W.findIn K (.ref C) "__init__" =some (some (.ref f))
 fn:PySem.W.isFn K (.ref f)=true
 kp:PySem.W.keepIn K (.ref C)=true
theorem Kv{pins:List (Addr × Obj)}{σ:St}{H:Hp}{s:Shared}{Q:VK}{us:List Value}{vs:List V}(M:Mk X.K C f)(F:Jd X.prog X.w X.K X.mg X.base CX k f fd ps sp)(hr:jK (k+1) X.A)(hb:Binds X.K fd ps ds)(hd:Vals ZJ ds)
  (hx:Passes CX X E) (I:Inv X pins σ H s) (r:Vals vs us)
  (h:∀x dx,H x=none→H dx=none→dx≠x→sp (.ref x::(vs++ZJ)) (upd (upd H dx (.own x)) x (.ins C dx [])) (fun v H2=>v= .non∧Q (.ref x) H2) E):
  wpAny (model X.prog X.w) X.A (call (.ref C) us) (EP X pins σ Q) X.xe s:=by
 have hq:=h (s.heap.objs.size+1) s.heap.objs.size (I.hok.fresh (Nat.le_succ _)) (I.hok.fresh (Nat.le_refl _)) (Nat.ne_of_lt (Nat.lt_succ_self _))
 have I2:=Inv.made (C:=C) I
 have r2:Vals (V.ref (s.heap.objs.size+1)::(vs++ZJ)) (Value.ref (s.heap.objs.size+1)::(us++ds)):= .cons rfl (r.append hd)
 have hl:(Value.ref (s.heap.objs.size+1)::us++ds).length=ps.length:=by
  have e:=r2.length
  rw[F.len _ _ _ _ hq]at e
  exact e.symm
 refine wpAny_call (Ud (f:=f) I.Kf M.makes M.init (beq_iff_eq.mp M.fn) (codeAny_mono (F.run _ X.stack _ _ ⟨Value.ref (s.heap.objs.size+1)::us,[]⟩ (Value.ref (s.heap.objs.size+1)::(us++ds)) _ _ E (hr.make C us [])
  (I2.env0.make C us []) (hb _ (Value.ref (s.heap.objs.size+1)::us) I2.Kf hl) r2 hq) fun r s' hq'=> ?_))
 cases r with
 | error e=>exact hx pins σ _ _ e s' I2 hq'
 | ok fl=>
  cases fl with
  | ret u=>
   obtain⟨v,H',I3,rv,ev,q3⟩:=I2.after hq'
   subst ev
   exact⟨rv,⟨V.ref (s.heap.objs.size+1),H',I3,rfl,q3⟩⟩
  | next=>exact False.elim hq'
  | brk=>exact False.elim hq'
  | cont=>exact False.elim hq'
end
section
variable{X:Cx}{CX:Wc}{k:Nat}{f C:Addr}{fd:FuncData}{ps ks:List Str}{sp:Sp}{E:XK}{x m:Str}{p pos apos agE:Pos}{e o:Expr}{es:List Expr}{kws:List Keyword}{te ta:TE}{t tk:TA}{nm:Option Str}
variable{g:List Value→List Value→List Value}{gV:List V→List V→List V}
end
structure aF(N P:List Str)(sc:Scope):Prop where
 kind:sc.kind= .function
 co:sc.isCoroutine=false
 gen:sc.isGenerator=false
 nd:N.Nodup
 pre:N.take P.length=P
 par:∀x ∈ P,sc.names.lookup x=some .local∨sc.names.lookup x=some .cell
 ZK:∀y ∈ sc.names,y.2≠ .free
theorem Hm{kindOf:Str→Option NameKind}{x:Str}:∀ {binds:List (Str × Value)}{m:Str→Option Value},(∀v,(x,v) ∉ binds)→bindL kindOf binds m x=m x
 | [],_,_=>rfl
 | (n,v)::r,m,h=>by
  unfold bindL
  rw[Hm fun w hw=>h w (List.mem_cons_of_mem _ hw)]
  split
  ·have:x≠n:=by rintro rfl;exact h v List.mem_cons_self
   simp[this]
  ·rfl
theorem Hn{kindOf:Str→Option NameKind}{x:Str}:∀ {binds:List (Str × Value)}{m:Str→Option Value},(∀v,(x,v) ∉ binds)→bindC kindOf binds m x=m x
 | [],_,_=>rfl
 | (n,v)::r,m,h=>by
  unfold bindC
  rw[Hn fun w hw=>h w (List.mem_cons_of_mem _ hw)]
  split
  ·rfl
  ·have:x≠n:=by rintro rfl;exact h v List.mem_cons_self
   simp[this]
theorem Ho{kindOf:Str→Option NameKind}{x:Str}{v:Value}:∀ {P:List Str}{vs:List Value}{i:Nat}{m:Str→Option Value},P.Nodup→P[i]? =some x→vs[i]? =some v→kindOf x=some .local→
  bindL kindOf (P.zip vs) m x=some v
 | [],_,_,_,_,h,_,_=>by simp at h
 | _::_,[],_,_,_,_,h,_=>by simp at h
 | p::P,w::vs,0,m,nd,h1,h2,hk=>by
  simp at h1 h2;subst h1;subst h2
  show bindL kindOf ((p,w)::P.zip vs) m p=_
  unfold bindL
  rw[Hm fun v hv=>(List.nodup_cons.mp nd).1 (List.of_mem_zip hv).1,if_pos hk]
  simp
 | p::P,w::vs,i+1,m,nd,h1,h2,hk=>by
  show bindL kindOf ((p,w)::P.zip vs) m x=_
  unfold bindL
  exact Ho (i:=i) (List.nodup_cons.mp nd).2 (by simpa using h1) (by simpa using h2) hk
theorem Hq{kindOf:Str→Option NameKind}{x:Str}{v:Value}:∀ {P:List Str}{vs:List Value}{i:Nat}{m:Str→Option Value},P.Nodup→P[i]? =some x→vs[i]? =some v→kindOf x≠some .local→
  bindC kindOf (P.zip vs) m x=some v
 | [],_,_,_,_,h,_,_=>by simp at h
 | _::_,[],_,_,_,_,h,_=>by simp at h
 | p::P,w::vs,0,m,nd,h1,h2,hk=>by
  simp at h1 h2;subst h1;subst h2
  show bindC kindOf ((p,w)::P.zip vs) m p=_
  unfold bindC
  rw[Hn fun v hv=>(List.nodup_cons.mp nd).1 (List.of_mem_zip hv).1,if_neg hk]
  simp
 | p::P,w::vs,i+1,m,nd,h1,h2,hk=>by
  show bindC kindOf ((p,w)::P.zip vs) m x=_
  unfold bindC
  exact Hq (i:=i) (List.nodup_cons.mp nd).2 (by simpa using h1) (by simpa using h2) hk
noncomputable def start(N:List Str)(vs:List V):St:=vs.map some++List.replicate (N.length-vs.length) none
noncomputable def Kw(CX:Wc)(P:Program)(w:World)(K:PySem.W.Frag)(mg:Str→Option Value)(base:Heap)(N:List Str)(qual:Str)(scope:Scope)(f:Addr)(cd:Value)(A:Around)(outer:List Env)(s:Shared)(H:Hp)(E:XK):Cx where
 prog:=P
 w:=w
 K:=K
 mg:=mg
 base:=base
 A:=A.deeper (envOfC qual scope s.heap.objs.size f cd)
 N:=N
 s₀:=s
 H₀:=H
 env:=envOfC qual scope s.heap.objs.size f cd
 outer:=outer
 stack:=envOfC qual scope s.heap.objs.size f cd::outer
 ex:= []
 calm:=true
 fn:=fun _=>true
 pn:= []
 xe:=fun e s'=>wpAny (model P w) (A.deeper (envOfC qual scope s.heap.objs.size f cd)) (leaving (envOfC qual scope s.heap.objs.size f cd) e) (fun _ s''=>CX outer H s E e s'') (fun e' s''=>CX outer H s E e' s'') s'
theorem Ky{sc:Scope}{n:Nat}{x:Str}(h:sc.names.lookup x=some .cell):∃c,(cellsFrom n sc.names []).lookup x=some c:=by
 have q:=PySem.W.cellsFrom_some sc.names n [] (.inl h)
 exact Option.isSome_iff_exists.mp q
theorem RG{CX:Wc}{P:Program}{w:World}{K:PySem.W.Frag}{mg:Str→Option Value}{base:Heap}{N ps:List Str}{qual:Str}{scope:Scope}{f:Addr}{cd:Value}{A:Around}{outer:List Env}{s s1:Shared}{H:Hp}{E:XK}{us:List Value}{vs:List V}
  (S:aF N ps scope) (hd:A.handled=none) (e0:N8 P w K mg base A outer s H) (hl:vs.length=ps.length) (r:Vals vs us)
  (x:InCallC s s.heap.objs.size (bindL (envOfC qual scope s.heap.objs.size f cd).kindOf (ps.zip us) fun _=>none) (cellsFrom (s.heap.objs.size+1) scope.names []) (bindC (envOfC qual scope s.heap.objs.size f cd).kindOf (ps.zip us) fun _=>none) s1):
  Inv (Kw CX P w K mg base N qual scope f cd A outer s H E) [] (start N vs) H s1:=by
 have hpl:ps.length≤N.length:=by have:=congrArg List.length S.pre;rw[List.length_take]at this;omega
 obtain⟨h1,tk,rfl,hk⟩:=x.done
 have noA:∀b:Addr,b ∉ (Kw CX P w K mg base N qual scope f cd A outer s H E).ex:=fun b z=>absurd (show b ∈ ([]:List Addr) from z) (by simp)
 refine⟨⟨e0.mod,S.kind,rfl,rfl,Nat.le_refl _,fun y z c h1 h2=> ?_,fun y hy=> ?_,fun y c _ h=> ?_,fun _=>hd,Around.frames_deeper e0.frames,.inr ⟨rfl,rfl⟩,fun b z=>absurd z (noA b),e0.bs,e0.Wr,fun b _ _=>noA b,fun b z=>absurd z (noA b),e0.BL,e0.Zj⟩,
  rfl,e0.bare,Un.kept hk,⟨_,x.toInCall.ns,fun i y v h1 h2 h3=> ?_⟩,fun y c h=>⟨_,x.cell y c h⟩,e0.hok.fresh (Nat.le_refl _),fun y c h=> ?_,fun p hp=>absurd (show p ∈ ([]:List (Addr × Obj)) from hp) (by simp),e0.hok.kept hk,?_⟩
 ·exact name_of_addr x.apart (PySem.mem_of_lookup h1) (PySem.mem_of_lookup h2)
 ·have hy:scope.names.lookup y=some .cell∨scope.names.lookup y=some .free:=hy
  rcases hy with hy | hy
  ·exact Ky hy
  ·exact absurd rfl (S.ZK _ (PySem.mem_of_lookup hy))
 ·exact Nat.le_of_lt (x.above y c (PySem.mem_of_lookup h))
 ·have hi:i<vs.length:=by
   unfold start at h2
   by_cases hi:i<vs.length
   ·exact hi
   ·rw[List.getElem?_append_right (by simpa using hi)]at h2
    rw[List.getElem?_replicate]at h2
    split at h2<;>cases h2
  have ha:vs[i]? =some v:=by
   unfold start at h2
   rw[List.getElem?_append_left (by simpa using hi),List.getElem?_map]at h2
   cases e:vs[i]? with
   | none=>rw[e]at h2;cases h2
   | some a=>rw[e]at h2;cases h2;rfl
  obtain⟨u,hu,rv⟩:=r.get ha
  have hp:ps[i]? =some y:=by
   rw[←S.pre,List.getElem?_take_of_lt (by omega)];exact h1
  have ndP:ps.Nodup:=by rw[←S.pre];exact S.nd.sublist (List.take_sublist _ _)
  refine⟨u,rv,?_⟩
  rcases S.par y (List.mem_of_getElem? hp)with k | k
  ·exact .inl ⟨k,Ho ndP hp hu k⟩
  ·obtain⟨c,e⟩:=Ky (n:=s.heap.objs.size+1) k
   refine .inr ⟨.inl k,c,e,?_⟩
   have q:=x.cell y c e
   rw[Hq ndP hp hu (by show scope.names.lookup y≠_;rw[k];decide)]at q
   exact q
 ·exact e0.hok.fresh (Nat.le_of_lt (x.above y c (PySem.mem_of_lookup h)))
 ·unfold start
  show _=N.length
  rw[List.length_append,List.length_map,List.length_replicate]
  omega
theorem abu{CX:Wc}{P:Program}{w:World}{K:PySem.W.Frag}{mg:Str→Option Value}{base:Heap}{k:Nat}{f:Addr}{name qual:Str}{params:Arguments}{body:List Stmt}{scope:Scope}{dV kV doc pm cdv ct oc:Value}{an od:Option Addr}
  {osl:Array (Option Value)} {N ps:List Str} {sp:Sp} (lk:K.lookup f=some ⟨oc,od,.func (PySem.W.fnOf name qual params body scope dV kV doc pm an cdv ct),osl⟩) (hcd:PySem.W.codeIn K cdv qual=true) (S:aF N ps scope)
  (len:∀vs H Q E,sp vs H Q E→vs.length=ps.length)
  (hbody:∀(A:Around)(outer:List Env)(s:Shared)(H:Hp)(vs:List V)(Q:VK)(E:XK),jK k (A.deeper (envOfC qual scope s.heap.objs.size f cdv))→sp vs H Q E→
   ∃t,Nq (Kw CX P w K mg base N qual scope f cdv A outer s H E) body t∧t {nx:=fun _ H'=>Q .non H',rt:=Q} (start N vs) H):
  Jd P w K mg base CX (k+1) f (PySem.W.fnOf name qual params body scope dV kV doc pm an cdv ct) ps sp:=by
 refine⟨len,fun A outer s H args us vs Q E hr e0 hb r hsp=> ?_⟩
 have hl:=len _ _ _ _ hsp
 have KX:K.In s.heap:=e0.mod.kin.keeps fun b o e=>(e0.bs b o e).1
 have lim:s.heap.NoLimit:=e0.mod.nolimit.keeps fun b o e=>(e0.bs b o e).1
 have hkind:∀y ∈ ps.zip us,scope.names.lookup y.1=some .local∨(scope.names.lookup y.1=some .cell∧((cellsFrom (s.heap.objs.size+1) scope.names []).lookup y.1).isSome=true):=fun ⟨n,v⟩ hy=>by
  rcases S.par n (List.of_mem_zip hy).1 with q | q
  ·exact .inl q
  ·exact .inr ⟨q,PySem.W.cellsFrom_some _ _ _ (.inl q)⟩
 refine codeAny_call_function hr.depth (KX _ _ lk) rfl S.co S.gen rfl (PySem.W.codeRec_of KX hcd) (hb _ _ _ _ ?_)
 refine wpAny_newFunctionEnv_cells S.kind hkind fun env he s1 x=> ?_
 subst he
 refine⟨lim.keeps x.toInCall.keep,codeAny_func ?_⟩
 obtain⟨t,ht,hq⟩:=hbody A outer s H vs Q E (hr.deeper _) hsp
 have I:Inv (Kw CX P w K mg base N qual scope f cdv A outer s H E) [] (start N vs) H s1:=RG S hr.hd e0 hl r x
 refine wpAny_mono (ht [] s1 (start N vs) H _ I hq) (fun fl s' hs=> ?_) fun e s' hs=>hs
 have fin:∀ {σ':St}{H':Hp}{v:V}{u:Value},Inv (Kw CX P w K mg base N qual scope f cdv A outer s H E) [] σ' H' s'→RelV v u→Q v H'→CE outer P w H s Q u s':=
  fun{σ' H' v u}J rv q=>⟨v,H',J.os,J.bare,J.base,J.hok,rv,q⟩
 cases fl with
 | ret u=>
  obtain⟨v,σ',H',J,rv,q⟩:=hs
  exact fin J rv q
 | next=>
  obtain⟨σ',H',J,q⟩:=hs
  exact fin (v:=V.non) (u:=Value.none) J rfl q
 | brk=>
  obtain⟨_,_,_,q⟩:=hs
  exact False.elim q
 | cont=>
  obtain⟨_,_,_,q⟩:=hs
  exact False.elim q
end L2
namespace L2
open PySem PySem.Spec PyProof.Rows
section
variable{X:Cx}{x:Str}{p pos:Pos}{e:Expr}{es:List Expr}{t:TA}{id T:String}{r:List V→Hp→VK→Prop}
noncomputable def tCB(r:List V→Hp→VK→Prop)(t:TA):TE:=fun σ H Q=>t σ H fun vs H1=>r vs H1 Q
theorem bO(hc:xP X (.builtin id) r)(hg:Gl X x)(hm:X.mg x=none)(hv:bootBuiltins x=some (.builtin id))(ha:PA X (e::es) t)(hn:x≠ "__name__" :=by decide)(hdb:(x==("__debug__" :Str))=false:=by decide)
  (he:starEach (e::es) X.env=(false,eval e X.env)::starEach es X.env:=by rfl) (hpl:(backTo pos (starEach es X.env)).any (·.1)=false:=by rfl):PE X (.Call (.Name x p) (e::es) [] pos) (tCB r t):=by
 intro pins s σ H Q I h
 refine wpAny_Call_Name_kw (qd I hg hm hv ?_ hn hdb)
 exact PyProof.Rows.callWith_builtin1 (dN (ha pos pins s σ H _ I h) fun us s1 ⟨vs,H1,I1,r1,q1⟩=>hc pins s1 σ H1 vs us Q I1 r1 q1) he hpl
theorem zu(hc:xP X (.type T) r)(hg:Gl X x)(hm:X.mg x=none)(hv:bootBuiltins x=some (.type T))(ha:PA X (e::es) t)(hn:x≠ "__name__" :=by decide)(hdb:(x==("__debug__" :Str))=false:=by decide)
  (he:starEach (e::es) X.env=(false,eval e X.env)::starEach es X.env:=by rfl) (hpl:(backTo pos (starEach es X.env)).any (·.1)=false:=by rfl):PE X (.Call (.Name x p) (e::es) [] pos) (tCB r t):=by
 intro pins s σ H Q I h
 refine wpAny_Call_Name_kw (qd I hg hm hv ?_ hn hdb)
 exact PyProof.Rows.callWith_type1 (dN (ha pos pins s σ H _ I h) fun us s1 ⟨vs,H1,I1,r1,q1⟩=>hc pins s1 σ H1 vs us Q I1 r1 q1) he hpl
end
end L2
namespace HT
open PySem PyProof.Rows
section
open PySem.SeqAt
open PySem.AutoSeq1 (wpAny_loadPart')
open PySem.MeetsSeq PySem.MeetsSeq2 PySem.MeetsSeq3
end
section
variable{prog:Program}{w:World}{A:Around}{E:Value→Shared→Prop}{s:Shared}
noncomputable def fB(n d:Nat):Option Int→Nat
 | none=>d
 | some v=>if v<0 then (v+(n:Int)).toNat else min v.toNat n
theorem Wz(n d k:Nat):fB n d (some (k:Int))=min k n:=by
 show (if (k:Int)<0 then ((k:Int)+(n:Int)).toNat else min (k:Int).toNat n)=min k n
 rw[if_neg (by omega),Int.toNat_natCast]
theorem Ob(n d:Nat)(hd:d≤n)(o:Option Int):fB n d o≤n:=by
 cases o with
 | none=>exact hd
 | some v=>
  show (if v<0 then (v+(n:Int)).toNat else min v.toNat n)≤n
  by_cases hv:v<0
  ·rw[if_pos hv];omega
  ·rw[if_neg hv];exact Nat.min_le_right _ _
theorem Qw(v:Int)(n d:Nat):(if v<0 then max (v+(n:Int)) 0 else min v (n:Int))=((fB n d (some v):Nat):Int):=by
 show (if v<0 then max (v+(n:Int)) 0 else min v (n:Int))=(((if v<0 then (v+(n:Int)).toNat else min v.toNat n):Nat):Int)
 by_cases hv:v<0
 ·simp only[if_pos hv];omega
 ·simp only[if_neg hv];omega
theorem Oc(lo hi:Option Int)(n:Nat):Builtin.Slice.sliceAdjust lo hi 1 (n:Int)=(((fB n 0 lo:Nat):Int),((fB n n hi:Nat):Int)):=by
 have h1:¬((1 :Int)<0):=by omega
 unfold Builtin.Slice.sliceAdjust
 simp only[h1,if_false]
 refine Prod.ext ?_ ?_
 ·cases lo with
  | none=>rfl
  | some v=>exact Qw v n 0
 ·cases hi with
  | none=>rfl
  | some v=>exact Qw v n n
theorem Od(i j:Nat):Builtin.Slice.slicePlaces (i:Int) (j:Int) 1=j-i:=by
 unfold Builtin.Slice.slicePlaces
 have h1:(1 :Int) > 0:=by omega
 simp only[h1,if_true,Int.ediv_one]
 split<;>omega
theorem Dd{v:Value}{o:Option Int}{Q:Option Int→Shared→Prop}(p:IsPart v o)(h:Q o s):wpAny (model prog w) A (Builtin.Slice.slicePartIndex v) Q E s:=by
 cases p with
 | none=>exact slicePart_none h
 | int i t=>exact slicePart_int h
theorem zx{sl:Addr}{vl vu:Value}{lo hi:Option Int}{n:Nat}{Q:Int × Int × Nat→Shared→Prop}(hs:s.heap.IsSliceOf sl vl vu .none)(pl:IsPart vl lo)(pu:IsPart vu hi)
  (h:Q (((fB n 0 lo:Nat):Int),1,fB n n hi-fB n 0 lo) s):wpAny (model prog w) A (Builtin.Slice.sliceApplied (.ref sl) (pure (n:Int))) Q E s:=by
 obtain⟨os,hos,hcs,hds⟩:=id hs
 unfold Builtin.Slice.sliceApplied Builtin.Slice.sliceFields
 refine wpAny_bind (wpAny_bind (wpAny_field hos hds (x:=vl) rfl (wpAny_bind (wpAny_field hos hds (x:=vu) rfl (wpAny_bind (wpAny_field hos hds (x:= .none) rfl (wpAny_pure ?_)))))))
 refine wpAny_bind (slicePart_none ?_)
 show wpAny _ _ (if ((1 :Int)==0)=true then _ else _) _ _ s
 rw[if_neg (by decide)]
 refine wpAny_bind (Dd pl (wpAny_bind (Dd pu (wpAny_bind (wpAny_pure ?_)))))
 show wpAny _ _ (match Builtin.Slice.sliceAdjust lo hi 1 (n:Int)with | (lo,hi)=>pure (lo,(1 :Int),Builtin.Slice.slicePlaces lo hi 1)) _ _ s
 rw[Oc lo hi n]
 show wpAny _ _ (pure (((fB n 0 lo:Nat):Int),(1 :Int),Builtin.Slice.slicePlaces ((fB n 0 lo:Nat):Int) ((fB n n hi:Nat):Int) 1)) _ _ s
 rw[Od]
 exact wpAny_pure h
theorem Ue(xs:Array Value)(i k:Nat):((List.range k).filterMap fun(m:Nat)=>xs[((i:Int)+(m:Int)*1).toNat]?).toArray=((xs.toList.drop i).take k).toArray:=by
 have e:(fun(m:Nat)=>xs[((i:Int)+(m:Int)*1).toNat]?)=fun m=>xs[i+m]? :=by
  funext m
  have:((i:Int)+(m:Int)*1).toNat=i+m:=by omega
  rw[this]
 rw[e]
 have:=pick_run xs i k
 rw[List.filterMap_map]at this
 have e2:((fun x=>xs[x]?) ∘ fun x=>i+x)=fun m=>xs[i+m]? :=rfl
 rw[e2]at this
 rw[this]
theorem xT{t sl:Addr}{items:Array Value}{vl vu:Value}{lo hi:Option Int}{Q:Value→Shared→Prop}(ht:IsTup s.heap t items)(hs:s.heap.IsSliceOf sl vl vu .none)(pl:IsPart vl lo)(pu:IsPart vu hi)
  (hw:¬(fB items.size 0 lo=0∧fB items.size items.size hi=items.size))
  (h:Q (.ref s.heap.objs.size) {s with heap:=s.heap.push {cls:= .type "tuple",data:= .seq ((items.toList.drop (fB items.size 0 lo)).take (fB items.size items.size hi-fB items.size 0 lo)).toArray} })
  (hsz:items.size≤sizeLine):wpAny (model prog w) A (getItem (.ref t) (.ref sl)) Q E s:=by
 have Qx:sizeOk (.seq ((items.toList.drop (fB items.size 0 lo)).take (fB items.size items.size hi-fB items.size 0 lo)).toArray):=by
  show ((items.toList.drop (fB items.size 0 lo)).take (fB items.size items.size hi-fB items.size 0 lo)).toArray.size≤sizeLine
  rw[List.size_toArray,List.length_take,List.length_drop,Array.length_toList]
  omega
 have hj:fB items.size items.size hi≤items.size:=Ob _ _ (Nat.le_refl _) hi
 obtain⟨os,hos,hcs,hds⟩:=id hs
 have hTs:s.TypeIs (.ref sl) "slice" :=⟨os,hos,hcs⟩
 unfold getItem
 try with_reducible refine wpAny_holding ?_
 first | refine wpAny_bind (wpAny_pure ?_) | skip
 refine wpAny_bind (wpAny_sequenceKey ht.typeIs (by decide) ?_)
 refine wpAny_bind (wpAny_callSpecial?_slot (name:=Str.ofString "__getitem__") ht.typeIs PyProof.Rows.slot_tuple_getitem
  (wpAny_call_entry PyProof.Rows.slot_tuple_getitem ht.typeIs entry_tuple_getitem ?_ (args_tuple_getitem _ _)))
 show wpAny _ _ (Builtin.Tuple.tupleItemsOf (.ref t) >>= _) _ _ s
 refine wpAny_bind (tupleItemsOf_ ht ?_)
 refine wpAny_bind (wpAny_typeOf hTs ?_)
 rw[if_pos (by decide)]
 refine wpAny_bind (zx hs pl pu ?_)
 have hno:¬((((fB items.size 0 lo:Nat):Int)==0&&(1 :Int)==1&&(fB items.size items.size hi-fB items.size 0 lo)==items.size)=true):=by
  intro q
  rw[Bool.and_eq_true,Bool.and_eq_true]at q
  have q1:((fB items.size 0 lo:Nat):Int)=0:=eq_of_beq q.1.1
  have q2:fB items.size items.size hi-fB items.size 0 lo=items.size:=eq_of_beq q.2
  exact hw ⟨by omega,by omega⟩
 show wpAny _ _ (if (((fB items.size 0 lo:Nat):Int)==0&&(1 :Int)==1&&(fB items.size items.size hi-fB items.size 0 lo)==items.size)=true then _ else _) _ _ s
 rw[if_neg hno,Ue]
 first
  | exact wpAny_bind (m:=Builtin.Tuple.tupleExact _) (wpAny_newObj_type (wpAny_pure ⟨_,rfl,wpAny_pure h⟩) Qx)
  | exact wpAny_bind (m:=Builtin.Tuple.tupleExact _) (wpAny_newObj_type (wpAny_bind (wpAny_pure (wpAny_pure ⟨_,rfl,wpAny_pure h⟩))) Qx)
  | exact wpAny_bind (wpAny_bind (m:=Builtin.Tuple.tupleExact _) (wpAny_newObj_type (wpAny_pure (wpAny_pure ⟨_,rfl,wpAny_pure h⟩)) Qx))
  | exact wpAny_bind (wpAny_bind (m:=Builtin.Tuple.tupleExact _) (wpAny_newObj_type (wpAny_pure ⟨_,rfl,wpAny_pure h⟩) Qx))
end
end HT
namespace L2
open PySem PySem.Spec PyProof.Rows
noncomputable abbrev TO:=St→Hp→(Option Int→Hp→Prop)→Prop
noncomputable def PO(X:Cx)(e:Option Expr)(t:TO):Prop:=
 ∀(pins:List (Addr × Obj))(s:Shared)(σ:St)(H:Hp)(Q:Option Int→Hp→Prop),Inv X pins σ H s→t σ H Q→
  wpAny (model X.prog X.w) X.A (evalPart e X.env) (fun u s'=>∃o H',Inv X pins σ H' s'∧IsPart u o∧Q o H') X.xe s
noncomputable def Je:TO:=fun _ H Q=>Q none H
noncomputable def Ug(t:TE):TO:=fun σ H Q=>t σ H fun x H1=>∃i,x= .int i∧Q (some i) H1
section
variable{X:Cx}{e:Expr}{te:TE}{lo hi:Option Expr}{tl th:TO}{pos p2:Pos}
theorem nT:PO X none Je:=by
 intro pins s σ H Q I h
 rw[evalPart_none]
 exact wpAny_pure ⟨none,H,I,.none,h⟩
theorem bz(h:PE X e te):PO X (some e) (Ug te):=by
 intro pins s σ H Q I hw
 rw[evalPart_some]
 refine dN (h pins s σ H _ I hw) fun u s1 ⟨x,H1,I1,r1,q1⟩=> ?_
 obtain⟨i,rfl,q⟩:=q1
 obtain⟨t,rfl⟩:=r1
 exact⟨some i,H1,I1,.int i t,q⟩
noncomputable def Wd(X:Cx)(r:V→Option Int→Option Int→Hp→VK→Prop):Prop:=
 ∀(pins:List (Addr × Obj))(s:Shared)(σ:St)(H:Hp)(x:V)(v vl vu:Value)(lo hi:Option Int)(sl:Addr)(Q:VK),Inv X pins σ H s→RelV x v→s.heap.IsSliceOf sl vl vu .none→IsPart vl lo→IsPart vu hi→r x lo hi H Q→
  ∃T id,typeLookup (.type T) "__getitem__" =pure (some (.builtin id))∧s.TypeIs v T∧wpAny (model X.prog X.w) X.A (getItem v (.ref sl)) (EP X pins σ Q) X.xe s
theorem Wd.or {r r':V→Option Int→Option Int→Hp→VK→Prop} (h:Wd X r) (h':Wd X r'):Wd X (fun x lo hi H Q=>r x lo hi H Q∨r' x lo hi H Q):=by
 intro pins s σ H x v vl vu lo hi sl Q I rx hs pl pu q
 rcases q with q | q
 ·exact h pins s σ H x v vl vu lo hi sl Q I rx hs pl pu q
 ·exact h' pins s σ H x v vl vu lo hi sl Q I rx hs pl pu q
noncomputable def tSl(r:V→Option Int→Option Int→Hp→VK→Prop)(te:TE)(tl th:TO):TE:=fun σ H Q=>te σ H fun x H1=>tl σ H1 fun l H2=>th σ H2 fun u H3=>r x l u H3 Q
theorem bQ{r:V→Option Int→Option Int→Hp→VK→Prop}(hr:Wd X r)(he:PE X e te)(hl:PO X lo tl)(hu:PO X hi th):PE X (.Subscript e (.Slice lo hi none p2) pos) (tSl r te tl th):=by
 intro pins s σ H Q I h
 refine Subscript_ (dN (he pins s σ H _ I h) fun v s1 ⟨x,H1,I1,r1,q1⟩=> ?_)
 refine wpAny_Slice (dN (hl pins s1 σ H1 _ I1 q1) fun vl s2 ⟨l,H2,I2,pl,q2⟩=>dN (hu pins s2 σ H2 _ I2 q2) fun vu s3 ⟨u,H3,I3,pu,q3⟩=> ?_)
 rw[evalPart_none]
 refine wpAny_pure ?_
 have I4:Inv X pins σ H3 {s3 with heap:=s3.heap.push {cls:= .type "slice",data:= .fields #[vl,vu,.none]} }:=I3.kept (t':=s3.toks) fun b ob q=>Heap.get?_push_of_some _ q
 obtain⟨T,id,hT,ht,hg⟩:=hr pins {s3 with heap:=s3.heap.push {cls:= .type "slice",data:= .fields #[vl,vu,.none]} } σ H3 x v vl vu l u s3.heap.objs.size Q I4 r1 (Heap.IsSliceOf.new ..) pl pu q3
 show wpAny (model X.prog X.w) X.A (subscriptTail e (.Slice lo hi none p2) v (.ref s3.heap.objs.size)) (EP X pins σ Q) X.xe {s3 with heap:=s3.heap.push {cls:= .type "slice",data:= .fields #[vl,vu,.none]} }
 exact tail_any (ops:= [.ref s3.heap.objs.size,v]) ht hT hg (by with_unfolding_all rfl)
noncomputable def BR(xs:List V)(lo hi:Option Int):List V:=(xs.drop (HT.fB xs.length 0 lo)).take (HT.fB xs.length xs.length hi-HT.fB xs.length 0 lo)
theorem Ao(xs:List V)(lo hi:Option Int):(BR xs lo hi).length≤xs.length:=by
 unfold BR
 rw[List.length_take,List.length_drop]
 omega
noncomputable def ZL(K:PySem.W.Frag):V→Option Int→Option Int→Hp→VK→Prop:=fun x lo hi H Q=>∃a xs,x= .ref a∧iT K H a xs∧
 ¬(HT.fB xs.length 0 lo=0∧HT.fB xs.length xs.length hi=xs.length)∧∀p,H p=none→Q (.ref p) (upd H p (.tup (BR xs lo hi)))
theorem ZM:Wd X (ZL X.K):=by
 intro pins s σ H x v vl vu lo hi sl Q I rx hs pl pu h
 obtain⟨a,xs,rfl,hx,hw,q⟩:=h
 cases rx
 obtain⟨its,r,ht,hz⟩:=I.tuple hx
 have hlen:its.toArray.size=xs.length:=by rw[List.size_toArray];exact r.length.symm
 refine⟨"tuple",_,PyProof.Rows.slot_tuple_getitem.lookup,ht.typeIs,?_⟩
 refine HT.xT ht hs pl pu (by rw[hlen];exact hw) ?_ (by rw[hlen];exact hz)
 rw[hlen]
 refine⟨.ref s.heap.objs.size,_,I.laid (t':=s.toks) (o:= .tup (BR xs lo hi)) (fun b ob q=>Heap.get?_push_of_some _ q) (Nat.le_refl _) ?_,rfl,q _ (I.hok.fresh (Nat.le_refl _))⟩
 exact⟨Nat.le_trans (Ao xs lo hi) hz,_,(r.drop (HT.fB xs.length 0 lo)).take (HT.fB xs.length xs.length hi-HT.fB xs.length 0 lo),IsTup.new _ _⟩
end
end L2
namespace L2
open PySem PySem.Spec PyProof.Rows
noncomputable def Qy(n:Nat)(i:Int):Option Nat:=if 0≤i then (if i<n then some i.toNat else none)else if -(n:Int)≤i then some (i+n).toNat else none
noncomputable def Oe{α:Type}(xs:List α)(i:Int):Option α:=(Qy xs.length i).bind fun j=>xs[j]?
theorem Jf{n:Nat}{i:Int}{j:Nat}(h:Qy n i=some j):seqIndex? i n=some j∧j<n∧ -(n:Int)≤i∧i<n:=by
 unfold Qy at h
 by_cases h0:0≤i
 ·rw[if_pos h0]at h
  by_cases h1:i<n
  ·rw[if_pos h1]at h
   have e:i.toNat=j:=Option.some.inj h
   exact⟨by rw[seqIndex_of h0 h1,e],by omega,by omega,h1⟩
  ·rw[if_neg h1]at h;cases h
 ·rw[if_neg h0]at h
  by_cases h1: -(n:Int)≤i
  ·rw[if_pos h1]at h
   have e:(i+n).toNat=j:=Option.some.inj h
   exact⟨by rw[seqIndex_neg (by omega) h1,e],by omega,h1,by omega⟩
  ·rw[if_neg h1]at h;cases h
theorem Qz{α:Type}{xs:List α}{i:Int}{v:α}(h:Oe xs i=some v):∃j,seqIndex? i xs.length=some j∧xs[j]? =some v∧j<xs.length∧ -(xs.length:Int)≤i∧i<xs.length:=by
 unfold Oe at h
 cases e:Qy xs.length i with
 | none=>rw[e]at h;cases h
 | some j=>
  rw[e]at h
  obtain⟨h1,h2,h3,h4⟩:=Jf e
  exact⟨j,h1,h,h2,h3,h4⟩
theorem aV{α:Type}{xs:List α}{j:Nat}{v:α}(h:xs[j]? =some v):Oe xs (j:Int)=some v:=by
 have hj:j<xs.length:=(List.getElem?_eq_some_iff.mp h).1
 have e:Qy xs.length (j:Int)=some j:=by
  unfold Qy
  rw[if_pos (by omega),if_pos (by omega)];simp
 unfold Oe;rw[e];exact h
theorem Uh{α:Type}(xs:List α)(v:α):Oe (xs ++ [v]) (-1)=some v:=by
 have hl:(xs ++ [v]).length=xs.length+1:=by simp
 have e:Qy (xs ++ [v]).length (-1)=some xs.length:=by
  unfold Qy
  rw[hl,if_neg (by decide),if_pos (by omega)]
  congr 1
  omega
 unfold Oe
 rw[e]
 show (xs ++ [v])[xs.length]? =some v
 simp
noncomputable def WD(b:Expr):Prop:=∀o i,subscripted b false o i=operate [o,i] (getItem o i)
noncomputable def WK(X:Cx)(r:R2):Prop:=
 ∀(value slice:Expr)(pins:List (Addr × Obj))(s:Shared)(σ:St)(H:Hp)(x y:V)(v u:Value)(Q:VK),Inv X pins σ H s→RelV x v→RelV y u→r x y H Q→
  subscripted slice false v u=operate [v,u] (getItem v u)→wpAny (model X.prog X.w) X.A (subscriptTail value slice v u) (EP X pins σ Q) X.xe s
noncomputable def Ui(X:Cx)(id:String)(r:V→List V→Hp→VK→Prop):Prop:=
 ∀(pins:List (Addr × Obj))(s:Shared)(σ:St)(H:Hp)(x:V)(xs:List V)(v:Value)(us:List Value)(Q:VK),Inv X pins σ H s→RelV x v→Vals xs us→r x xs H Q→
  wpAny (model X.prog X.w) X.A (call (.builtin id) (v::us)) (EP X pins σ Q) X.xe s
section
variable{X:Cx}{a b:Expr}{ta tb:TE}{pos:Pos}
theorem WK.or {r r':R2} (h:WK X r) (h':WK X r'):WK X (fun x y H Q=>r x y H Q∨r' x y H Q):=by
 intro value slice pins s σ H x y v u Q I rx ry q hs
 rcases q with q | q
 ·exact h value slice pins s σ H x y v u Q I rx ry q hs
 ·exact h' value slice pins s σ H x y v u Q I rx ry q hs
theorem bL{r:R2}(hr:WK X r)(ha:PE X a ta)(hb:PE X b tb)(hs:WD b):PE X (.Subscript a b pos) (tOp r ta tb):=by
 intro pins s σ H Q I h
 exact Subscript_ (Zy ha hb I h fun v u s2 x y H2 I2 rx ry q=>hr a b pins s2 σ H2 x y v u Q I2 rx ry q (hs _ _))
noncomputable def ZP(K:PySem.W.Frag):R2:=fun x y H Q=>∃p xs i v,x= .ref p∧y= .int i∧bj K H p xs∧Oe xs i=some v∧Q v H
noncomputable def ZQ(K:PySem.W.Frag):R2:=fun x y H Q=>∃p xs i v,x= .ref p∧y= .int i∧iT K H p xs∧Oe xs i=some v∧Q v H
theorem WL:WK X (ZP X.K):=by
 intro value slice pins s σ H x y v u Q I rx ry h hs
 obtain⟨p,xs,i,z,rfl,rfl,hq,he,q⟩:=h
 cases rx
 obtain⟨t,rfl⟩:=ry
 obtain⟨its,r,pl,hz⟩:=I.list hq
 obtain⟨j,h1,h2,h3,h4,h5⟩:=Qz he
 obtain⟨w,ew,RJ⟩:=r.get h2
 have hl:=r.length
 have hn:=zq
 have fin:EP X pins σ Q w s:=⟨z,H,I,RJ,q⟩
 by_cases h0:0≤i
 ·have hj:i.toNat=j:=by
   rw[seqIndex_of h0 h5]at h1
   exact Option.some.inj h1
  exact item_listR pl.isList h0 (by omega) (by rw[hj];simpa using ew) fin hs
 ·have hj:(i+(its.toArray.size:Int)).toNat=j:=by
   rw[seqIndex_neg (by omega) h4]at h1
   rw[List.size_toArray,←hl]
   exact Option.some.inj h1
  exact subscriptTail_builtinR (x:=w) pl.isList.typeIs slot_list_getitem.lookup
   (wpAny_getItem_list_neg (Q:=fun r s'=>r=w∧EP X pins σ Q r s') pl.isList (by omega) (by rw[List.size_toArray] <;> omega) (by omega) (by rw[hj];simpa using ew) ⟨rfl,fin⟩) hs
theorem ZR:WK X (ZQ X.K):=by
 intro value slice pins s σ H x y v u Q I rx ry h hs
 obtain⟨p,xs,i,z,rfl,rfl,hq,he,q⟩:=h
 cases rx
 obtain⟨t,rfl⟩:=ry
 obtain⟨its,r,pl,hz⟩:=I.tuple hq
 obtain⟨j,h1,h2,h3,h4,h5⟩:=Qz he
 obtain⟨w,ew,RJ⟩:=r.get h2
 have hl:=r.length
 have hn:=zq
 have fin:EP X pins σ Q w s:=⟨z,H,I,RJ,q⟩
 exact subscriptTail_builtinR (x:=w) pl.typeIs slot_tuple_getitem.lookup
  (getItem_tuple (j:=j) (Q:=fun r s'=>r=w∧EP X pins σ Q r s') pl (by omega) (by omega) (by rw[List.size_toArray,←hl];exact h1) (by simpa using ew) ⟨rfl,fin⟩) hs
theorem Og(its:List Value)(n j:Nat)(u:Value):Obj.mapSeq (·.setIfInBounds j u) {cls:= .type "list",data:= .seq its.toArray n}= {cls:= .type "list",data:= .seq (its.set j u).toArray n}:=by
 simp[Obj.mapSeq]
theorem Inv.lst {pins:List (Addr × Obj)} {σ:St} {H:Hp} {s:Shared} {p:Addr} {xs:List V} (I:Inv X pins σ H s) (h:H p=some (.lst xs)):
  ∃(its:List Value)(n:Nat),Vals xs its∧s.heap.get? p=some {cls:= .type "list",data:= .seq its.toArray n}∧xs.length≤sizeLine:=by
 obtain⟨z,its,n,r,e⟩:=I.hok p _ h
 exact⟨its,n,r,e,z⟩
theorem Inv.ZS {pins:List (Addr × Obj)} {σ:St} {H:Hp} {s:Shared} {p:Addr} {xs ys:List V} {its its':List Value} {n n':Nat} {f:Obj→Obj} (I:Inv X pins σ H s) (h:H p=some (.lst xs))
  (ho:s.heap.get? p=some {cls:= .type "list",data:= .seq its.toArray n}) (hf:f {cls:= .type "list",data:= .seq its.toArray n}= {cls:= .type "list",data:= .seq its'.toArray n'}) (r:Vals ys its') (hz:ys.length≤sizeLine) (t:Nat):
  Inv X pins σ (upd H p (.lst ys)) {s with heap:=s.heap.update p f,toks:=t}:=by
 have e:(s.heap.update p f).get? p=some {cls:= .type "list",data:= .seq its'.toArray n'}:=by
  rw[Heap.get?_update_self f ho (by rw[hf] <;> rfl),hf]
 refine I.write (x:=p) (e:=p) (by rw[h];trivial) (.inl rfl) (fun b u hb q=>(Heap.get?_update_other _ _ (Ne.symm hb)).trans q) ⟨_,e⟩ ?_
 exact⟨hz,its',n',r,e⟩
noncomputable def Yn:V→V→V→Hp→(Hp→Prop)→Prop:=fun o i v H Q=>∃p xs k j,o= .ref p∧i= .int k∧H p=some (.lst xs)∧Qy xs.length k=some j∧Q (upd H p (.lst (xs.set j v)))
theorem set_list:abg X Yn:=by
 intro pins s σ H o i v ov iv u Q I ro ri rv h
 obtain⟨p,xs,k,j,rfl,rfl,hp,hj,q⟩:=h
 cases ro
 obtain⟨t,rfl⟩:=ri
 obtain⟨its,n,r,ho,hz⟩:=I.lst hp
 obtain⟨h1,h2,h3,h4⟩:=Jf hj
 have hl:=r.length
 have hn:=zq
 have I':Inv X pins σ (upd H p (.lst (xs.set j v))) {s with heap:=s.heap.update p (Obj.mapSeq (·.setIfInBounds j u))}:=
  I.ZS hp ho (Og its n j u) (r.set rv j) (by rw[List.length_set];exact hz) s.toks
 by_cases h0:0≤k
 ·have hk:k.toNat=j:=by
   rw[seqIndex_of h0 h4]at h1
   exact Option.some.inj h1
  exact PySem.W.ki_setAt ho h0 (by omega) (by rw[List.size_toArray,←hl];exact h4) (by rw[hk];exact⟨_,I',q⟩)
 ·have hk:(k+(its.toArray.size:Int)).toNat=j:=by
   rw[seqIndex_neg (by omega) h3]at h1
   rw[List.size_toArray,←hl]
   exact Option.some.inj h1
  exact PySem.W.ki_setBack ho (by omega) (by rw[List.size_toArray,←hl];exact h3) (by omega) (by rw[hk];exact⟨_,I',q⟩)
theorem Jg(lo hi:Option Int)(n:Nat):(sliceBounds lo hi none n).1=((HT.fB n 0 lo:Nat):Int)∧(sliceBounds lo hi none n).2.1=((HT.fB n n hi:Nat):Int)∧(sliceBounds lo hi none n).2.2=1:=by
 refine⟨?_,?_,rfl⟩
 ·cases lo with
  | none=>simp[sliceBounds,HT.fB]
  | some i=>
   simp only[sliceBounds,HT.fB,Option.getD_none,show (1 :Int) > 0 by decide,if_true]
   by_cases h:i<0
   ·simp only[h,if_true] <;> omega
   ·simp only[h,if_false] <;> omega
 ·cases hi with
  | none=>simp[sliceBounds,HT.fB]
  | some i=>
   simp only[sliceBounds,HT.fB,Option.getD_none,show (1 :Int) > 0 by decide,if_true]
   by_cases h:i<0
   ·simp only[h,if_true] <;> omega
   ·simp only[h,if_false] <;> omega
theorem Gr(its:List Value)(lo hi:Option Int):slicePick its.toArray lo hi none=((its.drop (HT.fB its.length 0 lo)).take (HT.fB its.length its.length hi-HT.fB its.length 0 lo)).toArray:=by
 obtain⟨h1,h2,h3⟩:=Jg lo hi its.toArray.size
 unfold slicePick
 rw[h1,h2,h3]
 simp only[sliceRange_one,pick_run,List.size_toArray] <;> rfl
noncomputable def Uj(K:PySem.W.Frag):V→Option Int→Option Int→Hp→VK→Prop:=fun x lo hi H Q=>∃a xs,x= .ref a∧bj K H a xs∧∀p,H p=none→Q (.ref p) (upd H p (.lst (BR xs lo hi)))
theorem WM:Wd X (Uj X.K):=by
 intro pins s σ H x v vl vu lo hi sl Q I rx hs pl pu h
 obtain⟨a,xs,rfl,hx,q⟩:=h
 cases rx
 obtain⟨its,r,ht,hz⟩:=I.list hx
 have hlen:=r.length
 refine⟨"list",_,slot_list_getitem.lookup,ht.isList.typeIs,?_⟩
 refine wpAny_getItem_list_slice ht.isList hs pl pu .none (by simp) ?_ (by rw[List.size_toArray] <;> omega)
 rw[Gr,←hlen]
 refine⟨.ref s.heap.objs.size,_,I.laid (t':=s.toks) (o:= .lst (BR xs lo hi)) (fun b ob q=>Heap.get?_push_of_some _ q) (Nat.le_refl _) ?_,rfl,q _ (I.hok.fresh (Nat.le_refl _))⟩
 exact⟨Nat.le_trans (Ao xs lo hi) hz,_,0,(r.drop (HT.fB xs.length 0 lo)).take (HT.fB xs.length xs.length hi-HT.fB xs.length 0 lo),Heap.get?_push_size _ rfl⟩
noncomputable def vG:V→Bool
 | .non=>true
 | .bl _=>true
 | .int _=>true
 | .str _=>true
 | _=>false
noncomputable def Yo:V→V→Bool
 | .non,.non=>true
 | .bl a,.bl b=>a==b
 | .bl a,.int b=>(if a then 1 else 0)==b
 | .int a,.bl b=>a==(if b then 1 else 0)
 | .int a,.int b=>a==b
 | .str a,.str b=>a==b
 | _,_=>false
theorem ZV{A:Around}{s:Shared}{y x:V}{u v:Value}(ry:RelV y u)(rx:RelV x v)(fy:vG y=true)(fx:vG x=true):SeqAt.EqAt A s u v (Yo y x):=by
 cases y with
 | non=>
  cases ry
  cases x with
  | non=>cases rx;exact SeqAt.EqAt.same _
  | bl b=>cases rx;exact SeqAt.EqAt.none_bool b
  | int b=>obtain⟨t,rfl⟩:=rx;exact SeqAt.EqAt.none_int b t
  | str b=>obtain⟨t,rfl⟩:=rx;exact SeqAt.EqAt.none_str b t
  | _=>exact absurd (show false=true from fx) Bool.false_ne_true
 | bl a=>
  cases ry
  cases x with
  | non=>cases rx;exact SeqAt.EqAt.bool_none a
  | bl b=>cases rx;exact SeqAt.EqAt.bool_bool a b
  | int b=>obtain⟨t,rfl⟩:=rx;exact SeqAt.EqAt.bool_int a b t
  | str b=>obtain⟨t,rfl⟩:=rx;exact SeqAt.EqAt.bool_str a b t
  | _=>exact absurd (show false=true from fx) Bool.false_ne_true
 | int a=>
  obtain⟨t',rfl⟩:=ry
  cases x with
  | non=>cases rx;exact SeqAt.EqAt.int_none a t'
  | bl b=>cases rx;exact SeqAt.EqAt.int_bool a t' b
  | int b=>obtain⟨t,rfl⟩:=rx;exact SeqAt.EqAt.int_int a t' b t
  | str b=>obtain⟨t,rfl⟩:=rx;exact SeqAt.EqAt.int_str a t' b t
  | _=>exact absurd (show false=true from fx) Bool.false_ne_true
 | str a=>
  obtain⟨t',rfl⟩:=ry
  cases x with
  | non=>cases rx;exact SeqAt.EqAt.str_none a t'
  | bl b=>cases rx;exact SeqAt.EqAt.str_bool a t' b
  | int b=>obtain⟨t,rfl⟩:=rx;exact SeqAt.EqAt.str_int a t' b t
  | str b=>obtain⟨t,rfl⟩:=rx;exact SeqAt.EqAt.str_str a t' b t
  | _=>exact absurd (show false=true from fx) Bool.false_ne_true
 | _=>exact absurd (show false=true from fy) Bool.false_ne_true
noncomputable def Oh(x:V)(u:Value):Bool:=match u with
 | .none=>Yo .non x
 | .bool b=>Yo (.bl b) x
 | .int i _=>Yo (.int i) x
 | .str z _=>Yo (.str z) x
 | _=>false
theorem Uk{x y:V}{u:Value}(r:RelV y u)(f:vG y=true):Oh x u=Yo y x:=by
 cases y with
 | non=>cases r;rfl
 | bl b=>cases r;rfl
 | int i=>obtain⟨t,rfl⟩:=r;rfl
 | str z=>obtain⟨t,rfl⟩:=r;rfl
 | _=>exact absurd (show false=true from f) Bool.false_ne_true
theorem xU{x:V}:∀ {xs:List V}{us:List Value},Vals xs us→xs.all vG=true→us.any (Oh x)=xs.any fun y=>Yo y x
 | _,_,.nil,_=>rfl
 | y::xs,u::us,.cons r t,f=>by
  rw[List.all_cons,Bool.and_eq_true]at f
  rw[List.any_cons,List.any_cons,Uk r f.1,xU t f.2]
theorem sW{A:Around}{s:Shared}{x:V}{v:Value}(rx:RelV x v)(fx:vG x=true):∀ {xs:List V}{us:List Value},Vals xs us→xs.all vG=true→∀u ∈ us,SeqAt.EqAt A s u v (Oh x u)
 | _,_,.nil,_=>fun u hu=>by cases hu
 | y::xs,u::us,.cons r t,f=>fun u' hu=>by
  rw[List.all_cons,Bool.and_eq_true]at f
  rcases List.mem_cons.mp hu with rfl | hu
  ·rw[Uk r f.1];exact ZV r rx f.1 fx
  ·exact sW rx fx t f.2 u' hu
noncomputable def inV(x:V)(xs:List V):Bool:=xs.any fun y=>Yo y x
noncomputable def rIn(K:PySem.W.Frag)(neg:Bool):R2:=fun x y H Q=>∃p xs,y= .ref p∧(bj K H p xs∨iT K H p xs)∧vG x=true∧xs.all vG=true∧Q (.bl (if neg then !inV x xs else inV x xs)) H
theorem RK:wH X (compareOp .In) (rIn X.K false):=by
 intro pins s σ H x y v u Q I rx ry h
 obtain⟨p,xs,rfl,hq,fx,fs,q⟩:=h
 cases ry
 rcases hq with hq | hq
 ·obtain⟨its,r,pl,hz⟩:=I.list hq
  refine SeqAt.in_listAt (Oh x) pl.isList (fun w hw=>sW rx fx r fs w (by simpa using hw)) ⟨.bl _,H,I,rfl,?_⟩
  rw[show its.toArray.any (Oh x)=its.any (Oh x) by simp,xU r fs]
  exact q
 ·obtain⟨its,r,pl,hz⟩:=I.tuple hq
  refine SeqAt.in_tupleAt (Oh x) pl (fun w hw=>sW rx fx r fs w (by simpa using hw)) ⟨.bl _,H,I,rfl,?_⟩
  rw[show its.toArray.any (Oh x)=its.any (Oh x) by simp,xU r fs]
  exact q
theorem lX:wH X (compareOp .NotIn) (rIn X.K true):=by
 intro pins s σ H x y v u Q I rx ry h
 obtain⟨p,xs,rfl,hq,fx,fs,q⟩:=h
 cases ry
 rcases hq with hq | hq
 ·obtain⟨its,r,pl,hz⟩:=I.list hq
  refine SeqAt.notIn_listAt (Oh x) pl.isList (fun w hw=>sW rx fx r fs w (by simpa using hw)) ⟨.bl _,H,I,rfl,?_⟩
  rw[show its.toArray.any (Oh x)=its.any (Oh x) by simp,xU r fs]
  exact q
 ·obtain⟨its,r,pl,hz⟩:=I.tuple hq
  refine SeqAt.notIn_tupleAt (Oh x) pl (fun w hw=>sW rx fx r fs w (by simpa using hw)) ⟨.bl _,H,I,rfl,?_⟩
  rw[show its.toArray.any (Oh x)=its.any (Oh x) by simp,xU r fs]
  exact q
theorem bA:xP X (.builtin "len") (fun xs H Q=>∃p ys,xs= [.ref p]∧(bj X.K H p ys∨iT X.K H p ys)∧Q (.int ys.length) H):=by
 intro pins s σ H xs us Q I r h
 obtain⟨p,ys,rfl,hq,q⟩:=h
 obtain⟨u,rfl,rx⟩:=vals1 r
 cases rx
 have hn:=zq
 rcases hq with hq | hq
 ·obtain⟨its,r',pl,hz⟩:=I.list hq
  have hlen:=r'.length
  exact Calls.call_len_list pl.isList (by simp only[List.size_toArray] <;> omega) ⟨.int ys.length,H,I.tok _,⟨s.toks+1,by rw[List.size_toArray,hlen]⟩,q⟩
 ·obtain⟨its,r',pl,hz⟩:=I.tuple hq
  have hlen:=r'.length
  exact len_tuple pl (by simp only[List.size_toArray] <;> omega) ⟨.int ys.length,H,I.tok _,⟨s.toks+1,by rw[List.size_toArray,hlen]⟩,q⟩
theorem Jh:xP X (.builtin "len") (fun xs H Q=>∃z,xs= [.str z]∧z.length≤sizeLine∧Q (.int z.length) H):=by
 intro pins s σ H xs us Q I r h
 obtain⟨z,rfl,hz,q⟩:=h
 obtain⟨u,rfl,t,rfl⟩:=vals1 r
 have hn:=zq
 exact len_str (by omega) ⟨.int z.length,H,I.tok _,⟨_,rfl⟩,q⟩
theorem qj:xP X (.type "list") (fun xs H Q=>∃p ys,xs= [.ref p]∧(bj X.K H p ys∨iT X.K H p ys)∧∀l,H l=none→Q (.ref l) (upd H l (.lst ys))):=by
 intro pins s σ H xs us Q I r h
 obtain⟨p,ys,rfl,hq,q⟩:=h
 obtain⟨u,rfl,rx⟩:=vals1 r
 cases rx
 have fin:∀(its:List Value),Vals ys its→ys.length≤sizeLine→∀(h':Heap)(c':Nat),(∀b o',s.heap.get? b=some o'→h'.get? b=some o')→
   h'.get? s.heap.objs.size=some {cls:= .type "list",dict:=none,data:= .seq its.toArray c',slots:= #[]}→EP X pins σ Q (.ref s.heap.objs.size) {s with heap:=h'}:=fun its r' hz h' c' kp e=>
  ⟨.ref s.heap.objs.size,_,I.laid (t':=s.toks) kp (Nat.le_refl _) (show fJ X.prog X.w _ h' _ (.lst ys) from ⟨hz,its,c',r',e⟩),rfl,q _ (I.hok.fresh (Nat.le_refl _))⟩
 rcases hq with hq | hq
 ·obtain⟨its,r',pl,hz⟩:=I.list hq
  have hlen:=r'.length
  obtain⟨o,ho,hc,n,hd⟩:=pl.isList
  exact call_list_seq p (.inl rfl) ho hc hd (fun h' c' kp e=>fin its r' hz h' c' kp e) (by simp only[List.size_toArray] <;> omega)
 ·obtain⟨its,r',pl,hz⟩:=I.tuple hq
  have hlen:=r'.length
  obtain⟨o,ho,hc,n,hd⟩:=pl
  exact call_list_seq p (.inr rfl) ho hc hd (fun h' c' kp e=>fin its r' hz h' c' kp e) (by simp only[List.size_toArray] <;> omega)
noncomputable def tyV(K:PySem.W.Frag)(T:String)(x:V)(H:Hp):Prop:=match x with
 | .str _=>T= "str"
 | .int _=>T= "int"
 | .ref p=>(T= "list" ∧∃xs,bj K H p xs)∨(T= "tuple" ∧∃o,K.lookup p=some o∧o.cls= .type "tuple" ∧o.dict=none)∨
  (T= "dict" ∧((∃kvs,H p=some (.dK kvs))∨∃kvs,H p=some (.dT kvs)))∨(T= "set" ∧∃S n,H p=some (.set S n))
 | _=>False
theorem Ul{pins:List (Addr × Obj)}{σ:St}{H:Hp}{s:Shared}{T:String}{x:V}{v:Value}(I:Inv X pins σ H s)(r:RelV x v)(ty:tyV X.K T x H):
  s.TypeIs v T∧∀a,v= .ref a→∃ob,s.heap.get? a=some ob∧ob.dict=none:=by
 cases x with
 | str z=>
  obtain⟨t,rfl⟩:=r
  cases (show T= "str" from ty)
  exact⟨typeIs_str s z t,fun _ e=>nomatch e⟩
 | int i=>
  obtain⟨t,rfl⟩:=r
  cases (show T= "int" from ty)
  exact⟨typeIs_int s i t,fun _ e=>nomatch e⟩
 | ref p=>
  cases r
  rcases ty with ⟨rfl,xs,hq⟩ | ⟨rfl,o,hk,hc,hd⟩ | ⟨rfl,hk⟩ | ⟨rfl,S,n,hk⟩
  ·obtain⟨its,_,pl,_⟩:=I.list hq
   refine⟨pl.isList.typeIs,fun a e=> ?_⟩
   cases e
   obtain⟨o,n,e,c,hd,_⟩:=pl
   exact⟨o,e,hd⟩
  ·refine⟨⟨o,I.Kf p o hk,hc⟩,fun a e=> ?_⟩
   cases e
   exact⟨o,I.Kf _ o hk,hd⟩
  ·have z:∃o,s.heap.get? p=some o∧o.ExactDict:=by
    rcases hk with ⟨kvs,hk⟩ | ⟨kvs,hk⟩
    ·obtain⟨_,_,_,_,o,_,_,e,ex,_⟩:=I.hok p _ hk
     exact⟨o,e,ex⟩
    ·obtain⟨_,_,_,_,o,_,_,e,ex,_⟩:=I.hok p _ hk
     exact⟨o,e,ex⟩
   obtain⟨o,e,ex⟩:=z
   refine⟨⟨o,e,ex.1⟩,fun a e2=> ?_⟩
   cases e2
   exact⟨o,e,ex.2.1⟩
  ·obtain⟨o,_,_,_,e,ex,_⟩:=I.hok p _ hk
   refine⟨⟨o,e,ex.1⟩,fun a e2=> ?_⟩
   cases e2
   exact⟨o,e,ex.2.1⟩
 | _=>exact False.elim ty
noncomputable def adY(K:PySem.W.Frag)(T:String)(r:V→List V→Hp→VK→Prop)(to:TE):TE:=fun σ H Q=>to σ H fun x H1=>tyV K T x H1∧r x [] H1 Q
noncomputable def tBM(K:PySem.W.Frag)(T:String)(r:V→List V→Hp→VK→Prop)(to:TE)(t:TA):TE:=fun σ H Q=>to σ H fun x H1=>tyV K T x H1∧t σ H1 fun xs H2=>r x xs H2 Q
variable{o e:Expr}{es:List Expr}{to:TE}{t:TA}{name:Str}{apos cpos:Pos}{T id:String}{r:V→List V→Hp→VK→Prop}
theorem ZW(pa:PlainAttrs T)(slot:Slot T name id)(hty:typeOf (.builtin id)=pure (.type "method_descriptor"))(hm:Ui X id r)(ho:PE X o to)
  (hbase:attributeBase o name X.env (eval o X.env)=eval o X.env:=by rfl) (hline:(apos.endLine==cpos.line)=true:=by rfl):PE X (.Call (.Attribute o name apos) [] [] cpos) (adY X.K T r to):=by
 intro pins s σ H Q I h
 refine wpAny_Call_method0_late hbase hline (dN (ho pins s σ H _ I h) fun v s1 ⟨x,H1,I1,r1,ty,q1⟩=> ?_)
 obtain⟨h1,h2⟩:=Ul I1 r1 ty
 exact⟨T,id,pa,slot,hty,h1,h2,Calls.callWith_builtin rfl (PySem.evalArgs_none (hm pins s1 σ H1 x [] v [] Q I1 r1 .nil q1))⟩
theorem fV(pa:PlainAttrs T)(slot:Slot T name id)(hty:typeOf (.builtin id)=pure (.type "method_descriptor"))(hm:Ui X id r)(ho:PE X o to)(ha:PA X (e::es) t)
  (hbase:attributeBase o name X.env (eval o X.env)=eval o X.env:=by rfl)
  (hfew:((backTo cpos (starEach (e::es) X.env)).all (fun x=> !x.1)&&(backToKw cpos (keywordEach [] X.env)).all (fun x=>x.1.isSome)
   && decide ((e::es).length+([]:List Keyword).length+(if ([]:List Keyword).isEmpty then 0 else 1)<30))=true:=by rfl)
  (hline:(apos.endLine==cpos.line)=true:=by rfl) (hs:starEach (e::es) X.env=(false,eval e X.env)::starEach es X.env:=by rfl) (hplain:(backTo cpos (starEach es X.env)).any (·.1)=false:=by rfl):
  PE X (.Call (.Attribute o name apos) (e::es) [] cpos) (tBM X.K T r to t):=by
 intro pins s σ H Q I h
 refine wpAny_Call_method_late hbase hfew hline rfl (dN (ho pins s σ H _ I h) fun v s1 ⟨x,H1,I1,r1,ty,q1⟩=> ?_)
 obtain⟨h1,h2⟩:=Ul I1 r1 ty
 refine⟨T,id,pa,slot,hty,h1,h2,?_⟩
 have hA:=ha cpos pins s1 σ H1 _ I1 q1
 rw[hs]at hA ⊢
 refine Calls.callWith_builtin (by show (false||(backTo cpos (starEach es X.env)).any (·.1))=false;rw[hplain] <;> rfl) (Calls.evalArgs_plain ?_)
 exact dN hA fun us s2 ⟨vs,H2,I2,r2,q2⟩=>hm pins s2 σ H2 x vs v us Q I2 r1 r2 q2
end
end L2
namespace L2
open PySem PySem.Spec PyProof.Rows
noncomputable def MtM(X:Cx)(id:String)(r:V→List V→Hp→VK→Prop):Prop:=
 ∀(pins:List (Addr × Obj))(s:Shared)(σ:St)(H:Hp)(x:V)(xs:List V)(v:Value)(us:List Value)(Q:VK),Inv X pins σ H s→RelV x v→Vals xs us→r x xs H Q→
  wpAny (model X.prog X.w) X.A (call (.builtin id) (v::us)) (EP X pins σ Q) X.xe s
theorem Vals.one:∀ {x:V}{us:List Value},Vals [x] us→∃u,us= [u]∧RelV x u
 | _,_,.cons r .nil=>⟨_,rfl,r⟩
theorem Vals.zero:∀ {us:List Value},Vals [] us→us= []
 | _,.nil=>rfl
theorem Vals.eraseIdx:∀ {xs:List V}{us:List Value}(i:Nat),Vals xs us→Vals (xs.eraseIdx i) (us.eraseIdx i)
 | _,_,_,.nil=> .nil
 | _,_,0,.cons _ t=>t
 | _,_,i+1,.cons r t=> .cons r (Vals.eraseIdx i t)
theorem Vals.reverse {xs:List V} {us:List Value} (h:Vals xs us):Vals xs.reverse us.reverse:=by
 induction h with
 | nil=>exact .nil
 | cons r t ih=>rw[List.reverse_cons,List.reverse_cons];exact Vals.append ih (.cons r .nil)
theorem Vals.rep {xs:List V} {us:List Value} (h:Vals xs us):∀k:Nat,Vals (List.replicate k xs).flatten (List.replicate k us).flatten
 | 0=> .nil
 | k+1=>by
  rw[List.replicate_succ,List.replicate_succ,List.flatten_cons,List.flatten_cons]
  exact Vals.append h (Vals.rep h k)
theorem Hr{α:Type}:∀(l:List α)(i:Nat),(l.eraseIdx i).length≤l.length
 | [],_=>Nat.le_refl _
 | _::_,0=>Nat.le_succ _
 | _::r,i+1=>Nat.succ_le_succ (Hr r i)
theorem foldl_rep(its:List Value):∀(k:Nat)(acc:List Value),
  List.foldl (fun x1 x2=>x1++x2) acc.toArray (List.replicate k its.toArray)=(acc++(List.replicate k its).flatten).toArray
 | 0,acc=>by simp
 | k+1,acc=>by
  have e:acc.toArray++its.toArray=(acc++its).toArray:=by simp
  have e2:(acc++its)++(List.replicate k its).flatten=acc++(List.replicate (k+1) its).flatten:=by
   rw[List.replicate_succ,List.flatten_cons,List.append_assoc]
  rw[←e2,←foldl_rep its k (acc++its),←e,List.replicate_succ,List.foldl_cons]
section
variable{X:Cx}{pins:List (Addr × Obj)}{σ:St}{H:Hp}{s:Shared}{l b:Addr}{xs ys zs:List V}
theorem Inv.WN {its its':List Value} {n:Nat} {f:Array Value→Array Value} {t':Nat} (I:Inv X pins σ H s) (hH:H l=some (.lst xs))
  (e:s.heap.get? l=some {cls:= .type "list",data:= .seq its.toArray n}) (hf:f its.toArray=its'.toArray) (hv:Vals ys its') (hz:ys.length≤sizeLine):
  Inv X pins σ (upd H l (.lst ys)) {s with heap:=s.heap.update l (Obj.mapSeq f),toks:=t'}:=by
 have q:=PySem.IsL.update e f
 rw[hf]at q
 refine I.write (x:=l) (e:=l) (by rw[hH];exact trivial) (.inl rfl) (fun b' u hb hu=>(Heap.get?_update_other s.heap (Obj.mapSeq f) (Ne.symm hb)).trans hu) ⟨_,q⟩ ?_
 exact⟨hz,its',_,hv,q⟩
theorem Inv.abv {its:List Value} {t':Nat} (I:Inv X pins σ H s) (hv:Vals ys its) (hz:ys.length≤sizeLine):
  Inv X pins σ (upd H s.heap.objs.size (.lst ys)) {s with heap:=s.heap.push {cls:= .type "list",data:= .seq its.toArray},toks:=t'}:=
 I.laid (fun _ _ q=>Heap.get?_push_of_some _ q) (Nat.le_refl _) ⟨hz,its,0,hv,Heap.get?_push_size _ rfl⟩
theorem Inv.fresh (I:Inv X pins σ H s):H s.heap.objs.size=none:=I.hok.fresh (Nat.le_refl _)
theorem Inv.Kz (I:Inv X pins σ H s) (hH:H l=some (.lst xs)):xs.length≤sizeLine∧∃(its:List Value)(n:Nat),Vals xs its∧xs.length=its.length∧s.heap.get? l=some {cls:= .type "list",data:= .seq its.toArray n}:=by
 obtain⟨z,its,n,r,e⟩:=I.hok l _ hH
 exact⟨z,its,n,r,r.length,e⟩
theorem KC{n:Nat}(h:n≤sizeLine):Builtin.List.listTooLong n=false:=by
 unfold Builtin.List.listTooLong
 exact decide_eq_false (by omega)
end
section
variable{X:Cx}
noncomputable def WQ:V→List V→Hp→VK→Prop:=fun x vs H Q=>∃l xs y,x= .ref l∧vs= [y]∧H l=some (.lst xs)∧xs.length<sizeLine∧Q .non (upd H l (.lst (xs ++ [y])))
theorem ji:MtM X "list.append" WQ:=by
 intro pins s σ H x vs v us Q I rx rv h
 obtain⟨l,xs,y,rfl,rfl,hH,hz,q⟩:=h
 cases rx
 obtain⟨u,rfl,ru⟩:=rv.one
 obtain⟨z,its,n,r,hl,e⟩:=I.Kz hH
 refine call_meets F.slot_list_append ⟨_,e,rfl⟩ F.entry_list_append (F.args_list_append_2 _ _) (PySem.list_append l its.toArray n u (by rw[List.size_toArray];omega)) ⟨e,?_⟩
 refine⟨.non,_,I.WN (its':=its ++ [u]) hH e (by simp) (r.append (.cons ru .nil)) ?_,rfl,q⟩
 rw[List.length_append,List.length_singleton]
 omega
noncomputable def WR:V→List V→Hp→VK→Prop:=fun x vs H Q=>∃l b xs zs,x= .ref l∧vs= [.ref b]∧H l=some (.lst xs)∧H b=some (.lst zs)∧xs.length+zs.length≤sizeLine∧Q .non (upd H l (.lst (xs++zs)))
theorem d7:MtM X "list.extend" WR:=by
 intro pins s σ H x vs v us Q I rx rv h
 obtain⟨l,b,xs,zs,rfl,rfl,hH,hB,hz,q⟩:=h
 cases rx
 obtain⟨u,rfl,ru⟩:=rv.one
 cases ru
 obtain⟨z,its,n,r,hl,e⟩:=I.Kz hH
 obtain⟨z2,its2,n2,r2,hl2,e2⟩:=I.Kz hB
 have hsz:its.toArray.size+its2.toArray.size≤sizeLine:=by rw[List.size_toArray,List.size_toArray];omega
 have Um:¬(!its.toArray.isEmpty&&Builtin.List.listTooLong (its.toArray.size+its2.toArray.size))=true:=by
  rw[KC hsz,Bool.and_false]
  exact Bool.false_ne_true
 refine call_meets F.slot_list_extend ⟨_,e,rfl⟩ F.entry_list_extend (F.args_list_extend_2 _ _)
  (AutoSeq1.list_extend_list_list_0 l its.toArray n b its2.toArray n2 Um (by rw[List.size_toArray];omega) (by omega)) ⟨e,e2,?_⟩
 refine⟨.non,_,I.WN (its':=its++its2) hH e (by simp) (r.append r2) ?_,rfl,q⟩
 rw[List.length_append]
 omega
noncomputable def ZX:V→List V→Hp→VK→Prop:=fun x vs H Q=>∃l xs i k y,x= .ref l∧vs= [.int i]∧H l=some (.lst xs)∧ -(2 ^ 63)≤i∧i<2 ^ 63∧seqIndex? i xs.length=some k∧xs[k]? =some y∧Q y (upd H l (.lst (xs.eraseIdx k)))
theorem Uo:MtM X "list.pop" ZX:=by
 intro pins s σ H x vs v us Q I rx rv h
 obtain⟨l,xs,i,k,y,rfl,rfl,hH,h1,h2,hk,hy,q⟩:=h
 cases rx
 obtain⟨u,rfl,ru⟩:=rv.one
 obtain⟨t,rfl⟩:=ru
 obtain⟨z,its,n,r,hl,e⟩:=I.Kz hH
 obtain⟨w,hw,RJ⟩:=r.get hy
 refine call_meets F.slot_list_pop ⟨_,e,rfl⟩ F.entry_list_pop (F.args_list_pop_2 _ _)
  (MeetsSeq.list_pop_at l its.toArray n i t k w (fitsIndex_both h1 h2) (by rw[List.size_toArray,←hl];exact hk) (by rw[←Array.getElem?_toList];exact hw) (by rw[List.size_toArray];omega)) ⟨e,?_⟩
 refine⟨y,_,I.WN (its':=its.eraseIdx k) hH e ?_ (r.eraseIdx k) ?_,RJ,q⟩
 ·show its.toArray.eraseIdxIfInBounds k=(its.eraseIdx k).toArray
  rw[List.eraseIdxIfInBounds_toArray]
 ·have:=Hr xs k
  omega
noncomputable def Up:V→List V→Hp→VK→Prop:=fun x vs H Q=>∃l xs,x= .ref l∧vs= []∧H l=some (.lst xs)∧Q .non (upd H l (.lst xs.reverse))
theorem Oi:MtM X "list.reverse" Up:=by
 intro pins s σ H x vs v us Q I rx rv h
 obtain⟨l,xs,rfl,rfl,hH,q⟩:=h
 cases rx
 have hus:=rv.zero
 subst hus
 obtain⟨z,its,n,r,hl,e⟩:=I.Kz hH
 refine call_meets F.slot_list_reverse ⟨_,e,rfl⟩ F.entry_list_reverse (F.args_list_reverse_1 _) (AutoSeq1.list_reverse_list_0 l its.toArray n (by rw[List.size_toArray];omega)) ⟨e,?_⟩
 refine⟨.non,_,I.WN (its':=its.reverse) hH e (by simp) r.reverse ?_,rfl,q⟩
 rw[List.length_reverse]
 omega
noncomputable def ZZ:R2:=fun x y H Q=>∃l b xs zs,x= .ref l∧y= .ref b∧H l=some (.lst xs)∧H b=some (.lst zs)∧xs.length+zs.length≤sizeLine∧∀p,H p=none→Q (.ref p) (upd H p (.lst (xs++zs)))
theorem iQ:wH X (binaryOp .Add) ZZ:=by
 intro pins s σ H x y v u Q I rx ry h
 obtain⟨l,b,xs,zs,rfl,rfl,hH,hB,hz,q⟩:=h
 cases rx
 cases ry
 obtain⟨z,its,n,r,hl,e⟩:=I.Kz hH
 obtain⟨z2,its2,n2,r2,hl2,e2⟩:=I.Kz hB
 refine PySem.P.add_list e e2 ?_ (by rw[List.size_toArray,List.size_toArray];omega)
 have ea:its.toArray++its2.toArray=(its++its2).toArray:=by simp
 rw[ea]
 exact⟨.ref _,_,I.abv (t':=s.toks) (r.append r2) (by rw[List.length_append];omega),rfl,q _ I.fresh⟩
noncomputable def adZ:R2:=fun x y H Q=>∃l k xs,x= .ref l∧y= .int k∧H l=some (.lst xs)∧ -(2 ^ 63)≤k∧k<2 ^ 63∧xs.length*k.toNat≤sizeLine∧
 ∀p,H p=none→Q (.ref p) (upd H p (.lst (List.replicate k.toNat xs).flatten))
theorem len_rep{α:Type}(xs:List α)(k:Nat):(List.replicate k xs).flatten.length=k*xs.length:=by
 induction k with
 | zero=>simp
 | succ k ih=>rw[List.replicate_succ,List.flatten_cons,List.length_append,ih,Nat.succ_mul,Nat.add_comm]
theorem Uq:wH X (binaryOp .Mult) adZ:=by
 intro pins s σ H x y v u Q I rx ry h
 obtain⟨l,k,xs,rfl,rfl,hH,h1,h2,hz,q⟩:=h
 cases rx
 obtain⟨t,rfl⟩:=ry
 obtain⟨z,its,n,r,hl,e⟩:=I.Kz hH
 have hlen:its.toArray.size*k.toNat≤sizeLine:=by rw[List.size_toArray,←hl];exact hz
 have ad0:¬its.toArray.size*k.toNat > (2 ^ 63-1) / 8:=by
  have:(sizeLine:Nat)≤(2 ^ 63-1) / 8:=by decide
  omega
 have hfit:¬(!Builtin.List.listFitsIndex k)=true:=by
  rw[fitsIndex_both h1 h2]
  exact Bool.false_ne_true
 have Um:¬Builtin.List.listTooLong (its.toArray.size*k.toNat)=true:=by
  rw[KC hlen]
  exact Bool.false_ne_true
 have hnew:List.foldl (fun x1 x2=>x1++x2) #[] (List.replicate (if its.toArray.isEmpty=true then 0 else k.toNat) its.toArray)=(List.replicate k.toNat its).flatten.toArray:=by
  have f0:∀m:Nat,List.foldl (fun x1 x2=>x1++x2) #[] (List.replicate m its.toArray)=(List.replicate m its).flatten.toArray:=fun m=>by
   have:=foldl_rep its m []
   rw[List.nil_append]at this
   exact this
  rw[f0]
  cases its with
  | nil=>simp
  | cons a r'=>rw[if_neg (by simp)]
 refine wpAny_binaryOp_repeat_ref (T:= "list") (U:= "int") (by decide) ⟨_,e,rfl⟩ (fun s'=>typeIs_int s' k t) noFill_list_mul F.fills_int_mul F.slot_int_rmul repeat_list F.slot_int_index.lookup
  (call_meets F.slot_int_rmul (typeIs_int s k t) F.entry_int_rmul (F.args_int_rmul_2 _ _) (int___rmul___int_list k t l its.toArray n)
   ⟨e,rfl,⟨_,e,rfl⟩,call_meets F.slot_list_mul ⟨_,e,rfl⟩ F.entry_list_mul (F.args_list_mul_2 _ _) (AutoListH.list___mul___list_int_3 l its.toArray n k t hfit ad0 Um) ⟨e,?_⟩⟩)
 rw[hnew]
 exact⟨.ref _,_,I.abv (t':=s.toks) (r.rep k.toNat) (by rw[len_rep,Nat.mul_comm];exact hz),rfl,q _ I.fresh⟩
end
section
variable{prog:Program}{w:World}{A:Around}{E:Value→Shared→Prop}{s:Shared}
end
section
variable{X:Cx}
end
end L2
namespace L2
open PySem PySem.Spec PyProof.Rows
theorem Vals.ints:∀ {ns:List Int}{us:List Value},Vals (ns.map V.int) us→IntsAre us ns
 | [],us,h=>by
  rw[List.map_nil]at h
  cases h
  exact IntsAre.nil
 | n::ns,us,h=>by
  rw[List.map_cons]at h
  cases h with
  | cons r t=>
   obtain⟨k,rfl⟩:=r
   exact IntsAre.cons n k (Vals.ints t)
theorem Vals.ad1 {a:Addr} {us:List Value} (r:Vals [V.ref a] us):us= [Value.ref a]:=by
 cases r with
 | cons r t=>
  cases t
  cases r
  rfl
section
variable{prog:Program}{w:World}{A:Around}{E:Value→Shared→Prop}{s:Shared}{l:Addr}{its:List Value}{ns:List Int}{Q:Value→Shared→Prop}
theorem WT(hh:A.handled=none)(hl:s.heap.IsList l its.toArray)(hi:IntsAre its ns)
  (h:∀h' tk t',(∀b o,s.heap.get? b=some o→h'.get? b=some o)→Q (.int ns.sum t') {s with heap:=h',toks:=tk}):wpAny (model prog w) A (call (.builtin "sum") [.ref l]) Q E s:=by
 obtain⟨xs,e⟩:=hi.allInts.items
 have hn:numsOf (intItems xs).toList=ns:=by rw[←e];exact hi.numsOf
 rw[nums_intItems]at hn
 rw[e]at hl
 refine PySem.sum_intListG hh hl fun h' tk t' hk=> ?_
 have:=h h' tk t' hk
 rw[preSum_eq,List.take_of_length_le (by simp),hn];exact this
end
section
variable{X:Cx}
noncomputable def ad2(K:PySem.W.Frag):List V→Hp→VK→Prop:=fun vs H Q=>∃(a:Addr)(ns:List Int),vs= [V.ref a]∧bj K H a (ns.map V.int)∧Q (.int ns.sum) H
theorem Z0(hc:X.calm=true):xP X (.builtin "sum") (ad2 X.K):=by
 intro pins s σ H vs us Q I r h
 obtain⟨a,ns,rfl,hs,q⟩:=h
 obtain⟨its,rv,hl,_⟩:=I.list hs
 rw[Vals.ad1 r]
 exact WT (I.ok.hd hc) hl.isList rv.ints fun h' tk t' hk=>⟨.int _,H,I.kept hk,⟨_,rfl⟩,q⟩
end
section
variable{X:Cx}
theorem Ji{ys:List V}(f:ys.all vG=true){j:Nat}{z:V}(h:ys[j]? =some z):vG z=true:=List.all_eq_true.mp f z (List.mem_of_getElem? h)
end
section
variable{X:Cx}
end
section
variable{X:Cx}
end
mutual
inductive Dp(K:PySem.W.Frag)(H:Hp):V→PyData→Prop
 | non:Dp K H .non .none
 | bl (b:Bool):Dp K H (.bl b) (.bool b)
 | int (i:Int):Dp K H (.int i) (.int i)
 | str (x:Str):Dp K H (.str x) (.str x)
 | lst {a:Addr} {xs:List V} {ds:List PyData}:bj K H a xs→De K H xs ds→Dp K H (.ref a) (.list ds)
 | tup {a:Addr} {xs:List V} {ds:List PyData}:iT K H a xs→De K H xs ds→Dp K H (.ref a) (.tuple ds)
inductive De(K:PySem.W.Frag)(H:Hp):List V→List PyData→Prop
 | nil:De K H [] []
 | cons {v:V} {vs:List V} {d:PyData} {ds:List PyData}:Dp K H v d→De K H vs ds→De K H (v::vs) (d::ds)
end
section
variable{X:Cx}{pins:List (Addr × Obj)}{σ:St}{H:Hp}{s:Shared}
mutual
theorem Dp.reads (I:Inv X pins σ H s):∀(d:PyData)(v:V)(u:Value),Dp X.K H v d→RelV v u→∃as,Reads s.heap u d as
 | .none,_,_,h,r=>by
  cases h
  cases r
  exact⟨_,Reads.none⟩
 | .bool b,_,_,h,r=>by
  cases h
  cases r
  exact⟨_,Reads.bool b⟩
 | .int i,_,_,h,r=>by
  cases h
  obtain⟨t,rfl⟩:=r
  exact⟨_,Reads.int i t⟩
 | .str x,_,_,h,r=>by
  cases h
  obtain⟨t,rfl⟩:=r
  exact⟨_,Reads.str x t⟩
 | .list ds,_,_,h,r=>by
  cases h with
  | lst hs ha=>
   cases r
   obtain⟨its,rv,⟨o,n,ho,hc,_,hd⟩,_⟩:=I.list hs
   obtain⟨as,hr⟩:=Dp.readsAll I ds _ its ha rv
   exact⟨_,Reads.list ho hc hd hr⟩
 | .tuple ds,_,_,h,r=>by
  cases h with
  | tup hs ha=>
   cases r
   obtain⟨its,rv,⟨o,ho,hc,n,hd⟩,_⟩:=I.tuple hs
   obtain⟨as,hr⟩:=Dp.readsAll I ds _ its ha rv
   exact⟨_,Reads.tuple ho hc hd hr⟩
 | .dict _,_,_,h,_=>by cases h
theorem Dp.readsAll (I:Inv X pins σ H s):∀(ds:List PyData)(vs:List V)(us:List Value),De X.K H vs ds→Vals vs us→∃as,ReadsAll s.heap us ds as
 | [],_,_,h,r=>by
  cases h
  cases r
  exact⟨_,ReadsAll.nil⟩
 | d::ds,_,_,h,r=>by
  cases h with
  | cons h1 h2=>
   cases r with
   | cons r1 r2=>
    obtain⟨as,q1⟩:=Dp.reads I d _ _ h1 r1
    obtain⟨bs,q2⟩:=Dp.readsAll I ds _ _ h2 r2
    exact⟨_,ReadsAll.cons q1 q2⟩
end
end
section
variable{X:Cx}
noncomputable def ad3(K:PySem.W.Frag):R2:=fun x y H Q=>∃d e,Dp K H x d∧Dp K H y e∧SeqAt.shaped d=true∧SeqAt.shaped e=true∧Q (.bl (PyData.eqv d e)) H
theorem Z1(hu:X.A.units+64<cLine):wH X (compareOp .Eq) (ad3 X.K):=by
 intro pins s σ H x y v u Q I rx ry h
 obtain⟨d,e,hd,he,sd,se,q⟩:=h
 obtain⟨as,r1⟩:=Dp.reads I d x v hd rx
 obtain⟨bs,r2⟩:=Dp.reads I e y u he ry
 exact SeqAt.compareEq_shaped r1 r2 sd se hu ⟨.bl _,H,I,rfl,q⟩
end
end L2
namespace L2
open PySem PySem.Spec PyProof.Rows
noncomputable abbrev Ur(h:Heap)(c:Addr)(v:Option Value):Prop:=h.IsCell c v
noncomputable def ad4(scope sc:Scope):Scope:=
 {scope with names:=scope.names.map fun(n,k)=>if (k == .free&&sc.kind == .function&&sc.names.lookup n==some .cell)then (n,.cell)else (n,k)}
noncomputable def dj(cells:List (Str × Addr)):List (Str × NameKind)→List (Str × Addr)→List (Str × Addr)
 | [],acc=>acc
 | (n,k)::r,acc=>if k == .free then dj cells r ((n,(cells.lookup n).getD 0)::acc)else dj cells r acc
theorem xV(env:Env)(f:Str × NameKind→List (Str × Addr)→Sem (ForInStep (List (Str × Addr))))
  (hf:∀n k c,f (n,k) c=if k == .free then (do let a ←cellOf env n;pure (.yield ((n,a)::c)))else pure (.yield c)):
  ∀(names:List (Str × NameKind))(acc:List (Str × Addr)),(∀y ∈ names,y.2= .free→∃c,env.cells.lookup y.1=some c)→forIn names acc f=pure (dj env.cells names acc)
 | [],acc,_=>by rw[List.forIn_nil];rfl
 | (n,k)::r,acc,h=>by
  rw[List.forIn_cons,hf]
  have ih:=fun acc=>xV env f hf r acc fun y hy=>h y (List.mem_cons_of_mem _ hy)
  unfold dj
  by_cases hk:(k==NameKind.free)=true
  ·rw[if_pos hk,if_pos hk]
   obtain⟨c,hc⟩:=h (n,k) List.mem_cons_self (by simpa using hk)
   have e:cellOf env n=pure c:=by unfold cellOf;rw[hc]
   rw[e]
   have e2:(env.cells.lookup n).getD 0=c:=by rw[hc];rfl
   rw[e2]
   exact ih _
  ·rw[if_neg hk,if_neg hk]
   exact ih _
theorem Oj{scope:Scope}{env:Env}(h:∀y ∈ scope.names,y.2= .free→∃c,env.cells.lookup y.1=some c):closureFor scope env=pure (dj env.cells scope.names []):=by
 simp only[closureFor]
 rw[xV env _ (fun n k c=>rfl) scope.names [] h]
 rfl
theorem mem_lookup{α:Type}:∀ {l:List (Str × α)}{n:Str}{c:α},(n,c) ∈ l→∃c',l.lookup n=some c'
 | (k,v)::r,n,c,h=>by
  rw[List.lookup_cons]
  cases hb:n==k with
  | true=>exact⟨_,rfl⟩
  | false=>
   rcases List.mem_cons.mp h with e | h
   ·cases e;simp at hb
   ·exact mem_lookup h
theorem nU{cells:List (Str × Addr)}:∀ {names:List (Str × NameKind)}{acc:List (Str × Addr)}{n:Str}{c:Addr},(n,c) ∈ dj cells names acc→(n,c) ∈ acc∨((n,.free) ∈ names∧c=(cells.lookup n).getD 0)
 | [],_,_,_,h=> .inl h
 | (m,k)::r,acc,n,c,h=>by
  unfold dj at h
  split at h
  ·rename_i hk
   have hk:k= .free:=by simpa using hk
   rcases nU h with h | ⟨h1,h2⟩
   ·rcases List.mem_cons.mp h with e | h
    ·cases e;exact .inr ⟨hk▸List.mem_cons_self,rfl⟩
    ·exact .inl h
   ·exact .inr ⟨List.mem_cons_of_mem _ h1,h2⟩
  ·rcases nU h with h | ⟨h1,h2⟩
   ·exact .inl h
   ·exact .inr ⟨List.mem_cons_of_mem _ h1,h2⟩
theorem sX{cells:List (Str × Addr)}:∀ {names:List (Str × NameKind)}{acc:List (Str × Addr)}{p:Str × Addr},p ∈ acc→p ∈ dj cells names acc
 | [],_,_,h=>h
 | (m,k)::r,acc,p,h=>by
  unfold dj
  split
  ·exact sX (List.mem_cons_of_mem _ h)
  ·exact sX h
theorem sY{cells:List (Str × Addr)}:∀ {names:List (Str × NameKind)}{acc:List (Str × Addr)}{n:Str},(n,.free) ∈ names→(n,(cells.lookup n).getD 0) ∈ dj cells names acc
 | (m,k)::r,acc,n,h=>by
  unfold dj
  rcases List.mem_cons.mp h with e | h
  ·cases e
   exact sX List.mem_cons_self
  ·split
   ·exact sY h
   ·exact sY h
theorem pK:∀ {names:List (Str × NameKind)}{h:Heap}{acc:List (Str × Addr)}{x:Str}{c:Addr},(x,c) ∈ cellsFrom h.objs.size names acc→
  (x,c) ∈ acc∨((x,.cell) ∈ names∧h.objs.size≤c∧Ur (pushCells h names) c none)
 | [],_,_,_,_,h=> .inl h
 | (n,k)::r,h,acc,x,c,hm=>by
  unfold cellsFrom at hm
  unfold pushCells
  split at hm
  ·rename_i hk
   rw[if_pos hk]
   have hk:k= .cell:=by simpa using hk
   rw[←Heap.size_push h {cls:= .type "cell",data:= .cell none}]at hm
   rcases pK hm with hm | ⟨h1,h2,h3⟩
   ·rcases List.mem_cons.mp hm with e | hm
    ·cases e
     exact .inr ⟨hk▸List.mem_cons_self,Nat.le_refl _,_,pushCells_keeps r _ _ _ (Heap.get?_push_size _ rfl),rfl⟩
    ·exact .inl hm
   ·rw[Heap.size_push]at h2
    exact .inr ⟨List.mem_cons_of_mem _ h1,Nat.le_of_succ_le h2,h3⟩
  ·rename_i hk
   rw[if_neg hk]
   rcases pK hm with hm | ⟨h1,h2,h3⟩
   ·exact .inl hm
   ·exact .inr ⟨List.mem_cons_of_mem _ h1,h2,h3⟩
theorem uP:∀ {names:List (Str × NameKind)}{n:Nat}{acc:List (Str × Addr)}{p:Str × Addr},p ∈ acc→p ∈ cellsFrom n names acc
 | [],_,_,_,h=>h
 | (m,k)::r,n,acc,p,h=>by
  unfold cellsFrom
  split
  ·exact uP (List.mem_cons_of_mem _ h)
  ·exact uP h
theorem zy:∀ {names:List (Str × NameKind)}{n:Nat}{acc:List (Str × Addr)}{x:Str},(x,.cell) ∈ names→∃c,(x,c) ∈ cellsFrom n names acc
 | (m,k)::r,n,acc,x,h=>by
  unfold cellsFrom
  rcases List.mem_cons.mp h with e | h
  ·cases e
   exact⟨n,uP List.mem_cons_self⟩
  ·split
   ·exact zy h
   ·exact zy h
theorem zz:∀ {names:List (Str × NameKind)}{h:Heap}{acc:List (Str × Addr)}{x y:Str}{c:Addr},(∀p ∈ acc,p.2<h.objs.size)→(∀x y c,(x,c) ∈ acc→(y,c) ∈ acc→x=y)→
  (x,c) ∈ cellsFrom h.objs.size names acc→(y,c) ∈ cellsFrom h.objs.size names acc→x=y
 | [],_,_,_,_,_,_,hi,h1,h2=>hi _ _ _ h1 h2
 | (n,k)::r,h,acc,x,y,c,hl,hi,h1,h2=>by
  unfold cellsFrom at h1 h2
  split at h1
  ·rename_i hk
   rw[if_pos hk]at h2
   rw[←Heap.size_push h {cls:= .type "cell",data:= .cell none}]at h1 h2
   refine zz (h:=h.push _) (fun p hp=> ?_) (fun x y c a b=> ?_) h1 h2
   ·rw[Heap.size_push]
    rcases List.mem_cons.mp hp with rfl | hp
    ·exact Nat.lt_succ_self _
    ·exact Nat.lt_succ_of_lt (hl p hp)
   ·rcases List.mem_cons.mp a with e | a<;>rcases List.mem_cons.mp b with e' | b
    ·cases e;cases e';rfl
    ·cases e;exact absurd (hl _ b) (Nat.lt_irrefl _)
    ·cases e';exact absurd (hl _ a) (Nat.lt_irrefl _)
    ·exact hi _ _ _ a b
  ·rename_i hk
   rw[if_neg hk]at h2
   exact zz hl hi h1 h2
theorem KD{M:Model}{A:Around}{E:Value→Shared→Prop}{s:Shared}{scope:Scope}{globals:Addr}{closure:List (Str × Addr)}{qual:Str}{func:Option Addr}{code:Value}{around:Env}{builtins:Addr}{Q:Env→Shared→Prop}
  (h:Q (newEnv scope s.heap.objs.size globals (cellsFrom (s.heap.objs.size+1) scope.names closure) qual func code (some around) builtins)
   {s with heap:=pushCells (s.heap.push {cls:= .type "dict",data:= .dict #[]}) scope.names}):
  wpAny M A (newFunctionEnv scope globals closure [] qual func code (some around) builtins) Q E s:=by
 simp only[newFunctionEnv,Option.isSome_some,if_true]
 refine wpAny_bind (wpAny_alloc ?_)
 refine wpAny_bind (wpAny_layCells _ (fun n k c=>rfl) scope.names closure _ _ ?_)
 rw[show ({s with heap:=s.heap.push {cls:= .type "dict",data:= .dict #[]} }:Shared).heap.objs.size=s.heap.objs.size+1 from Heap.size_push ..]
 rw[List.forIn_nil]
 exact wpAny_bind (wpAny_pure (wpAny_pure h))
theorem sZ{sc:Scope}:∀ {names:List (Str × NameKind)}{x:Str}{k:NameKind},
  (names.map fun(n,k)=>if (k==NameKind.free&&sc.kind == .function&&sc.names.lookup n==some .cell)then (n,NameKind.cell)else (n,k)).lookup x=some k→
  ∃k',names.lookup x=some k'∧(k=k'∨(k'= .free∧k= .cell))
 | [],_,_,h=>by simp at h
 | (n,k₀)::r,x,k,h=>by
  have ih:= @sZ sc r x k
  have h':List.lookup x ((if (k₀==NameKind.free&&sc.kind == .function&&sc.names.lookup n==some .cell)=true then (n,NameKind.cell)else (n,k₀))::(r.map _))=some k:=h
  cases hx:x==n with
  | true=>
   simp only[List.lookup_cons,hx]
   by_cases hc:(k₀==NameKind.free&&sc.kind == .function&&sc.names.lookup n==some .cell)=true
   ·rw[if_pos hc]at h'
    simp only[List.lookup_cons,hx]at h'
    cases h'
    simp only[Bool.and_eq_true,beq_iff_eq]at hc
    exact⟨k₀,rfl,.inr ⟨hc.1.1,rfl⟩⟩
   ·rw[if_neg hc]at h'
    simp only[List.lookup_cons,hx]at h'
    cases h'
    exact⟨_,rfl,.inl rfl⟩
  | false=>
   simp only[List.lookup_cons,hx]
   by_cases hc:(k₀==NameKind.free&&sc.kind == .function&&sc.names.lookup n==some .cell)=true
   ·rw[if_pos hc]at h'
    simp only[List.lookup_cons,hx]at h'
    exact ih h'
   ·rw[if_neg hc]at h'
    simp only[List.lookup_cons,hx]at h'
    exact ih h'
structure KH(N:List Str)(sc scope:Scope)(own:List (Str × Nat)):Prop where
 kind:scope.kind= .function
 uniq:∀y ∈ scope.names,scope.names.lookup y.1=some y.2
 ix:∀p ∈ own,N[p.2]? =some p.1
 free:∀y ∈ scope.names,y.2= .free→sc.names.lookup y.1=some .cell∨sc.names.lookup y.1=some .free
 own:∀y ∈ scope.names,y.2= .local∨y.2= .cell→y.1 ∈ own.map (·.1)∨y.1 ∉ N
noncomputable def wipe(σ:St):List Nat→St
 | []=>σ
 | v::vs=>(wipe σ vs).set v none
theorem tu(σ:St):∀vs:List Nat,(wipe σ vs).length=σ.length
 | []=>rfl
 | v::vs=>by unfold wipe;rw[List.length_set,tu σ vs]
theorem zA{σ:St}{i:Nat}{x:V}:∀ {vs:List Nat},(wipe σ vs)[i]? =some (some x)→σ[i]? =some (some x)∧i ∉ vs
 | [],h=>⟨h,by simp⟩
 | v::vs,h=>by
  unfold wipe at h
  by_cases hi:v=i
  ·subst hi
   by_cases hv:v<(wipe σ vs).length
   ·rw[List.getElem?_set_self hv]at h;cases h
   ·rw[List.getElem?_eq_none (by simpa using hv)]at h;cases h
  ·rw[List.getElem?_set_ne hi]at h
   obtain⟨h1,h2⟩:=zA h
   exact⟨h1,by simp only[List.mem_cons,not_or];exact⟨fun e=>hi e.symm,h2⟩⟩
noncomputable abbrev Cx.blk (X:Cx) (s:Shared) (H:Hp) (scope:Scope) (cenv:Env) (fp:List Addr):Cx:= {X with s₀:=s,H₀:=H,env:=cenv,outer:=X.stack,ex:=fp,fn:=fun x=>scope.names.lookup x==some .cell,pn:= [],xe:=fun _ _=>False}
section
variable{X:Cx}{pins:List (Addr × Obj)}{σ:St}{H:Hp}{s:Shared}
theorem KJ{scope:Scope}{own:List (Str × Nat)}{fp:List Addr}(I:Inv X pins σ H s)(ok:KH X.N X.env.scope scope own)(hN:X.N.Nodup)(hfp:∀b ∈ fp,BP X pins H b∧b<s.heap.objs.size):
  Inv (X.blk s H scope (compEnvC scope (cellsFrom (s.heap.objs.size+1) scope.names (dj X.env.cells scope.names [])) s.heap.objs.size X.env) fp) [] (wipe σ (own.map (·.2))) H {s with heap:=pushCells (s.heap.push {cls:= .type "dict",data:= .dict #[]}) scope.names}:=by
 have hfree:∀y ∈ scope.names,y.2= .free→∃c,X.env.cells.lookup y.1=some c:=fun y hy e=>by
  rcases ok.free y hy e with k | k
  ·exact I.ok.has _ (.inl k)
  ·exact I.ok.has _ (.inr k)
 generalize KN:compEnvC scope (cellsFrom (s.heap.objs.size+1) scope.names (dj X.env.cells scope.names [])) s.heap.objs.size X.env=cenv
 have kp:∀b o,s.heap.get? b=some o→(pushCells (s.heap.push {cls:= .type "dict",data:= .dict #[]}) scope.names).get? b=some o:=fun b o e=>pushCells_keeps _ _ _ _ (Heap.get?_push_of_some _ e)
 have hL:cenv.locals=s.heap.objs.size:=by rw[←KN];rfl
 have hcl:cenv.cells=cellsFrom (s.heap.objs.size+1) scope.names (dj X.env.cells scope.names []):=by rw[←KN];rfl
 have hsc:cenv.scope=ad4 scope X.env.scope:=by rw[←KN];rfl
 rw[←Heap.size_push s.heap {cls:= .type "dict",data:= .dict #[]}]at hcl
 have cm:∀ {y c},(y,c) ∈ dj X.env.cells scope.names []→X.env.cells.lookup y=some c∧c<s.heap.objs.size:=fun{y c}hm=>by
  rcases nU hm with hm | ⟨h1,rfl⟩
  ·cases hm
  ·obtain⟨c,hc⟩:=hfree _ h1 rfl
   rw[hc]
   obtain⟨w,z⟩:=I.cell _ _ hc
   exact⟨rfl,z.lt⟩
 have mem:∀ {y c},cenv.cells.lookup y=some c→(X.env.cells.lookup y=some c∧c<s.heap.objs.size)∨(s.heap.objs.size+1≤c∧Ur (pushCells (s.heap.push {cls:= .type "dict",data:= .dict #[]}) scope.names) c none):=fun{y c}e=>by
  rw[hcl]at e
  rcases pK (PySem.mem_of_lookup e)with hm | ⟨_,h2,h3⟩
  ·exact .inl (cm hm)
  ·rw[Heap.size_push]at h2;exact .inr ⟨h2,h3⟩
 have look:∀ {y},scope.names.lookup y=some .free→∃c,cenv.cells.lookup y=some c∧X.env.cells.lookup y=some c:=fun{y}hl=>by
  have hy:(y,NameKind.free) ∈ scope.names:=PySem.mem_of_lookup hl
  obtain⟨c',e'⟩:=mem_lookup (uP (names:=scope.names) (n:=(s.heap.push {cls:= .type "dict",data:= .dict #[]}).objs.size) (sY (cells:=X.env.cells) (acc:= []) hy))
  rw[←hcl]at e'
  refine⟨c',e',?_⟩
  rw[hcl]at e'
  rcases pK (PySem.mem_of_lookup e')with hm | ⟨h1,_,_⟩
  ·exact(cm hm).1
  ·have:=ok.uniq _ h1
   rw[hl]at this;cases this
 have okB:(X.blk s H scope cenv fp).Ok:=by
  refine⟨I.ok.mod,by show cenv.scope.kind=_;rw[hsc];exact ok.kind,by show cenv.globals=_;rw[←KN];exact I.ok.glob,by show cenv.builtins=_;rw[←KN];exact I.ok.blt,by show s.heap.objs.size≤cenv.locals;rw[hL];exact Nat.le_refl _,
   fun y z c e1 e2=> ?_,fun y hy=> ?_,fun y c z e=> ?_,I.ok.hd,I.ok.frames,.inl rfl,fun b hb=>⟨?_,fun y c e z=> ?_⟩,I.bs,Nat.le_trans I.ok.Wr I.sz,fun b o e hb=> ?_,fun b hb z=> ?_,I.stack,I.Qp⟩
  ·have e1:cenv.cells.lookup y=some c:=e1
   have e2:cenv.cells.lookup z=some c:=e2
   rw[hcl]at e1 e2
   refine zz (fun p hp=> ?_) (fun y z c a b=>I.ok.inj y z c (cm a).1 (cm b).1) (PySem.mem_of_lookup e1) (PySem.mem_of_lookup e2)
   rw[Heap.size_push]
   exact Nat.lt_succ_of_lt (cm (y:=p.1) (c:=p.2) hp).2
  ·show ∃c,cenv.cells.lookup y=some c
   have key:∀k,cenv.kindOf y=some k→(k= .cell∨k= .free)→∃c,cenv.cells.lookup y=some c:=fun k hk hk'=>by
    unfold Env.kindOf at hk
    rw[hsc]at hk
    obtain⟨k',e,r⟩:=sZ hk
    have:k'= .cell∨k'= .free:=by
     rcases r with rfl | ⟨rfl,_⟩
     ·exact hk'
     ·exact .inr rfl
    rcases this with rfl | rfl
    ·obtain⟨c,hm⟩:=zy (n:=(s.heap.push {cls:= .type "dict",data:= .dict #[]}).objs.size) (acc:=dj X.env.cells scope.names []) (PySem.mem_of_lookup e)
     obtain⟨c',e'⟩:=mem_lookup hm
     exact⟨c',by rw[hcl];exact e'⟩
    ·obtain⟨c,h1,_⟩:=look e
     exact⟨c,h1⟩
   rcases hy with hy | hy
   ·exact key _ hy (.inl rfl)
   ·exact key _ hy (.inr rfl)
  ·have z:(scope.names.lookup y==some NameKind.cell)=true:=z
   have z:scope.names.lookup y=some .cell:=by simpa using z
   have e:cenv.cells.lookup y=some c:=e
   rw[hcl]at e
   rcases pK (PySem.mem_of_lookup e)with hm | ⟨_,h2,_⟩
   ·rcases nU hm with hm | ⟨h1,_⟩
    ·cases hm
    ·have q:=ok.uniq _ h1
     rw[z]at q;cases q
   ·rw[Heap.size_push]at h2
    exact Nat.le_of_succ_le h2
  ·show b≠cenv.locals
   rw[hL];exact Nat.ne_of_lt (hfp b hb).2
  ·have e:cenv.cells.lookup y=some c:=e
   rcases mem e with ⟨h1,_⟩ | ⟨h1,_⟩
   ·exact(hfp b hb).1.2.2.2.2.1 y c h1 z
   ·have h2:s.heap.objs.size+1≤b:=by rw[←z];exact h1
    exact absurd (Nat.lt_of_lt_of_le (hfp b hb).2 (Nat.le_of_succ_le h2)) (Nat.lt_irrefl _)
  ·rcases (hfp b hb).1.2.2.2.1 with z | z
   ·exact I.ok.TJ b o e z
   ·exact absurd (Nat.lt_of_lt_of_le (Heap.lt_size e) (Nat.le_trans I.ok.Wr z)) (Nat.lt_irrefl _)
  ·rcases List.mem_cons.mp (I.Nv b z)with z | z
   ·exact(hfp b hb).1.2.1 z
   ·exact(hfp b hb).1.2.2.1 z
 refine⟨okB,rfl,I.bare,Un.kept kp,⟨fun _=>none,?_,fun i y av e1 e2 e3=> ?_⟩,fun y c e=> ?_,?_,fun y c e=> ?_,fun p hp=> ?_,I.hok.kept kp,by rw[tu];exact I.len⟩
 ·show Heap.Ns _ cenv.locals _
  rw[hL]
  exact Heap.Ns.keeps (Heap.Ns.new ..) fun b o e=>pushCells_keeps _ _ _ _ e
 ·obtain⟨e2,hne⟩:=zA e2
  have hfr:scope.names.lookup y=some .free∧(cenv.kindOf y=some .cell∨cenv.kindOf y=some .free):=by
   have key:∀k,cenv.scope.names.lookup y=some k→k= .local∨k= .cell∨k= .free→scope.names.lookup y=some .free∧(cenv.kindOf y=some .cell∨cenv.kindOf y=some .free):=fun k hk hk'=>by
    have hk0:=hk
    rw[hsc]at hk
    obtain⟨k',e,r⟩:=sZ hk
    have no:¬(k'= .local∨k'= .cell):=fun hh=>by
     rcases ok.own _ (PySem.mem_of_lookup e) hh with e' | e'
     ·obtain⟨p,hp,hpy⟩:=List.mem_map.mp e'
      have e3:=ok.ix p hp
      have:p.1=y:=hpy
      rw[this]at e3
      exact hne (List.mem_map.mpr ⟨p,hp,CJ hN e3 e1⟩)
     ·exact e' (List.mem_of_getElem? e1)
    rcases r with rfl | ⟨rfl,rfl⟩
    ·rcases hk' with rfl | rfl | rfl
     ·exact absurd (.inl rfl) no
     ·exact absurd (.inr rfl) no
     ·exact⟨e,.inr hk0⟩
    ·exact⟨e,.inl hk0⟩
   have e3:Vis cenv.scope y:=e3
   rcases e3 with e3 | e3 | e3
   ·exact key _ e3 (.inl rfl)
   ·exact key _ e3 (.inr (.inl rfl))
   ·exact key _ e3 (.inr (.inr rfl))
  obtain⟨m,hn,hl⟩:=I.loc
  have ad5:Vis X.env.scope y:=(ok.free _ (PySem.mem_of_lookup hfr.1) rfl).elim (fun k=> .inr (.inl k)) (fun k=> .inr (.inr k))
  obtain⟨w,r,q⟩:=hl i y av e1 e2 ad5
  refine⟨w,r,.inr ⟨hfr.2,?_⟩⟩
  obtain⟨c,h1,h2⟩:=look hfr.1
  rcases q with ⟨k,_⟩ | ⟨_,c',e',z⟩
  ·have k:X.env.scope.names.lookup y=some .local:=k
   rcases ok.free _ (PySem.mem_of_lookup hfr.1) rfl with k' | k'<;>rw[show X.env.scope.names.lookup y=_ from k']at k<;>cases k
  ·rw[h2]at e';cases e'
   exact⟨c,h1,z.keeps kp⟩
 ·have e:cenv.cells.lookup y=some c:=e
  rcases mem e with ⟨h1,_⟩ | ⟨_,z⟩
  ·obtain⟨w,z⟩:=I.cell y c h1
   exact⟨w,z.keeps kp⟩
  ·exact⟨_,z⟩
 ·show H cenv.locals=none
  rw[hL];exact I.hok.fresh (Nat.le_refl _)
 ·have e:cenv.cells.lookup y=some c:=e
  rcases mem e with ⟨h1,_⟩ | ⟨h1,_⟩
  ·exact I.pG y c h1
  ·exact I.hok.fresh (Nat.le_of_succ_le h1)
 ·exact absurd (show p ∈ ([]:List (Addr × Obj)) ++ [] from hp) (by simp)
theorem Z2{E:Value→Shared→Prop}{D:Addr}{xs:List V}{y:V}{v:Value}{Q:Value→Shared→Prop}(I:Inv X pins σ H s)(hD:H D=some (.lst xs))(hz:xs.length<sizeLine)(r:RelV y v)
  (h:∀s',Inv X pins σ (upd H D (.lst (xs ++ [y]))) s'→Q .none s'):wpAny (model X.prog X.w) X.A (call (.builtin "list.append") [.ref D,v]) Q E s:=by
 obtain⟨hz',its,n,ri,e⟩:=I.hok D _ hD
 have hl:=ri.length
 refine append_at (hsz:=by rw[List.size_toArray];omega) e fun h' sb ho'=> ?_
 refine h {s with heap:=h'} (I.write (t':=s.toks) (by rw[hD];trivial) (.inl rfl) (fun b u hb q=>(sb.2 b hb).trans q) ⟨_,ho'⟩ ⟨by rw[List.length_append];exact hz,its ++ [v],n+1,ri.append (.cons r .nil),?_⟩)
 rw[ho']
 simp
noncomputable def PTs(X:Cx)(ifs:List Expr)(t:TT):Prop:=
 ∀(pins:List (Addr × Obj))(s:Shared)(σ:St)(H:Hp)(Q:Bool→Hp→Prop),Inv X pins σ H s→t σ H Q→
  wpAny (model X.prog X.w) X.A (forIn ifs true fun c r=>if r=true then do let ok ←isTrue c X.env (eval c X.env);pure (ForInStep.yield ok)else pure (ForInStep.yield r)) (TP X pins σ Q) X.xe s
noncomputable def ad6:TT:=fun _ H Q=>Q true H
theorem jz:PTs X [] ad6:=fun _ _ _ H _ I h=>wpAny_tests_nil ⟨H,I,h⟩
theorem WW{c:Expr}{t:TT}(h:PT X c t):PTs X [c] t:=fun pins s σ H Q I hw=>wpAny_tests_one (h pins s σ H Q I hw)
end
theorem RL{α:Type}{t:Sem α}{Q Q':α→Shared→Prop}{M:Model}{A:Around}{E:Value→Shared→Prop}{s:Shared}(h:wpAny M A t Q (fun _ _=>False) s)(hQ:∀a s,Q a s→Q' a s):wpAny M A t Q' E s:=wpAny_mono h hQ fun _ _ z=>False.elim z
theorem Jj{prog:Program}{w:World}{A:Around}{R:Result→Shared→Prop}{s:Shared}{elt target iter:Expr}{ifs:List Expr}{scope:Scope}{pos:Pos}{it acc:Value}{env:Env}(I:Nat→Shared→Prop)
  (turn:∀n s,I n s→wpAny (model prog w) A (pyNext it) (fun r s₁=>match r with
   | none=>R (.ok .next) s₁
   | some v=>wpAny (model prog w) A (letOwnedTupleGo target it v) (fun _ s₁'=>wpAny (model prog w) A (assign target env v) (fun _ s₂=>
    wpAny (model prog w) A (forIn ifs true fun c r=>if r=true then do let ok ←isTrue c env (eval c env);pure (ForInStep.yield ok)else pure (ForInStep.yield r)) (fun ok s₃=>
     if ok=true then wpAny (model prog w) A (eval elt env) (fun x s₄=>
      wpAny (model prog w) A (call (.builtin "list.append") [acc,x]) (fun _ s₅=>∃m,m<n∧I m s₅) (notedBy (model prog w) A env fun e s'=>R (.error e) s') s₄) (notedBy (model prog w) A env fun e s'=>R (.error e) s') s₃
     else ∃m,m<n∧I m s₃) (notedBy (model prog w) A env fun e s'=>R (.error e) s') s₂) (notedBy (model prog w) A env fun e s'=>R (.error e) s') s₁') (notedBy (model prog w) A env fun e s'=>R (.error e) s') s₁) (notedBy (model prog w) A env fun e s'=>R (.error e) s') s)
  (n:Nat) (h:I n s):
  codeAny (model prog w) A (.compLoop (.ListComp elt [⟨target,iter,ifs,0⟩] scope pos) 0 it acc env) R s:=by
 refine codeAny_loop rfl I (fun n s hI=> ?_) n h
 show wpAny _ A ((compTurn (.ListComp elt [⟨target,iter,ifs,0⟩] scope pos) 0 it acc env).onRaise (fun x=>do noteFrame x env;theTreesLotGoes x)) _ _ s
 refine wpAny_noted ?_
 rw[compTurn_list]
 refine wpAny_bind (wpAny_standAt (wpAny_bind (wpAny_mono (turn n s hI) (fun r s₁ h₁=> ?_) fun _ _ h'=>h')))
 cases r with
 | none=>exact wpAny_pure h₁
 | some v=>
  refine wpAny_bind (wpAny_mono h₁ (fun _ s₁' h₁'=> ?_) fun _ _ h'=>h')
  refine wpAny_bind (wpAny_mono h₁' (fun _ s₂ h₂=>wpAny_bind (wpAny_mono h₂ (fun ok s₃ h₃=> ?_) fun _ _ h'=>h')) fun _ _ h'=>h')
  cases ok with
  | false=>exact wpAny_pure ⟨rfl,h₃⟩
  | true=>
   exact wpAny_bind (wpAny_bind (wpAny_mono h₃ (fun x s₄ h₄=>wpAny_bind (wpAny_mono h₄ (fun _ s₅ h₅=>wpAny_pure (wpAny_pure ⟨rfl,h₅⟩)) fun _ _ h'=>h')) fun _ _ h'=>h'))
section
variable{X:Cx}
noncomputable def tLc(wi:TI)(g:TG)(tt:TT)(te:TE)(vs:List Nat):TE:=fun σ H Q=>wi σ H fun J H1=>∀D,H1 D=none→∃W:Nat→Nat→Hp→Prop,(∃m,W 0 m (upd H1 D (.lst [])))∧∀i m H,W i m H→
 (J.stop i H∧Q (.ref D) H)∨(J.go i H∧∃Nx:Hp→Prop,(∀H',Nx H'→∃m',m'<m∧W (i+1) m' H')∧∀x H',J.T6 i H x H'→g x (wipe σ vs) H' fun sG H2=>wipe sG vs=wipe σ vs∧tt sG H2 fun b H3=>
  if b=true then te sG H3 fun y H4=>∃acc,H4 D=some (.lst acc)∧acc.length<sizeLine∧Nx (upd H4 D (.lst (acc ++ [y])))else Nx H3)
theorem QB{pins:List (Addr × Obj)}{s:Shared}{σ:St}{H:Hp}{Q:VK}{elt tg iter:Expr}{ifs:List Expr}{scope:Scope}{own:List (Str × Nat)}{pos pos':Pos}{wi:TI}{g:TG}{tt:TT}{te:TE}{use:Option (Value→Sem Unit)}{Qf:Value→Shared→Prop}
  (hc:X.calm=true) (hN:X.N.Nodup) (I:Inv X pins σ H s) (hi:PI X tg iter wi) (ok:KH X.N X.env.scope scope own)
  (hg:∀(s:Shared)(H:Hp)(C:Addr)(cl:List (Str × Addr))(fp:List Addr),PG (X.blk s H scope (compEnvC scope cl C X.env) fp) tg g) (ht:∀(s:Shared)(H:Hp)(C:Addr)(cl:List (Str × Addr))(fp:List Addr),PTs (X.blk s H scope (compEnvC scope cl C X.env) fp) ifs tt)
  (he:∀(s:Shared)(H:Hp)(C:Addr)(cl:List (Str × Addr))(fp:List Addr),PE (X.blk s H scope (compEnvC scope cl C X.env) fp) elt te) (hs:∀x,foldedSetIterable iter X.env x=pure x)
  (h:tLc wi g tt te (own.map (·.2)) σ H Q)
  (hRR:∀D C s' m H',Inv X pins σ H' s'→Q (.ref D) H'→s'.heap.Ns C m→BP X pins H' C→compPost (model X.prog X.w) X.A X.xe use Qf (.ref D) C (.ok .next) s'):
  wpAny (model X.prog X.w) X.A (comprehension (.ListComp elt [⟨tg,iter,ifs,0⟩] scope pos) scope X.env pos' (newList []) false (eval iter X.env) use) Qf X.xe s:=by
 have hfree:∀y ∈ scope.names,y.2= .free→∃c,X.env.cells.lookup y.1=some c:=fun y hy e=>by
  rcases ok.free y hy e with k | k
  ·exact I.ok.has _ (.inl k)
  ·exact I.ok.has _ (.inr k)
 refine wpAny_comprehension_free (use:=use) rfl hs (Oj hfree) ok.kind (fun y hy e=>by rw[ok.uniq y hy,e])
  (dN (hi pins s σ H _ I h) fun xv s1 hx=>dN hx fun itv s2 h2=> ?_)
 obtain⟨it,fp,tn,J,H2,e,I2,T,st2,f2,q⟩:=h2
 subst e
 refine wpAny_newObj_type (KD ?_) (by show 0≤sizeLine;decide)
 generalize hD:s2.heap.objs.size=D
 have hDn:H2 D=none:=I2.hok.fresh (Nat.le_of_eq hD)
 obtain⟨W,⟨m0,w0⟩,turn⟩:=q D hDn
 generalize hs3:({s2 with heap:=s2.heap.push {cls:= .type "list",data:= .seq ([]:List Value).toArray} }:Shared)=s3
 have I3:Inv X pins σ (upd H2 D (.lst [])) s3:=by
  rw[←hs3]
  refine I2.laid (t':=s2.toks) (fun b o e=>Heap.get?_push_of_some _ e) (Nat.le_of_eq hD) ⟨Nat.zero_le _,[],0,.nil,?_⟩
  rw[←hD]
  exact Heap.get?_push_size _ rfl
 have h3:s3.heap=s2.heap.push {cls:= .type "list",data:= .seq ([]:List Value).toArray}:=by rw[←hs3]
 have sz:∀b ∈ fp,b<s2.heap.objs.size:=fun b hb=>by
  obtain⟨o,e,_⟩:=T.obj _ _ st2 b hb
  exact Heap.lt_size e
 have f3:∀b ∈ fp,BP X pins (upd H2 D (.lst [])) b∧b<s3.heap.objs.size:=fun b hb=>by
  have hlt:=sz b hb
  refine⟨⟨?_,(f2 b hb).2⟩,by rw[h3,Heap.size_push];exact Nat.lt_succ_of_lt hlt⟩
  rw[bF (by rw[←hD];exact Nat.ne_of_lt hlt)]
  exact(f2 b hb).1
 have st3:tn 0 s3.heap:=T.keep _ _ _ st2 fun b _ o e=>by rw[h3];exact Heap.get?_push_of_some _ e
 have I4:=KJ I3 ok hN f3
 have pg:=hg s3 (upd H2 D (.lst [])) s3.heap.objs.size (cellsFrom (s3.heap.objs.size+1) scope.names (dj X.env.cells scope.names [])) fp
 have pt:=ht s3 (upd H2 D (.lst [])) s3.heap.objs.size (cellsFrom (s3.heap.objs.size+1) scope.names (dj X.env.cells scope.names [])) fp
 have pe:=he s3 (upd H2 D (.lst [])) s3.heap.objs.size (cellsFrom (s3.heap.objs.size+1) scope.names (dj X.env.cells scope.names [])) fp
 show codeAny _ _ (.compStart (.ListComp elt [⟨tg,iter,ifs,0⟩] scope pos) 0 (.ref it) (.ref D) (compEnvC scope (cellsFrom (s3.heap.objs.size+1) scope.names (dj X.env.cells scope.names [])) s3.heap.objs.size X.env)) (compPost (model X.prog X.w) X.A X.xe use Qf (.ref D) s3.heap.objs.size) {s3 with heap:=pushCells (s3.heap.push {cls:= .type "dict",data:= .dict #[]}) scope.names}
 have nfp:∀b ∈ fp,(upd H2 D (.lst [])) b=none:=fun b hb=>(f3 b hb).1.1
 generalize hce:compEnvC scope (cellsFrom (s3.heap.objs.size+1) scope.names (dj X.env.cells scope.names [])) s3.heap.objs.size X.env=ce at I4 pg pt pe ⊢
 have cL:ce.locals=s3.heap.objs.size:=by subst hce;rfl
 generalize hH3:upd H2 D (.lst [])=H3 at I3 I4 pg pt pe w0 nfp f3
 generalize hs4:({s3 with heap:=pushCells (s3.heap.push {cls:= .type "dict",data:= .dict #[]}) scope.names}:Shared)=s4 at I4 ⊢
 have st4:tn 0 s4.heap:=T.keep _ _ _ st3 fun b _ o e=>by rw[←hs4];exact pushCells_keeps _ _ _ _ (Heap.get?_push_of_some _ e)
 have stat:∀ {σ':St}{H':Hp}{s':Shared},Inv (X.blk s3 H3 scope ce fp) [] σ' H' s'→(∀b ∈ fp,H' b=none)→∀b ∈ fp,BP (X.blk s3 H3 scope ce fp) [] H' b:=fun{σ' H' s'}I' hn b hb=>
  ⟨hn b hb,(I'.ok.exf b hb).1,I'.ok.TQ b hb,.inl hb,fun x c e=>(I'.ok.exf b hb).2 x c e,fun p hp=>absurd (show p ∈ ([]:List (Addr × Obj)) ++ [] from hp) (by simp)⟩
 have loop:codeAny (model X.prog X.w) X.A (.compLoop (.ListComp elt [⟨tg,iter,ifs,0⟩] scope pos) 0 (.ref it) (.ref D) ce) (compPost (model X.prog X.w) X.A X.xe use Qf (.ref D) s3.heap.objs.size) s4:=by
  refine Jj (fun n s'=>∃i H',Inv (X.blk s3 H3 scope ce fp) [] (wipe σ (own.map (·.2))) H' s'∧tn i s'.heap∧(∀b ∈ fp,H' b=none)∧W i n H') ?_ m0 ⟨0,H3,I4,st4,nfp,w0⟩
  rintro n s5 ⟨i,H5,I5,st5,n5,w5⟩
  rcases turn i n H5 w5 with ⟨stop,qq⟩ | ⟨go,Nx,hNx,step⟩
  ·have td:=T.done (X.blk s3 H3 scope ce fp) rfl rfl rfl hc i [] s5 _ H5 (fun _ _=>False) I5 (stat I5 n5) st5 stop
   refine RL td fun r s6 ⟨hr,I6⟩=> ?_
   subst hr
   have I7:Inv X pins σ H5 s6:=I3.call' (ch:=fp) I6.os I6.base I6.hok I6.bare fun b hb=>⟨(f3 b hb).1.2.2.2.1,(f3 b hb).1.2.1,(f3 b hb).1.2.2.2.2.1,(f3 b hb).1.2.2.2.2.2⟩
   have nC:H5 s3.heap.objs.size=none:=by
    have z:H5 ce.locals=none:=I6.free
    rw[cL]at z
    exact z
   obtain⟨m,hn,_⟩:=I6.loc
   have hn:s6.heap.Ns ce.locals m:=hn
   rw[cL]at hn
   exact hRR D s3.heap.objs.size s6 m H5 I7 qq hn (I3.Km (Nat.le_refl _) nC)
  ·have ti:=T.item (X.blk s3 H3 scope ce fp) rfl rfl rfl hc i [] s5 _ H5 (fun _ _=>False) I5 (stat I5 n5) st5 go
   refine RL ti fun r s6 ⟨u,hr,h6⟩=> ?_
   subst hr
   refine RL h6 fun _ s7 ⟨x,H7,I7,r7,y7,Z4,n7⟩=> ?_
   have I7':=I7.pinned (stat I7 n7) (T.obj _ _ Z4)
   refine RL (pg _ s7 _ H7 x u _ I7' r7 (step x H7 y7)) fun _ s8 ⟨σ8,H8,I8,hw8,q8⟩=> ?_
   refine RL (pt _ s8 σ8 H8 _ I8 q8) fun b s9 ⟨H9,I9,q9⟩=> ?_
   have fin:∀ {s':Shared}{H':Hp},Inv (X.blk s3 H3 scope ce fp) ([] ++ CT fp s7.heap) σ8 H' s'→Nx H'→∃m,m<n∧∃i H',Inv (X.blk s3 H3 scope ce fp) [] (wipe σ (own.map (·.2))) H' s'∧tn i s'.heap∧(∀b ∈ fp,H' b=none)∧W i m H':=fun{s' H'}I' nx=>by
    obtain⟨m',hm,w'⟩:=hNx H' nx
    have aby:∀b ∈ fp,∀o,s7.heap.get? b=some o→s'.heap.get? b=some o∧H' b=none:=fun b hb o e=>
     let z:=I'.pin (b,o) (List.mem_append_right _ (List.mem_append_right _ (wG hb e)))
     ⟨z.1,z.2.1⟩
    have hl:(wipe σ (own.map (·.2))).length=σ8.length:=by rw[←hw8,tu]
    refine⟨m',hm,i+1,H',(I'.xO (pins:= [])).weak hl (fun j v e=> ?_),T.keep _ _ _ Z4 fun b hb o e=>(aby b hb o e).1,fun b hb=> ?_,w'⟩
    ·rw[←hw8]at e
     exact(zA e).1
    ·obtain⟨o,e,_⟩:=T.obj _ _ Z4 b hb
     exact(aby b hb o e).2
   cases b with
   | false=>
    simp only[Bool.false_eq_true,if_false]at q9 ⊢
    exact fin I9 q9
   | true=>
    simp only[if_true]at q9 ⊢
    refine RL (pe _ s9 σ8 H9 _ I9 q9) fun z s10 ⟨yv,H10,I10,r10,acc,ad7,ad8,nx⟩=> ?_
    exact Z2 (X:=X.blk s3 H3 scope ce fp) I10 ad7 ad8 r10 fun s11 I11=>fin I11 nx
 exact codeAny_compStart_list loop (T.self X.A 0 _ _ _ st4 loop)
theorem xW{elt tg iter:Expr}{ifs:List Expr}{scope:Scope}{own:List (Str × Nat)}{pos:Pos}{wi:TI}{g:TG}{tt:TT}{te:TE}(hc:X.calm=true)(hN:X.N.Nodup)(hi:PI X tg iter wi)(ok:KH X.N X.env.scope scope own)
  (hg:∀(s:Shared)(H:Hp)(C:Addr)(cl:List (Str × Addr))(fp:List Addr),PG (X.blk s H scope (compEnvC scope cl C X.env) fp) tg g) (ht:∀(s:Shared)(H:Hp)(C:Addr)(cl:List (Str × Addr))(fp:List Addr),PTs (X.blk s H scope (compEnvC scope cl C X.env) fp) ifs tt)
  (he:∀(s:Shared)(H:Hp)(C:Addr)(cl:List (Str × Addr))(fp:List Addr),PE (X.blk s H scope (compEnvC scope cl C X.env) fp) elt te) (hs:∀x,foldedSetIterable iter X.env x=pure x:=by intro _;rfl):
  PE X (.ListComp elt [⟨tg,iter,ifs,0⟩] scope pos) (tLc wi g tt te (own.map (·.2))):=by
 intro pins s σ H Q I h
 rw[eval_ListComp]
 refine QB hc hN I hi ok hg ht he hs h fun D C s' m H' I' q hn f=>⟨m,hn,fun h'' sb=> ?_⟩
 obtain⟨f0,f1,f2,f3,f4,f5⟩:=f
 exact⟨.ref D,H',I'.turned (t':=s'.toks) (fun b o hb e=>(sb.2 b hb).trans e) f0 f1 f3 f4 f5,rfl,q⟩
theorem Df{i:Nat}{y:Str}{py:Pos}{elt tg iter:Expr}{ifs:List Expr}{scope:Scope}{own:List (Str × Nat)}{pos spos:Pos}{wi:TI}{g:TG}{tt:TT}{te:TE}(hc:X.calm=true)(hN:X.N.Nodup)(hy:X.N[i]? =some y)(hyl:X.env.scope.names.lookup y=some .local)
  (hsw:swapsWith (.ListComp elt [⟨tg,iter,ifs,0⟩] scope pos) (some (.Name y py)) spos.line X.env=pure true) (hi:PI X tg iter wi) (ok:KH X.N X.env.scope scope own)
  (hg:∀(s:Shared)(H:Hp)(C:Addr)(cl:List (Str × Addr))(fp:List Addr),PG (X.blk s H scope (compEnvC scope cl C X.env) fp) tg g) (ht:∀(s:Shared)(H:Hp)(C:Addr)(cl:List (Str × Addr))(fp:List Addr),PTs (X.blk s H scope (compEnvC scope cl C X.env) fp) ifs tt)
  (he:∀(s:Shared)(H:Hp)(C:Addr)(cl:List (Str × Addr))(fp:List Addr),PE (X.blk s H scope (compEnvC scope cl C X.env) fp) elt te) (hs:∀x,foldedSetIterable iter X.env x=pure x:=by intro _;rfl):
  PS X (.Assign [.Name y py] (.ListComp elt [⟨tg,iter,ifs,0⟩] scope pos) spos) (Ws (tLc wi g tt te (own.map (·.2))) (kZ i)):=by
 intro pins s σ H D I h
 rw[exec_Assign_Name_used _ _ _ _ hsw]
 refine wpAny_bind (wpAny_standAt (wpAny_bind ?_))
 show wpAny _ X.A (do let _ ←comprehension (.ListComp elt [⟨tg,iter,ifs,0⟩] scope pos) scope X.env (firstIterPos [⟨tg,iter,ifs,0⟩] pos) (newList []) false (eval iter X.env) (some (assign (.Name y py) X.env))) _ _ s
 have h:tLc wi g tt te (own.map (·.2)) σ H (fun x H1=>kZ i x σ H1 D.nx):=h
 refine wpAny_bind (dN (QB (Qf:=fun _ s'=>SP X pins D .next s') hc hN I hi ok hg ht he hs h fun L C s' m H' I' q hn f=> ?_) fun _ s' hq=>wpAny_pure (wpAny_pure hq))
 show wpAny _ _ (assign (.Name y py) X.env (.ref L)) _ _ _
 refine wpAny_assign_Name (Hl (v:=V.ref L) I' hN hy (.inl hyl) rfl (fun s2 I2 ⟨a,sb,ha⟩=> ?_) (.inr hyl))
 obtain⟨f0,f1,f2,f3,f4,f5⟩:=f
 have haC:C≠a:=by
  rcases ha with z | z
  ·rw[z];exact f1
  ·exact fun e=>f4 y a z e.symm
 refine⟨m,hn.sameBut sb haC,fun h3 sb3=> ?_⟩
 exact⟨_,H',I2.turned (t':=s2.toks) (fun b o hb e=>(sb3.2 b hb).trans e) f0 f1 f3 f4 f5,q⟩
theorem Jk{elt:Expr}{gs:List Comprehension}{scope:Scope}{pos py:Pos}{y:Str}{l:Nat}{env:Env}(hk:env.scope.kind= .function)(hy:env.scope.names.lookup y=some .local)(hl:(py.line==pos.line)=true)
  (ha:(scope.names.any fun(n,k)=>n==y&&(k == .local||k == .cell))=false):swapsWith (.ListComp elt gs scope pos) (some (.Name y py)) l env=pure true:=by
 have ky:env.kindOf y=some .local:=hy
 have hb:env.blockKind= .function:=by unfold Env.blockKind;rw[hk];rfl
 unfold swapsWith
 simp only[hb,ky,ha,Expr.pos,hl]
 rfl
end
theorem xX{K:PySem.W.Frag}{a:Addr}{xs:List V}{g:TG}{tt:TT}{te:TE}{vs:List Nat}{σ:St}{H1:Hp}{D:Addr}{Qd:Hp→Prop}(Pv:Nat→Hp→Prop)(h0:Pv 0 (upd H1 D (.lst [])))(hl:∀i H,i≤xs.length→Pv i H→bj K H a xs)
  (hs:∀i x H,xs[i]? =some x→Pv i H→g x (wipe σ vs) H fun sG H2=>wipe sG vs=wipe σ vs∧tt sG H2 fun b H3=>
   if b=true then te sG H3 fun y H4=>∃acc,H4 D=some (.lst acc)∧acc.length<sizeLine∧Pv (i+1) (upd H4 D (.lst (acc ++ [y])))else Pv (i+1) H3) (hd:∀H,Pv xs.length H→Qd H):
  ∃W:Nat→Nat→Hp→Prop,(∃m,W 0 m (upd H1 D (.lst [])))∧∀i m H,W i m H→
   ((Yk K a).stop i H∧Qd H)∨((Yk K a).go i H∧∃Nx:Hp→Prop,(∀H',Nx H'→∃m',m'<m∧W (i+1) m' H')∧∀x H',(Yk K a).T6 i H x H'→g x (wipe σ vs) H' fun sG H2=>wipe sG vs=wipe σ vs∧tt sG H2 fun b H3=>
    if b=true then te sG H3 fun y H4=>∃acc,H4 D=some (.lst acc)∧acc.length<sizeLine∧Nx (upd H4 D (.lst (acc ++ [y])))else Nx H3):=by
 refine⟨fun i m H=>m=xs.length-i∧i≤xs.length∧Pv i H,⟨xs.length,by simp,Nat.zero_le _,h0⟩,?_⟩
 rintro i m H ⟨rfl,hi,p⟩
 have q:=hl i H hi p
 by_cases hlt:i<xs.length
 ·refine .inr ⟨⟨xs,xs[i],q,by simp[hlt]⟩,Pv (i+1),fun H' p'=>⟨xs.length-(i+1),by omega,rfl,hlt,p'⟩,fun x H' y=> ?_⟩
  obtain⟨e,y⟩:=y
  subst e
  exact hs i x _ (y xs q) p
 ·have e:i=xs.length:=by omega
  subst e
  exact .inl ⟨⟨xs,q,Nat.le_refl _⟩,hd H p⟩
noncomputable def xY(N:List Str)(sc scope:Scope)(own:List (Str × Nat)):Bool:=
 (match scope.kind with | .function=>true | _=>false)&&(scope.names.all fun y=>decide (scope.names.lookup y.1=some y.2))&&(own.all fun p=>decide (N[p.2]? =some p.1)) &&
  (scope.names.all fun y=>match y.2 with
   | .free=>(match sc.names.lookup y.1 with | some .cell=>true | some .free=>true | _=>false)
   | .local=>decide (y.1 ∈ own.map (·.1))||decide (y.1 ∉ N)
   | .cell=>decide (y.1 ∈ own.map (·.1))||decide (y.1 ∉ N)
   | _=>true)
theorem gj{N:List Str}{sc scope:Scope}{own:List (Str × Nat)}(h:xY N sc scope own=true):KH N sc scope own:=by
 unfold xY at h
 simp only[Bool.and_eq_true,List.all_eq_true,decide_eq_true_eq]at h
 obtain⟨⟨⟨h1,h2⟩,h3⟩,h4⟩:=h
 refine⟨?_,h2,h3,fun y hy e=> ?_,fun y hy e=> ?_⟩
 ·split at h1
  ·assumption
  ·cases h1
 ·have q:=h4 y hy
  simp only[e]at q
  split at q<;>first | exact .inl (by assumption) | exact .inr (by assumption) | cases q
 ·have q:=h4 y hy
  rcases e with e | e<;>(simp only[e,Bool.or_eq_true,decide_eq_true_eq]at q;exact q)
end L2
namespace L2
open PySem PySem.Spec PyProof.Rows
section
variable{prog:Program}{w:World}{A:Around}{R:Result→Shared→Prop}{s:Shared}{elt t0 i0 t1 i1:Expr}{agM agN:List Expr}{scope:Scope}{pos:Pos}{it acc:Value}{env:Env}
end
section
variable{X:Cx}
end
end L2
namespace L2
open PySem PySem.Spec PyProof.Rows
section
variable{κ:Type}[DecidableEq κ]
noncomputable def lY(kvs:List (κ × V))(k:κ):Option V:=(kvs.find? fun kv=>decide (kv.1=k)).map (·.2)
noncomputable def putK(kvs:List (κ × V))(k:κ)(v:V):List (κ × V):=
 if (kvs.any fun kv=>decide (kv.1=k))=true then kvs.map (fun kv=>if kv.1=k then (kv.1,v)else kv)else kvs ++ [(k,v)]
theorem jA{p:κ × V}{r:List (κ × V)}{k:κ}(e:p.1=k):lY (p::r) k=some p.2:=by simp[lY,List.find?_cons,e]
theorem jB{p:κ × V}{r:List (κ × V)}{k:κ}(e:¬p.1=k):lY (p::r) k=lY r k:=by simp[lY,List.find?_cons,e]
theorem Dg(k:κ):∀kvs:List (κ × V),(kvs.any fun kv=>decide (kv.1=k))=(lY kvs k).isSome
 | []=>rfl
 | p::r=>by
  rw[List.any_cons]
  by_cases e:p.1=k
  ·simp only[jA e,decide_eq_true e,Bool.true_or,Option.isSome_some]
  ·rw[jB e,decide_eq_false e,Bool.false_or];exact Dg k r
theorem Hs(k j:κ)(y:V):∀kvs:List (κ × V),lY kvs k=none→lY (kvs ++ [(k,y)]) j=if j=k then some y else lY kvs j
 | [],_=>by
  by_cases e:k=j
  ·rw[if_pos e.symm];exact jA (p:=(k,y)) e
  ·rw[if_neg (fun z=>e z.symm)];exact jB (p:=(k,y)) e
 | p::r,hn=>by
  rw[List.cons_append]
  have hk:¬p.1=k:=fun z=>by rw[jA z]at hn;cases hn
  rw[jB hk]at hn
  have ih:=Hs k j y r hn
  by_cases e:p.1=j
  ·rw[jA e,jA e,if_neg (fun z=>hk (e.trans z))]
  ·rw[jB e,jB e,ih]
theorem Aq(kvs:List (κ × V))(k:κ)(v:V):(putK kvs k v).length≤kvs.length+1:=by
 unfold putK
 split
 ·rw[List.length_map];omega
 ·rw[List.length_append,List.length_cons,List.length_nil];omega
theorem sE.zB {o:Option V} {u:Option Value} (r:sE o u):o.isSome=u.isSome:=by
 cases o with
 | none=>cases u with
  | none=>rfl
  | some _=>exact(show False from r).elim
 | some _=>cases u with
  | none=>exact(show False from r).elim
  | some _=>rfl
theorem sE.getD {o:Option V} {u:Option Value} {d:V} {d':Value} (r:sE o u) (rd:RelV d d'):RelV (o.getD d) (u.getD d'):=by
 cases o with
 | none=>cases u with
  | none=>exact rd
  | some _=>exact(show False from r).elim
 | some _=>cases u with
  | none=>exact(show False from r).elim
  | some _=>exact r
theorem KV.val {kvs:List (κ × V)} {vs:List (κ × Value)} (r:KV kvs vs) (k:κ):sE (lY kvs k) (valueAt vs k):=by
 unfold KV at r
 induction r with
 | nil=>exact True.intro
 | @cons p q ps qs h t ih=>
  obtain⟨h1,h2⟩:=h
  by_cases e:p.1=k
  ·have e':q.1=k:=h1.symm.trans e
   have b:valueAt (q::qs) k=some q.2:=by simp[valueAt,List.find?_cons,e']
   rw[jA e,b];exact h2
  ·have e':¬q.1=k:=fun z=>e (h1.trans z)
   have b:valueAt (q::qs) k=valueAt qs k:=by simp[valueAt,List.find?_cons,e']
   rw[jB e,b];exact ih
theorem KV.any {kvs:List (κ × V)} {vs:List (κ × Value)} (r:KV kvs vs) (k:κ):(kvs.any fun kv=>decide (kv.1=k))=vs.any fun kv=>decide (kv.1=k):=by
 unfold KV at r
 induction r with
 | nil=>rfl
 | cons h t ih=>rw[List.any_cons,List.any_cons,ih,h.1]
theorem KV.repl {kvs:List (κ × V)} {vs:List (κ × Value)} (r:KV kvs vs) (k:κ) {y:V} {u:Value} (ry:RelV y u):
  KV (kvs.map fun kv=>if kv.1=k then (kv.1,y)else kv) (vs.map fun kv=>if kv.1=k then (kv.1,u)else kv):=by
 unfold KV at r ⊢
 induction r with
 | nil=>exact .nil
 | @cons p q ps qs h t ih=>
  rw[List.map_cons,List.map_cons]
  refine .cons ?_ ih
  obtain⟨h1,h2⟩:=h
  by_cases e:p.1=k
  ·rw[if_pos e,if_pos (h1.symm.trans e)];exact⟨h1,ry⟩
  ·rw[if_neg e,if_neg (fun z=>e (h1.trans z))];exact⟨h1,h2⟩
theorem KV.put {kvs:List (κ × V)} {vs:List (κ × Value)} (r:KV kvs vs) (k:κ) {y:V} {u:Value} (ry:RelV y u):KV (putK kvs k y) (stored vs k u):=by
 unfold putK stored
 rw[r.any k]
 by_cases e:(vs.any fun kv=>decide (kv.1=k))=true
 ·rw[if_pos e,if_pos e];exact r.repl k ry
 ·rw[if_neg e,if_neg e];exact Paired.snoc r ⟨rfl,ry⟩
theorem KV.length {kvs:List (κ × V)} {vs:List (κ × Value)} (r:KV kvs vs):kvs.length=vs.length:=Paired.length r
end
theorem KQ{P:Program}{w:World}{k:Key}{u:Value}(r:RelV (kV k) u):(dI P w).is k u=true:=by
 cases k with
 | inl i=>obtain⟨t,e⟩:=(show ∃t,u=Value.int i t from r);subst e;exact Kd P w i t
 | inr x=>obtain⟨t,e⟩:=(show ∃t,u=Value.str x t from r);subst e;exact Ke P w x t
theorem Ht{P:Program}{w:World}:∀ {ks:List Key}{us:List Value},Vals (ks.map kV) us→ItemsAre (dI P w) ks us
 | [],_,r=>by rw[List.map_nil]at r;cases r;exact .nil
 | k::ks,_,r=>by
  rw[List.map_cons]at r
  cases r with
  | cons h t=>exact .cons (KQ h) (Ht t)
noncomputable abbrev KT(H:Hp):List (List Key × V)→List (List Key × Addr × Value)→Prop:=Paired fun p q=>p.1=q.1∧H q.2.1=some (.tup (p.1.map kV))∧RelV p.2 q.2.2
theorem KT.val {H:Hp} {kvs:List (List Key × V)} {xs:List (List Key × Addr × Value)} (r:KT H kvs xs) (k:List Key):sE (lY kvs k) ((atKey xs k).map (·.2)):=by
 induction r with
 | nil=>exact True.intro
 | @cons p q ps qs h t ih=>
  obtain⟨h1,_,h2⟩:=h
  by_cases e:p.1=k
  ·have e':q.1=k:=h1.symm.trans e
   have b:atKey (q::qs) k=some q.2:=by simp[atKey,List.find?_cons,e']
   rw[jA e,b];exact h2
  ·have e':¬q.1=k:=fun z=>e (h1.trans z)
   have b:atKey (q::qs) k=atKey qs k:=by simp[atKey,List.find?_cons,e']
   rw[jB e,b];exact ih
theorem KT.repl {H:Hp} {kvs:List (List Key × V)} {xs:List (List Key × Addr × Value)} (r:KT H kvs xs) (k:List Key) {y:V} {u:Value} (ry:RelV y u):
  KT H (kvs.map fun kv=>if kv.1=k then (kv.1,y)else kv) (xs.map (putAt k u)):=by
 induction r with
 | nil=>exact .nil
 | @cons p q ps qs h t ih=>
  rw[List.map_cons,List.map_cons]
  refine .cons ?_ ih
  obtain⟨h1,h2,h3⟩:=h
  unfold putAt
  by_cases e:p.1=k
  ·rw[if_pos e,if_pos (h1.symm.trans e)];exact⟨h1,h2,ry⟩
  ·rw[if_neg e,if_neg (fun z=>e (h1.trans z))];exact⟨h1,h2,h3⟩
theorem KT.put {H:Hp} {kvs:List (List Key × V)} {xs:List (List Key × Addr × Value)} (r:KT H kvs xs) (k:List Key) {b:Addr} {y:V} {u:Value} (hb:H b=some (.tup (k.map kV))) (ry:RelV y u):
  KT H (putK kvs k y) (storedH xs k b u):=by
 have e:(kvs.any fun kv=>decide (kv.1=k))=(atKey xs k).isSome:=by
  rw[Dg,(r.val k).zB,Option.isSome_map]
 unfold putK storedH
 rw[e]
 by_cases q:(atKey xs k).isSome=true
 ·rw[if_pos q,if_pos q];exact r.repl k ry
 ·rw[if_neg q,if_neg q];exact Paired.snoc r ⟨rfl,hb,ry⟩
theorem KT.keeps {H H':Hp} {kvs:List (List Key × V)} {xs:List (List Key × Addr × Value)} (r:KT H kvs xs) (ht:∀b ys,H b=some (.tup ys)→H' b=some (.tup ys)):KT H' kvs xs:=
 Paired.Zi r fun _ _ z=>⟨z.1,ht _ _ z.2.1,z.2.2⟩
section
variable{P:Program}{w:World}{H:Hp}{h:Heap}{a:Addr}
theorem Yp{u:HO}(ok:vC P w H h)(e:Rd H a u):fJ P w H h a u:=e.ok ok
theorem Hu{kvs:List (Key × V)}(ok:vC P w H h)(e:Rd H a (.dK kvs)):kvs.length≤sizeLine∧(a==sysModules)=false∧∃vs,KV kvs vs∧h.DictOf (dI P w) a vs:=
 show fJ P w H h a (.dK kvs) from Yp ok e
theorem abz{kvs:List (Key × V)}(ok:vC P w H h)(e:H a=some (.dK kvs)):kvs.length≤sizeLine∧(a==sysModules)=false∧∃vs,KV kvs vs∧h.DictOf (dI P w) a vs:=Hu ok (.inl e)
theorem Dh{ks:List Key}(ok:vC P w H h)(e:H a=some (.tup (ks.map kV))):(tupleKind (dI P w)).is h ks a:=by
 obtain⟨_,its,r,o,h1,h2,n,h3⟩:=(show fJ P w H h a (.tup (ks.map kV)) from ok a _ e)
 exact⟨o,its.toArray,n,h1,h2,h3,by simpa using Ht r⟩
theorem Hv{kvs:List (List Key × V)}(ok:vC P w H h)(e:Rd H a (.dT kvs)):kvs.length≤sizeLine∧(a==sysModules)=false∧
  ∃xs,KT H kvs xs∧h.DictOfH (tupleKind (dI P w)) a xs:=by
 obtain⟨z,y,xs,r,o,es,ep,h1,h2,h3,h4,h5⟩:=(show fJ P w H h a (.dT kvs) from Yp ok e)
 refine⟨z,y,xs,r,o,es,ep,h1,h2,h3,h4,fun x hx=> ?_,h5⟩
 have all:∀ {l:List (List Key × V)}{m:List (List Key × Addr × Value)},KT H l m→∀x ∈ m,(tupleKind (dI P w)).is h x.1 x.2.1:=by
  intro l m q
  induction q with
  | nil=>intro x hx;exact nomatch hx
  | @cons p q ps qs hq t ih=>
   intro x hx
   rcases List.mem_cons.mp hx with e | hx
   ·subst e
    exact Dh ok (by rw[←hq.1];exact hq.2.1)
   ·exact ih x hx
 exact all r x hx
theorem abA{kvs:List (List Key × V)}(ok:vC P w H h)(e:H a=some (.dT kvs)):kvs.length≤sizeLine∧(a==sysModules)=false∧
 ∃xs,KT H kvs xs∧h.DictOfH (tupleKind (dI P w)) a xs:=Hv ok (.inl e)
end
noncomputable def zE(H:Hp)(a:Addr)(y:V)(r:Option V):Prop:=
 (∃kvs k,Rd H a (.dK kvs)∧y=kV k∧r=lY kvs k)∨∃kvs k b,Rd H a (.dT kvs)∧y= .ref b∧H b=some (.tup (k.map kV))∧r=lY kvs k
noncomputable def RM(H:Hp)(a:Addr)(y v:V)(H':Hp):Prop:=
 (∃kvs k,H a=some (.dK kvs)∧y=kV k∧kvs.length<sizeLine∧H'=upd H a (.dK (putK kvs k v)))∨
 ∃kvs k b,H a=some (.dT kvs)∧y= .ref b∧H b=some (.tup (k.map kV))∧kvs.length<sizeLine∧H'=upd H a (.dT (putK kvs k v))
theorem zE.k {H:Hp} {a:Addr} {kvs:List (Key × V)} {k:Key} (e:H a=some (.dK kvs)):zE H a (kV k) (lY kvs k):= .inl ⟨kvs,k,.inl e,rfl,rfl⟩
theorem RM.k {H:Hp} {a:Addr} {kvs:List (Key × V)} {k:Key} {v:V} (e:H a=some (.dK kvs)) (hl:kvs.length<sizeLine):RM H a (kV k) v (upd H a (.dK (putK kvs k v))):= .inl ⟨kvs,k,e,rfl,hl,rfl⟩
section
variable{X:Cx}{pins:List (Addr × Obj)}{σ:St}{H:Hp}{s:Shared}{a:Addr}{y v:V}{u r:Value}{o:Option V}{A:Around}{E:Value→Shared→Prop}
theorem Inv.big (I:Inv X pins σ H s):sysModules<s.heap.objs.size:=by
 have h:mainGlobals<s.heap.objs.size:=(I.mod.glob.keeps I.bk).lt
 exact Nat.lt_trans (by decide) h
theorem RN{Q:Value→Shared→Prop}(hu:A.units+1<cLine)(I:Inv X pins σ H s)(g:zE H a y (some v))(ry:RelV y u)(h:∀w' s',Inv X pins σ H s'→RelV v w'→Q w' s'):
  wpAny (model X.prog X.w) A (getItem (.ref a) u) Q E s:=by
 rcases g with ⟨kvs,k,e,ey,l⟩ | ⟨kvs,k,b,e,ey,eb,l⟩
 ·subst ey
  obtain⟨z,hd,vs,rel,dd⟩:=Hu I.hok e
  obtain⟨w',hw,RJ⟩:=sE.some_of (v:=v) (o:=valueAt vs k) (by rw[l];exact rel.val k)
  exact wpAny_getItem_of (KQ ry) dd.mapOf hw (h w' _ (I.tok _) RJ)
 ·subst ey
  cases (show u=Value.ref b from ry)
  obtain⟨z,hd,xs,rel,dd⟩:=Hv I.hok e
  obtain⟨w',hw,RJ⟩:=sE.some_of (v:=v) (o:=(atKey xs k).map (·.2)) (by rw[l];exact rel.val k)
  obtain⟨p,hp,hp2⟩:=Option.map_eq_some_iff.mp hw
  refine wpAny_getItem_heap (tupleKind_room_in1 hu) (Dh I.hok eb) dd hp ?_
  rw[hp2]
  exact h w' _ (I.tok _) RJ
theorem WX{Q:Value→Shared→Prop}(hu:A.units+1<cLine)(I:Inv X pins σ H s)(g:zE H a y o)(ry:RelV y u)(h:∀s',Inv X pins σ H s'→Q (.bool (!o.isSome)) s'):
  wpAny (model X.prog X.w) A (compareOp .NotIn u (.ref a)) Q E s:=by
 rcases g with ⟨kvs,k,e,ey,l⟩ | ⟨kvs,k,b,e,ey,eb,l⟩
 ·subst ey
  obtain⟨z,hd,vs,rel,dd⟩:=Hu I.hok e
  refine wpAny_notIn_of (KQ ry) hd dd.mapOf ?_
  rw[←(rel.val k).zB,←l]
  exact h _ (I.tok _)
 ·subst ey
  cases (show u=Value.ref b from ry)
  obtain⟨z,hd,xs,rel,dd⟩:=Hv I.hok e
  refine wpAny_notIn_heap (tupleKind_room_in1 hu) (Dh I.hok eb) hd dd ?_
  have q:=(rel.val k).zB
  rw[Option.isSome_map]at q
  rw[←q,←l]
  exact h _ (I.tok _)
theorem QC{h':Heap}{t':Nat}{ob:HO}(I:Inv X pins σ H s)(mu:Yd (H a))(hs:Heap.SameBut a s.heap h')(he:∃q,h'.get? a=some q)(new:fJ X.prog X.w (upd H a ob) h' a ob):
  Inv X pins σ (upd H a ob) {s with heap:=h',toks:=t'}:=
 I.write (x:=a) (e:=a) mu (.inl rfl) (fun b q hb z=>(hs.2 b hb).trans z) he new
theorem Z5{P:Program}{w:World}{H':Hp}{h':Heap}{kvs:List (Key × V)}{vs:List (Key × Value)}(z:kvs.length≤sizeLine)(hd:(a==sysModules)=false)(rel:KV kvs vs)(dd:h'.DictOf (dI P w) a vs):
 fJ P w H' h' a (.dK kvs):=⟨z,hd,vs,rel,dd⟩
theorem RP{H':Hp}{Q:Unit→Shared→Prop}(hu:A.units+1<cLine)(I:Inv X pins σ H s)(g:RM H a y v H')(ry:RelV y u)(rv:RelV v r)(h:∀s',Inv X pins σ H' s'→Q () s'):
  wpAny (model X.prog X.w) A (setItem (.ref a) u r) Q E s:=by
 rcases g with ⟨kvs,k,e,ey,l,eH⟩ | ⟨kvs,k,b,e,ey,eb,l,eH⟩
 ·subst ey eH
  obtain⟨z,hd,vs,rel,dd⟩:=abz I.hok e
  have hz:vs.length≤sizeLine:=by rw[←rel.length];exact z
  have hl:(putK kvs k v).length≤sizeLine:=by have:=Aq kvs k v;omega
  refine wpAny_setItem_pairs (hsz:=hz) (KQ ry) dd fun h' dd' hs=>h _ ?_
  have he:∃q,h'.get? a=some q:=let ⟨q,_,_,hq,_⟩:=dd';⟨q,hq⟩
  exact QC I (by rw[e];exact True.intro) hs he (Z5 hl hd (rel.put k rv) dd')
 ·subst ey eH
  cases (show u=Value.ref b from ry)
  obtain⟨z,hd,xs,rel,dd⟩:=abA I.hok e
  have hz:xs.length≤sizeLine:=by rw[←Paired.length rel];exact z
  have hl:(putK kvs k v).length≤sizeLine:=by have:=Aq kvs k v;omega
  refine wpAny_setItem_heap (hsz:=hz) (tupleKind_room_in1 hu) (Dh I.hok eb) dd fun h' dd' hs=>h _ ?_
  obtain⟨q,es,ep,hq,h2,h3,h4,_,h5⟩:=dd'
  refine QC I (by rw[e];exact True.intro) hs ⟨q,hq⟩ ⟨hl,hd,_,(rel.put k eb rv).keeps fun c ys ec=> ?_,q,es,ep,hq,h2,h3,h4,h5⟩
  rw[bF (aN ec e (fun z=>nomatch z))]
  exact ec
end
section
variable{X:Cx}{pins:List (Addr × Obj)}{σ:St}{H:Hp}{s:Shared}{a:Addr}{kvs:List (Key × V)}{k:Key}{u:Value}{A:Around}{E:Value→Shared→Prop}
end
noncomputable def abB(i:Expr):Prop:=∀ov iv,subscripted i false ov iv=operate [ov,iv] (getItem ov iv)
theorem WY{prog:Program}{w:World}{A:Around}{E:Value→Shared→Prop}{s:Shared}{env:Env}{value slice:Expr}{pos:Pos}{T id:String}{Q:Value→Shared→Prop}
  (hl:typeLookup (.type T) "__getitem__" =pure (some (.builtin id))) (hs:abB slice)
  (h:wpAny (model prog w) A (eval value env) (fun o s₁=>wpAny (model prog w) A (eval slice env) (fun i s₂=>s₂.TypeIs o T∧wpAny (model prog w) A (getItem o i) Q E s₂) E s₁) E s):
  wpAny (model prog w) A (eval (.Subscript value slice pos) env) Q E s:=by
 refine Subscript_ (wpAny_mono h (fun o s₁ h₁=>wpAny_mono h₁ (fun i s₂ h₂=> ?_) fun _ _ x=>x) fun _ _ x=>x)
 obtain⟨hT,h₂⟩:=h₂
 unfold subscriptTail
 refine wpAny_bind ?_
 rw[getitemInPython_of_ne hT.not_modules]
 refine wpAny_bind (wpAny_specialOf hT hl ?_)
 have fin:wpAny (model prog w) A (subscripted slice false o i) (fun r s₃=>wpAny (model prog w) A (letTemporaryGo value o r >>= fun _=>pure r) Q E s₃) E s₂:=by
  rw[hs o i]
  exact wpAny_operating (wpAny_mono h₂ (fun r s₃ h₃=>wpAny_bind (wpAny_letTemporaryGo (wpAny_pure h₃))) fun _ _ x=>x)
 first
  | exact wpAny_pure (wpAny_bind fin)
  | exact wpAny_bind (wpAny_pure (wpAny_bind fin))
  | exact wpAny_bind fin
theorem KR{X:Cx}{pins:List (Addr × Obj)}{σ:St}{H:Hp}{s:Shared}{a:Addr}{y:V}{o:Option V}(I:Inv X pins σ H s)(g:zE H a y o):s.TypeIs (.ref a) "dict" :=by
 rcases g with ⟨kvs,k,e,_,_⟩ | ⟨kvs,k,b,e,_,_,_⟩
 ·obtain⟨_,_,vs,_,dd⟩:=Hu I.hok e
  exact dd.typeIs
 ·obtain⟨_,_,xs,_,dd⟩:=Hv I.hok e
  exact dd.typeIs
noncomputable def abC(td ty:TE):TE:=fun σ H Q=>td σ H fun x H1=>ty σ H1 fun y H2=>∃a v,x= .ref a∧zE H2 a y (some v)∧Q v H2
noncomputable def W0(ty td:TE):TE:=fun σ H Q=>ty σ H fun y H1=>td σ H1 fun x H2=>∃a o,x= .ref a∧zE H2 a y o∧Q (.bl (!o.isSome)) H2
noncomputable def abD(td ty tv:TE):TS:=fun D σ H=>tv σ H fun v H1=>td σ H1 fun x H2=>ty σ H2 fun y H3=>∃a H4,x= .ref a∧RM H3 a y v H4∧D.nx σ H4
section
variable{X:Cx}{o i e value:Expr}{pos pos' tpos:Pos}{td ty tv:TE}
theorem QD(hu:X.A.units+1<cLine)(ho:PE X o td)(hi:PE X i ty)(hs:abB i):PE X (.Subscript o i pos) (abC td ty):=by
 intro pins s σ H Q I h
 refine WY PySem.F.slot_dict_getitem.lookup hs (dN (ho pins s σ H _ I h) fun u s1 ⟨x,H1,I1,rx,q1⟩=>dN (hi pins s1 σ H1 _ I1 q1) fun iv s2 ⟨y,H2,I2,ry,a,v,ex,g,q2⟩=> ?_)
 subst ex
 obtain rfl:u=Value.ref a:=rx
 exact⟨KR I2 g,RN hu I2 g ry fun w' s3 I3 RJ=>⟨v,H2,I3,RJ,q2⟩⟩
theorem RQ(hu:X.A.units+1<cLine)(hi:PE X i ty)(ho:PE X o td):PC X .NotIn i o (W0 ty td):=by
 intro pins s σ H Q I h
 refine dN (hi pins s σ H _ I h) fun iv s1 ⟨y,H1,I1,ry,q1⟩=>dN (ho pins s1 σ H1 _ I1 q1) fun u s2 ⟨x,H2,I2,rx,a,ov,ex,g,q2⟩=> ?_
 subst ex
 obtain rfl:u=Value.ref a:=rx
 exact WX hu I2 g ry fun s3 I3=>⟨.bl (!ov.isSome),H2,I3,rfl,q2⟩
theorem QF(hu:X.A.units+1<cLine)(ho:PE X o td)(hi:PE X i ty)(hv:PE X value tv)(hs:swapsWith value (some (.Subscript o i pos')) pos.line X.env=pure false):
  PS X (.Assign [.Subscript o i pos'] value pos) (abD td ty tv):=by
 intro pins s σ H D I h
 refine wpAny_Assign_Subscript (dN (hv pins s σ H _ I h) fun r s1 ⟨v,H1,I1,rv,q1⟩=>dN (ho pins s1 σ H1 _ I1 q1) fun u s2 ⟨x,H2,I2,rx,q2⟩=>dN (hi pins s2 σ H2 _ I2 q2) fun iv s3 ⟨y,H3,I3,ry,a,H4,ex,g,q3⟩=> ?_) hs
 subst ex
 obtain rfl:u=Value.ref a:=rx
 exact RP hu I3 g ry rv fun s4 I4=>⟨σ,H4,I4,q3⟩
end
theorem Us{P:Program}{w:World}{H:Hp}(h:Heap)(hb:sysModules<h.objs.size):fJ P w H (h.push {cls:= .type "dict",data:= .dict #[]}) h.objs.size (.dK []):=
 ⟨Nat.zero_le _,beq_eq_false_iff_ne.mpr (Ne.symm (Nat.ne_of_lt hb)),[],.nil,Heap.DictOf.new h⟩
noncomputable def Z6:TE:=fun _ H Q=>∀p,H p=none→Q (.ref p) (upd H p (.dK []))
section
variable{X:Cx}{pos:Pos}
theorem KY:PE X (.Dict [] [] pos) Z6:=fun pins s σ H Q I h=>
 wpAny_Dict_empty ⟨.ref s.heap.objs.size,_,I.laid (a:=s.heap.objs.size) (o:= .dK []) (t':=s.toks) (fun _ _ q=>Heap.get?_push_of_some _ q) (Nat.le_refl _) (Us s.heap I.big),rfl,h _ (I.hok.fresh (Nat.le_refl _))⟩
end
structure M2(X:Cx)(o:Expr)(m:Str)(apos:Pos)(e f:Expr)(cpos:Pos):Prop where
 base:attributeBase o m X.env (eval o X.env)=eval o X.env
 few:((backTo cpos (starEach [e,f] X.env)).all (fun x=> !x.1)&&(backToKw cpos (keywordEach [] X.env)).all (fun x=>x.1.isSome)
  && decide (([e,f]:List Expr).length+([]:List Keyword).length+(if ([]:List Keyword).isEmpty then 0 else 1)<30))=true
 line:(apos.endLine==cpos.line)=true
 trees:backTo cpos (starEach [e,f] X.env)= [(false,eval e X.env),(false,eval f X.env)]
noncomputable def IsD(H:Hp)(a:Addr):Prop:=(∃kvs,Rd H a (.dK kvs))∨∃kvs,Rd H a (.dT kvs)
theorem Z7{X:Cx}{pins:List (Addr × Obj)}{σ:St}{H:Hp}{s:Shared}{a:Addr}(I:Inv X pins σ H s)(d:IsD H a):
  s.TypeIs (.ref a) "dict" ∧(∀b,Value.ref a= .ref b→∃ob,s.heap.get? b=some ob∧ob.dict=none)∧(a==sysModules)=false:=by
 rcases d with ⟨kvs,e⟩ | ⟨kvs,e⟩
 ·obtain⟨_,hd,vs,_,dd⟩:=Hu I.hok e
  refine⟨dd.typeIs,fun b q=> ?_,hd⟩
  cases q
  obtain⟨ob,_,_,h1,h2,_⟩:=dd
  exact⟨ob,h1,h2.2.1⟩
 ·obtain⟨_,hd,xs,_,dd⟩:=Hv I.hok e
  refine⟨dd.typeIs,fun b q=> ?_,hd⟩
  cases q
  obtain⟨ob,_,_,h1,h2,_⟩:=dd
  exact⟨ob,h1,h2.2.1⟩
section
variable{X:Cx}{pins:List (Addr × Obj)}{σ:St}{H:Hp}{s:Shared}{a:Addr}{y d:V}{u r:Value}{o:Option V}{A:Around}{E:Value→Shared→Prop}
theorem Z8{Q:Value→Shared→Prop}(hu:A.units+1<cLine)(I:Inv X pins σ H s)(g:zE H a y o)(ry:RelV y u)(rd:RelV d r)(h:∀w' s',Inv X pins σ H s'→RelV (o.getD d) w'→Q w' s'):
  wpAny (model X.prog X.w) A (call (.builtin "dict.get") [.ref a,u,r]) Q E s:=by
 rcases g with ⟨kvs,k,e,ey,l⟩ | ⟨kvs,k,b,e,ey,eb,l⟩
 ·subst ey
  obtain⟨z,hd,vs,rel,dd⟩:=Hu I.hok e
  refine call_meetsIn PySem.F.slot_dict_get dd.typeIs PySem.F.entry_dict_get (PySem.F.args_dict_get_3 _ _ _) (meets_dict_get_default (dI X.prog X.w) a (KQ ry) hd r) ⟨_,dd.mapOf,h _ _ (I.tok _) ?_⟩
  rw[l]
  exact(rel.val k).getD rd
 ·subst ey
  cases (show u=Value.ref b from ry)
  obtain⟨z,hd,xs,rel,dd⟩:=Hv I.hok e
  refine call_meetsIn PySem.F.slot_dict_get dd.typeIs PySem.F.entry_dict_get (PySem.F.args_dict_get_3 _ _ _) (meetsH_dict_get_default (tupleKind (dI X.prog X.w)) a b hd r) ⟨tupleKind_room_in1 hu,k,xs,Dh I.hok eb,dd,h _ _ (I.tok _) ?_⟩
  rw[l]
  exact(rel.val k).getD rd
end
noncomputable def Z9(td ty tx:TE):TE:=fun σ H Q=>td σ H fun x H1=>∃a,x= .ref a∧IsD H1 a∧ty σ H1 fun y H2=>tx σ H2 fun z H3=>∃o,zE H3 a y o∧Q (o.getD z) H3
section
variable{X:Cx}{o e f:Expr}{apos cpos:Pos}{td ty tx:TE}
theorem Ut(hu:X.A.units+1<cLine)(ho:PE X o td)(he:PE X e ty)(hf:PE X f tx)(m:M2 X o "get" apos e f cpos):PE X (.Call (.Attribute o "get" apos) [e,f] [] cpos) (Z9 td ty tx):=by
 intro pins s σ H Q I h
 refine wpAny_Call_method m.base m.few m.line PySem.F.plainAttrs_dict PySem.F.slot_dict_get PySem.F.type_dict_get (dN (ho pins s σ H _ I h) fun u s1 ⟨x,H1,I1,rx,a,ex,d,q1⟩=> ?_)
 subst ex
 obtain rfl:u=Value.ref a:=rx
 obtain⟨t1,t2,_⟩:=Z7 I1 d
 refine⟨t1,t2,?_⟩
 rw[m.trees]
 refine Calls.callWith_builtin rfl (Calls.evalArgs_plain (Calls.spliced_cons (dN (he pins s1 σ H1 _ I1 q1) fun iv s2 ⟨y,H2,I2,ry,q2⟩=>
  Calls.spliced_cons (dN (hf pins s2 σ H2 _ I2 q2) fun fv s3 ⟨z,H3,I3,rz,ov,g,q3⟩=>Calls.spliced_nil ?_))))
 exact Z8 hu I3 g ry rz fun w' s4 I4 RJ=>⟨_,H3,I4,RJ,q3⟩
end
section
variable{X:Cx}{pins:List (Addr × Obj)}{σ:St}{H:Hp}{s:Shared}{a:Addr}{kvs:List (Key × V)}{A:Around}{E:Value→Shared→Prop}
end
section
variable{X:Cx}{pins:List (Addr × Obj)}{σ:St}{H:Hp}{s:Shared}{a:Addr}{y:V}{u:Value}{A:Around}{E:Value→Shared→Prop}
end
end L2
namespace L2
open PySem PySem.Spec PyProof.Rows
section
variable{prog:Program}{w:World}{A:Around}{E:Value→Shared→Prop}
end
section
variable{X:Cx}
end
end L2
namespace L2
open PySem PySem.Spec PyProof.Rows
section
variable{X:Cx}{pins:List (Addr × Obj)}{σ:St}{H:Hp}{s:Shared}{h':Heap}
theorem Inv.QG {t':Nat} {ch:List Addr} (I:Inv X pins σ H s) (k:∀b o,b ∉ ch→s.heap.get? b=some o→h'.get? b=some o) (hf:∀b ∈ ch,BP X pins H b):Inv X pins σ H {s with heap:=h',toks:=t'}:=by
 have Ye:∀b u,H b=some u→b ∉ ch:=fun b u e z=>by
  have q:=(hf b z).1
  rw[q]at e;cases e
 refine I.step (g':=s.gens) (d':=s.drawn) (ch:=ch) (fun b hb=>⟨(hf b hb).2.2.2.1,(hf b hb).2.1,(hf b hb).2.2.2.2.1,(hf b hb).2.2.2.2.2⟩) (fun b o _ _ hc e _=>k b o hc e) (fun b o _ _ hc e _=>⟨o.slots,k b o hc e⟩)
  (fun _ _ _ _ n=>n) (fun b o hc e=>⟨o,k b o hc e⟩) (fun _ _ e=>e) (fun _ _ _ e=>e) (fun b ps e=>⟨#[],by rw[e];simp⟩) (fun m hm=> ?_) (fun b u e=> ?_) I.bare
 ·obtain⟨o,es,ep,ho,r⟩:=hm
  exact⟨o,es,ep,k _ o (fun z=>(hf _ z).2.1 rfl) ho,r⟩
 ·refine(I.hok b u e).stay (fun c v hc q=>k c v ?_ q) (fun _ q=>q) fun _ _ q=>q
  rcases hc with z | z
  ·rw[z];exact Ye b u e
  ·exact Ye c _ z
theorem Inv.uQ {t':Nat} {ch:List Addr} {T:Addr} {ob:HO} (I:Inv X pins σ H s) (k:∀b o,b ∉ ch→s.heap.get? b=some o→h'.get? b=some o) (hf:∀b ∈ ch,BP X pins H b) (hT:s.heap.objs.size≤T)
  (new:fJ X.prog X.w (upd H T ob) h' T ob):Inv X pins σ (upd H T ob) {s with heap:=h',toks:=t'}:=by
 have hn:H T=none:=I.hok.fresh hT
 have Ye:∀b u,H b=some u→b ∉ ch:=fun b u e z=>by
  have q:=(hf b z).1
  rw[q]at e;cases e
 refine I.step (g':=s.gens) (d':=s.drawn) (ch:=ch) (fun b hb=>⟨(hf b hb).2.2.2.1,(hf b hb).2.1,(hf b hb).2.2.2.2.1,(hf b hb).2.2.2.2.2⟩) (fun b o _ _ hc e _=>k b o hc e) (fun b o _ _ hc e _=>⟨o.slots,k b o hc e⟩)
  (fun b o _ e n=> ?_) (fun b o hc e=>⟨o,k b o hc e⟩) (fun b xs e=> ?_) (fun b o u e=> ?_) (fun b ps e=>⟨#[],?_⟩) (fun m hm=> ?_) (fun b u e=> ?_) I.bare
 ·rw[bF (Nat.ne_of_lt (Nat.lt_of_lt_of_le (Heap.lt_size e) hT))];exact n
 ·rw[bF (ao e hn)];exact e
 ·rw[bF (ao e hn)];exact e
 ·rw[bF (ao e hn),e];simp
 ·obtain⟨o,es,ep,ho,r⟩:=hm
  exact⟨o,es,ep,k _ o (fun z=>(hf _ z).2.1 rfl) ho,r⟩
 ·by_cases hb:b=T
  ·subst hb
   rw[aj]at e
   cases e
   exact new
  ·rw[bF hb]at e
   refine(I.hok b u e).stay (fun c v hc q=>k c v ?_ q) (fun c q=>by rw[bF (ao q hn)];exact q) fun c xs q=>by rw[bF (ao q hn)];exact q
   rcases hc with z | z
   ·rw[z];exact Ye b u e
   ·exact Ye c _ z
theorem Inv.lock {d:Addr} {u:HO} (I:Inv X pins σ H s) (h:H d=some u) (mu:Yd (some u)):∃od,Inv X pins σ (upd H d (.vB od u)) s:=by
 have x:=I.hok d u h
 have ex:∃od,s.heap.get? d=some od:=by
  cases u with
  | lst xs=>obtain⟨_,_,_,_,e⟩:=x;exact⟨_,e⟩
  | dK kvs=>obtain⟨_,_,_,_,o,_,_,e,_⟩:=x;exact⟨o,e⟩
  | dT kvs=>obtain⟨_,_,_,_,o,_,_,e,_⟩:=x;exact⟨o,e⟩
  | set S n=>obtain⟨o,_,_,_,e,_⟩:=x;exact⟨o,e⟩
  | ins C dx fs=>obtain⟨_,_,_,e,_⟩:=x;exact⟨_,e⟩
  | ext φ=>obtain⟨_,⟨_,e⟩,_⟩:=x;exact⟨_,e⟩
  | _=>exact False.elim mu
 obtain⟨od,e⟩:=ex
 have new:fJ X.prog X.w (upd H d (.vB od u)) s.heap d (.vB od u):=by
  refine⟨e,x.stay (fun b v _ q=>q) (fun b q=> ?_) fun b xs q=> ?_⟩
  ·rw[bF (fun z=>by rw[z,h]at q;cases q;exact mu)];exact q
  ·rw[bF (fun z=>by rw[z,h]at q;cases q;exact mu)];exact q
 exact⟨od,I.write (x:=d) (e:=d) (t':=s.toks) (h':=s.heap) (by rw[h];exact mu) (.inl rfl) (fun b v _ q=>q) ⟨od,e⟩ new⟩
theorem Inv.QH {d:Addr} {u:HO} (I:Inv X pins σ H s) (h:H d=some u) (mu:Yd (some u)):∀o' u',X.H₀ d≠some (.vB o' u'):=fun o' u' e=>by
 have q:=I.base.CG d o' u' e
 rw[h]at q
 cases q
 exact mu
theorem Inv.unlock {d:Addr} {od:Obj} {u:HO} (I:Inv X pins σ H s) (h:H d=some (.vB od u)) (hn:∀o' u',X.H₀ d≠some (.vB o' u')):Inv X pins σ (upd H d u) s:=by
 have neH:∀b o,H b=some o→(∀o' u',o≠ .vB o' u')→b≠d:=fun b o e hne z=>by
  rw[z,h]at e
  cases e
  exact hne _ _ rfl
 have neN:∀b,H b=none→b≠d:=fun b e z=>by rw[z,h]at e;cases e
 refine⟨I.ok,I.os,I.bare,⟨I.base.keep,I.base.slot,fun b o e n hx=> ?_,I.base.there,fun b xs e=> ?_,fun b o x e=> ?_,fun b ps e=> ?_⟩,I.loc,I.cell,?_,fun x c e=> ?_,fun p hp=> ?_,fun b o e=> ?_,I.len⟩
 ·rw[bF (neN b (I.base.free b o e n hx))];exact I.base.free b o e n hx
 ·have q:=I.base.tups b xs e
  rw[bF (neH b _ q (fun _ _ z=>nomatch z))];exact q
 ·have q:=I.base.CG b o x e
  rw[bF (fun z=>by rw[z]at e;exact hn _ _ e)];exact q
 ·obtain⟨m,q⟩:=I.base.Iz b ps e
  exact⟨m,by rw[bF (neH b _ q (fun _ _ z=>nomatch z))];exact q⟩
 ·rw[bF (neN _ I.free)];exact I.free
 ·rw[bF (neN c (I.pG x c e))];exact I.pG x c e
 ·obtain⟨e,n,r⟩:=I.pin p hp
  exact⟨e,by rw[bF (neN _ n)];exact n,r⟩
 ·by_cases hb:b=d
  ·rw[hb,aj]at e
   cases e
   rw[hb]
   obtain⟨_,x⟩:=I.hok d _ h
   exact x.stay (fun c v _ q=>q) (fun c q=>by rw[bF (neH c _ q (fun _ _ z=>nomatch z))];exact q) fun c xs q=>by rw[bF (neH c _ q (fun _ _ z=>nomatch z))];exact q
  ·rw[bF hb]at e
   exact(I.hok b o e).stay (fun c v _ q=>q) (fun c q=>by rw[bF (neH c _ q (fun _ _ z=>nomatch z))];exact q) fun c xs q=>by rw[bF (neH c _ q (fun _ _ z=>nomatch z))];exact q
end
noncomputable def abE(t:TS):TS:=fun D σ H=>∃d u,H d=some u∧Yd (some u)∧∀od,t ⟨fun σ' H'=>H' d=some (.vB od u)∧D.nx σ' (upd H' d u),fun v H'=>H' d=some (.vB od u)∧D.rt v (upd H' d u),fun σ' H'=>H' d=some (.vB od u)∧D.bk σ' (upd H' d u),fun σ' H'=>H' d=some (.vB od u)∧D.ct σ' (upd H' d u)⟩ σ (upd H d (.vB od u))
section
variable{X:Cx}
theorem QJ{st:Stmt}{t:TS}(h:PS X st t):PS X st (abE t):=by
 intro pins s σ H D I hw
 obtain⟨d,u,hd,mu,hw⟩:=hw
 obtain⟨od,I1⟩:=I.lock hd mu
 refine dN (h pins s σ _ _ I1 (hw od)) fun f s1 q=> ?_
 cases f with
 | next=>obtain⟨σ',H',I2,e,q⟩:=q;exact⟨σ',_,I2.unlock e (I.QH hd mu),q⟩
 | brk=>obtain⟨σ',H',I2,e,q⟩:=q;exact⟨σ',_,I2.unlock e (I.QH hd mu),q⟩
 | cont=>obtain⟨σ',H',I2,e,q⟩:=q;exact⟨σ',_,I2.unlock e (I.QH hd mu),q⟩
 | ret v=>obtain⟨x,σ',H',I2,r,e,q⟩:=q;exact⟨x,σ',_,I2.unlock e (I.QH hd mu),r,q⟩
theorem Jl{tg:Expr}{pins:List (Addr × Obj)}{σ:St}{H:Hp}{s:Shared}{R:It→Hp→Prop}{J:It}{tn:Nat→Heap→Prop}{tk:Nat}(I:Inv X pins σ H s)(o:Obj)
  (T:Turn X.prog X.w X.K tg J [s.heap.objs.size] s.heap.objs.size tn) (st:tn 0 (s.heap.push o)) (q:R J H):PIE X pins σ tg R (.ref s.heap.objs.size) {s with heap:=s.heap.push o,toks:=tk}:=by
 refine⟨s.heap.objs.size,[s.heap.objs.size],tn,J,H,rfl,I.kept fun b ob e=>Heap.get?_push_of_some _ e,T,st,fun b hb=> ?_,q⟩
 have e:b=s.heap.objs.size:=by simpa using hb
 subst e
 exact I.Km (Nat.le_refl _) (I.hok.fresh (Nat.le_refl _))
end
noncomputable def Itc(lo c:Int)(n:Nat):It:=⟨fun i _=>i<n,fun i H x H'=>H'=H∧x= .int (lo+(i:Nat)*c),fun i _=>n≤i⟩
theorem KZ{P:Program}{w:World}{K:PySem.W.Frag}{tg:Expr}(it:Addr)(lo c:Int)(n:Nat):Turn P w K tg (Itc lo c n) [it] it (fun i h=>IsRangeIter h it (lo+(i:Nat)*c) ((n:Int)-(i:Nat)) c) where
 mem:=by simp
 obj:=fun i h st b hb=>by
  have e:b=it:=by simpa using hb
  subst e
  exact⟨_,st,fun v z=>nomatch z⟩
 keep:=fun i h h' st k=>k it (by simp) _ st
 item:=by
  intro X hP hw hK hc i pins s σ H E I hf st hg
  subst hP hw hK
  obtain⟨f0,f1,f2,f3,f4,f5⟩:=hf it (by simp)
  have W:=Walks.range (prog:=X.prog) (w:=X.w) (I.ok.hd hc) it lo c n
  refine W.item i s _ _ hg st fun v h' tk hv st' kk=> ?_
  obtain⟨t,rfl⟩:=hv
  have I1:Inv X pins σ H {s with heap:=h',toks:=tk}:=I.turned (fun b o hb e=>kk b o (by simpa using hb) e) f0 f1 f3 f4 f5
  exact⟨_,rfl,Ko (s:= {s with heap:=h',toks:=tk}) (n:= "range_iterator") st' rfl rfl (by decide) ⟨.int (lo+(i:Nat)*c),H,I1,⟨t,rfl⟩,⟨rfl,rfl⟩,st',fun b hb=>(hf b hb).1⟩⟩
 done:=by
  intro X hP hw hK hc i pins s σ H E I hf st hg
  subst hP hw hK
  obtain⟨f0,f1,f2,f3,f4,f5⟩:=hf it (by simp)
  exact wpAny_pyNext_range_end (I.ok.hd hc) st (by have:n≤i:=hg;omega) fun h' eb=>⟨rfl,I.turned (t':=s.toks) (fun b o hb e=>eb b o hb e) f0 f1 f3 f4 f5⟩
 self:=fun A i s Q E st h=>wpAny_pyIter_rangeiter st h
noncomputable def RgC(i j c:Int)(n:Nat):Prop:=c≠0∧c.natAbs<1073741824∧Builtin.Range.small i j c=true∧Builtin.Range.rangeSize i j c=n
noncomputable def abG(ta:TA):TI:=fun σ H R=>ta σ H fun vs H1=>∃(i j c:Int)(n:Nat),vs= [.int i,.int j,.int c]∧RgC i j c n∧R (Itc i c n) H1
section
variable{X:Cx}{tg:Expr}
theorem uR{a b c:Expr}{ta:TA}{p pos:Pos}(hg:Gl X "range")(hm:X.mg "range" =none)(ha:PA X [a,b,c] ta)
  (hs:starEach [a,b,c] X.env=(false,eval a X.env)::starEach [b,c] X.env:=by rfl) (hpl:(backTo pos (starEach [b,c] X.env)).any (·.1)=false:=by rfl):
  PI X tg (.Call (.Name "range" p) [a,b,c] [] pos) (abG ta):=by
 intro pins s σ H R I h
 refine Call_ (qd I hg hm boot_range (PyProof.Rows.callWith_type1 (dN (ha pos pins s σ H _ I h) fun us s1 ⟨vs,H1,I1,r1,q1⟩=> ?_) hs hpl))
 obtain⟨i,j,k,n,e,⟨c0,c1,c2,c3⟩,q⟩:=q1
 subst e
 cases r1 with
 | cons r rr=>
  cases rr with
  | cons r' rr=>
   cases rr with
   | cons r'' rr=>
    cases rr
    obtain⟨t,rfl⟩:=r
    obtain⟨t',rfl⟩:=r'
    obtain⟨t'',rfl⟩:=r''
    refine call_range_3 c0 ?_ (.inl (PyProof.noPylong_small c1))
    refine wpAny_pyIter_range (IsRange.new ..) c2 ?_
    have I2:Inv X pins σ H1 {s1 with heap:=s1.heap.push {cls:= .type "range",data:= .fields #[.int i t,.int j t',.int k t'']} }:=I1.kept (t':=s1.toks) fun b o e=>Heap.get?_push_of_some _ e
    refine Jl (tk:=s1.toks) I2 _ (KZ _ i k n) ?_ q
    have e1:i+((0 :Nat):Int)*k=i:=by simp
    have e2:(n:Int)-((0 :Nat):Int)=Builtin.Range.rangeSize i j k:=by rw[c3];simp
    show IsRangeIter _ _ (i+((0 :Nat):Int)*k) ((n:Int)-((0 :Nat):Int)) k
    rw[e1,e2]
    exact Heap.get?_push_size _ rfl
end
section
variable{X:Cx}{tg:Expr}
end
noncomputable def Its(x:Str):It:=⟨fun i _=>i<x.cps.size,fun i H v H'=>H'=H∧∃c,x.cps[i]? =some c∧v= .str ⟨#[c]⟩,fun i _=>x.cps.size≤i⟩
theorem K4{P:Program}{w:World}{K:PySem.W.Frag}{tg:Expr}(it:Addr)(x:Str)(t:Tok)(ty:String)(hty:ty= "str_ascii_iterator" ∨ty= "str_iterator"):
  Turn P w K tg (Its x) [it] it (fun i h=>h.IsStrIter it ty x t i) where
 mem:=by simp
 obj:=fun i h st b hb=>by
  have e:b=it:=by simpa using hb
  subst e
  obtain⟨o,e,c,d⟩:=st
  exact⟨o,e,fun v z=>by rw[d]at z;cases z⟩
 keep:=fun i h h' st k=>let ⟨o,ho,r⟩:=st;⟨o,k it (by simp) o ho,r⟩
 item:=by
  intro X hP hw hK hc i pins s σ H E I hf st hg
  subst hP hw hK
  obtain⟨f0,f1,f2,f3,f4,f5⟩:=hf it (by simp)
  have W:Walks X.prog X.w X.A it [it] [it] x.cps.size (SignAt x) (fun i h=>h.IsStrIter it ty x t i):=by
   rcases hty with e | e
   ·rw[e];exact Walks.strAscii (I.ok.hd hc) it x t
   ·rw[e];exact Walks.strWide (I.ok.hd hc) it x t
  have hno: ["enumerate","zip","dict_itemiterator","dict_reverseitemiterator","odict_iterator","itertools.zip_longest","itertools.pairwise"].contains ty=false:=by
   rcases hty with e | e
   ·rw[e];decide
   ·rw[e];decide
  refine W.item i s _ _ hg st fun v h' tk hv st' kk=> ?_
  obtain⟨c,u,hcx,rfl⟩:=hv
  have I1:Inv X pins σ H {s with heap:=h',toks:=tk}:=I.turned (fun b o hb e=>kk b o (by simpa using hb) e) f0 f1 f3 f4 f5
  obtain⟨oi,e,cc,dd⟩:=id st'
  exact⟨_,rfl,Ko (s:= {s with heap:=h',toks:=tk}) e cc dd hno ⟨.str ⟨#[c]⟩,H,I1,⟨u,rfl⟩,⟨rfl,c,hcx,rfl⟩,st',fun b hb=>(hf b hb).1⟩⟩
 done:=by
  intro X hP hw hK hc i pins s σ H E I hf st hg
  subst hP hw hK
  obtain⟨f0,f1,f2,f3,f4,f5⟩:=hf it (by simp)
  have hx:x.cps[i]? =none:=Array.getElem?_eq_none hg
  rcases hty with e | e
  ·rw[e]at st
   exact wpAny_pyNext_ascii_end (I.ok.hd hc) st hx fun h' eb=>⟨rfl,I.turned (t':=s.toks) (fun b o hb e=>eb b o hb e) f0 f1 f3 f4 f5⟩
  ·rw[e]at st
   exact wpAny_pyNext_wide_end (I.ok.hd hc) st hx fun h' eb=>⟨rfl,I.turned (t':=s.toks) (fun b o hb e=>eb b o hb e) f0 f1 f3 f4 f5⟩
 self:=fun A i s Q E st h=>by
  rcases hty with e | e
  ·rw[e]at st;exact wpAny_pyIter_striter_ascii st h
  ·rw[e]at st;exact wpAny_pyIter_striter_wide st h
noncomputable def ad9(te:TE):TI:=fun σ H R=>te σ H fun v H1=>∃x,v= .str x∧R (Its x) H1
theorem aaa{X:Cx}{tg e:Expr}{te:TE}(he:PE X e te):PI X tg e (ad9 te):=by
 intro pins s σ H R I h
 refine dN (he pins s σ H _ I h) fun v s1 ⟨y,H1,I1,r1,x,ex,q⟩=> ?_
 subst ex
 obtain⟨t,rfl⟩:=r1
 cases ha:x.cps.all (· < 128)
 ·exact wpAny_pyIter_wide ha (Jl (tk:=s1.toks) I1 _ (K4 _ x t "str_iterator" (.inr rfl)) ⟨_,Heap.get?_push_size _ rfl,rfl,rfl⟩ q)
 ·exact wpAny_pyIter_ascii ha (Jl (tk:=s1.toks) I1 _ (K4 _ x t "str_ascii_iterator" (.inl rfl)) ⟨_,Heap.get?_push_size _ rfl,rfl,rfl⟩ q)
section
variable{prog:Program}{w:World}{A:Around}{E:Value→Shared→Prop}{s:Shared}
end
theorem aab{κ:Type}{kvs:List (κ × V)}{vs:List (κ × Value)}(h:KV kvs vs):∀ {i:Nat}{k:κ}{v:V},kvs[i]? =some (k,v)→∃u,vs[i]? =some (k,u)∧RelV v u:=by
 unfold KV at h
 induction h with
 | nil=>intro i k v e;simp at e
 | @cons a b l₁ l₂ r t ih=>
  intro i k v e
  cases i with
  | zero=>
   simp only[List.getElem?_cons_zero,Option.some.injEq]at e
   subst e
   refine⟨b.2,?_,r.2⟩
   simp only[List.getElem?_cons_zero]
   exact congrArg some (Prod.ext r.1.symm rfl)
  | succ j=>
   simp only[List.getElem?_cons_succ]at e ⊢
   exact ih e
theorem Uu{k:Key}{u:Value}(h:Aj k u=true):RelV (kV k) u:=by
 rcases dM h with ⟨i,t,rfl,rfl⟩ | ⟨x,t,rfl,rfl⟩
 ·exact⟨t,rfl⟩
 ·exact⟨t,rfl⟩
section
variable{X:Cx}{pins:List (Addr × Obj)}{σ:St}{H:Hp}{s:Shared}{d:Addr}{o:Obj}
theorem Inv.aac {kvs:List (Key × V)} (I:Inv X pins σ H s) (h:H d=some (.vB o (.dK kvs))):
  (d==sysModules)=false∧s.heap.get? d=some o∧o.ExactDict∧∃(es:Array DictEntry)(ep:Nat)(vs:List (Key × Value)),o.data= .dict es ep∧es.size=kvs.length∧KV kvs vs∧s.heap.DictAt (dI X.prog X.w) d vs ep:=by
 obtain⟨hd,z,hs,vs,kv,o',es,ep,ho,hx,hdt,r⟩:=I.hok d _ h
 rw[hd]at ho
 cases ho
 refine⟨hs,hd,hx,es,ep,vs,hdt,?_,kv,o,es,hd,hx,hdt,r⟩
 have l1:=r.2.1.length
 have l2:kvs.length=vs.length:=Paired.length kv
 rw[Array.length_toList]at l1
 omega
end
noncomputable def Iti(d:Addr)(o:Obj)(kvs:List (Key × V)):It:=
 ⟨fun i H=>H d=some (.vB o (.dK kvs))∧i<kvs.length,fun i H x H'=>∃T k v,kvs[i]? =some (k,v)∧x= .ref T∧H T=none∧H'=upd H T (.tup [kV k,v]),fun i H=>H d=some (.vB o (.dK kvs))∧kvs.length≤i⟩
theorem QK{o:Obj}{es es':Array DictEntry}{ep ep':Nat}(h:o.data= .dict es ep)(h':o.data= .dict es' ep'):es'=es∧ep'=ep:=by
 rw[h]at h'
 cases h'
 exact⟨rfl,rfl⟩
section
variable{P:Program}{w:World}{K:PySem.W.Frag}{tg:Expr}{d:Addr}{o:Obj}{es:Array DictEntry}{ep:Nat}
theorem Ol{kvs:List (Key × V)}{elts:List Expr}{kk:Nat}{tpos:Pos}(it:Addr)(hod:o.data= .dict es ep):
  Turn P w K (.Tuple elts kk tpos) (Iti d o kvs) [it] it (fun i h=>∃ok ov,IsItemIter h it d i kvs.length ep ok ov) where
 mem:=by simp
 obj:=fun i h st b hb=>by
  have e:b=it:=by simpa using hb
  subst e
  obtain⟨ok,ov,e⟩:=st
  exact⟨_,e,fun v z=>nomatch z⟩
 keep:=fun i h h' st k=>let ⟨ok,ov,e⟩:=st;⟨ok,ov,k it (by simp) _ e⟩
 item:=by
  intro X hP hw hK hc i pins s σ H E I hf st hg
  subst hP hw hK
  obtain⟨hd,hi⟩:=hg
  obtain⟨hs,hgd,hx,es',ep',vs,hdt,hsz,kv,hm⟩:=I.aac hd
  obtain⟨rfl,rfl⟩:=QK hod hdt
  obtain⟨⟨k,v⟩,hkv⟩:∃p,kvs[i]? =some p:=⟨kvs[i],List.getElem?_eq_getElem hi⟩
  obtain⟨u,hu,ru⟩:=aab kv hkv
  have hl:kvs.length=vs.length:=Paired.length kv
  obtain⟨ok,ov,he⟩:=st
  rw[hl]at he
  have hlt:it<s.heap.objs.size:=Heap.lt_size he
  refine wpAny_pyNext_items_item he hm hu fun key h' hkey ho hT hz hk=> ?_
  refine⟨_,rfl,wpAny_letOwnedTupleGo_items (s:= {s with heap:=h'}) ho fun h'' he' sb=> ?_⟩
  have hT2:h''.get? s.heap.objs.size=some {cls:= .type "tuple",data:= .seq #[key,u]}:=(sb.2 _ (Nat.ne_of_gt hlt)).trans hT
  have new:fJ X.prog X.w (upd H s.heap.objs.size (.tup [kV k,v])) h'' s.heap.objs.size (.tup [kV k,v]):=
   ⟨by show 2≤sizeLine;decide,[key,u],.cons (Uu (show Aj k key=true from hkey)) (.cons ru .nil),⟨_,hT2,rfl,_,rfl⟩⟩
  have I1:Inv X pins σ (upd H s.heap.objs.size (.tup [kV k,v])) {s with heap:=h''}:=
   I.uQ (t':=s.toks) (ch:= [it]) (fun b ob hb e=>(sb.2 b (by simpa using hb)).trans (hk b ob (by simpa using hb) e)) hf (Nat.le_refl _) new
  refine⟨.ref s.heap.objs.size,_,I1,rfl,⟨_,k,v,hkv,rfl,I.hok.fresh (Nat.le_refl _),rfl⟩,⟨key,u,?_⟩,fun b hb=> ?_⟩
  ·rw[hl];exact he'
  ·have e:b=it:=by simpa using hb
   rw[e,bF (Nat.ne_of_lt hlt)]
   exact(hf it (by simp)).1
 done:=by
  intro X hP hw hK hc i pins s σ H E I hf st hg
  subst hP hw hK
  obtain⟨hd,hi⟩:=hg
  obtain⟨f0,f1,f2,f3,f4,f5⟩:=hf it (by simp)
  obtain⟨hs,hgd,hx,es',ep',vs,hdt,hsz,kv,hm⟩:=I.aac hd
  obtain⟨rfl,rfl⟩:=QK hod hdt
  have hl:kvs.length=vs.length:=Paired.length kv
  obtain⟨ok,ov,he⟩:=st
  rw[hl]at he
  exact wpAny_pyNext_items_end (I.ok.hd hc) he hm (List.getElem?_eq_none (by omega)) fun h' eb=>⟨rfl,I.turned (t':=s.toks) (fun b ob hb e=>eb b ob hb e) f0 f1 f3 f4 f5⟩
 self:=fun A i s Q E st h=>let ⟨_,_,e⟩:=st;PySem.W.kcp_self e h
end
noncomputable def aad(td:TE):TI:=fun σ H R=>td σ H fun x H1=>∃d o kvs,x= .ref d∧H1 d=some (.vB o (.dK kvs))∧R (Iti d o kvs) H1
section
variable{X:Cx}{tg e:Expr}{td:TE}{apos cpos:Pos}
theorem Uv{elts:List Expr}{kk:Nat}{tpos:Pos}(he:PE X e td)(hbase:attributeBase e "items" X.env (eval e X.env)=eval e X.env:=by rfl)(hline:(apos.endLine==cpos.line)=true:=by rfl):
  PI X (.Tuple elts kk tpos) (.Call (.Attribute e "items" apos) [] [] cpos) (aad td):=by
 intro pins s σ H R I h
 refine wpAny_Call_method (T:= "dict") (id:= "dict.items") hbase rfl hline F.plainAttrs_dict F.slot_dict_items F.type_dict_items (dN (he pins s σ H _ I h) fun u s1 ⟨x,H1,I1,rx,d,o,kvs,ex,hd,q⟩=> ?_)
 subst ex
 obtain rfl:u=Value.ref d:=rx
 obtain⟨hs,hgd,hx,es,ep,vs,hdt,hsz,kv,hm⟩:=I1.aac hd
 have hl:kvs.length=vs.length:=Paired.length kv
 refine⟨hm.dictOf.typeIs,hm.dictOf.mapOf.noDict,?_⟩
 have I2:Inv X pins σ H1 {s1 with heap:=s1.heap.push {cls:= .type "dict_items",data:= .fields #[.ref d]} }:=I1.kept (t':=s1.toks) fun b ob q=>Heap.get?_push_of_some _ q
 have fin:wpAny (model X.prog X.w) X.A (pyIter (.ref s1.heap.objs.size)) (PIE X pins σ (.Tuple elts kk tpos) R) X.xe {s1 with heap:=s1.heap.push {cls:= .type "dict_items",data:= .fields #[.ref d]} }:=by
  refine wpAny_pyIter_items (d:=d) (knd:=dI X.prog X.w) ⟨_,Heap.get?_push_size _ rfl,rfl,rfl⟩ (hm.push _) (Jl (tk:=s1.toks) I2 _ (Ol _ hdt) ⟨.none,.none,?_⟩ q)
  rw[hl]
  exact Heap.get?_push_size _ rfl
 show wpAny _ _ (callWith cpos (.builtin "dict.items") [.ref d] [] []) _ X.xe s1
 exact method_meetsIn F.slot_dict_items F.entry_dict_items rfl (PySem.evalArgs_none ⟨rfl,hm.dictOf.typeIs,F.args_dict_items_1 _,_,meets_dict_items (dI X.prog X.w) d hs,⟨vs,hm.dictOf⟩,fin⟩)
end
noncomputable def Ite(K:PySem.W.Frag)(a:Addr):It:=
 ⟨fun i H=>∃(xs:List V)(x:V),bj K H a xs∧xs[i]? =some x,fun i H v H'=>∃T x,v= .ref T∧H T=none∧H'=upd H T (.tup [.int (i:Nat),x])∧∀xs,bj K H a xs→xs[i]? =some x,fun i H=>∃xs:List V,bj K H a xs∧xs.length≤i⟩
theorem RT{P:Program}{w:World}{K:PySem.W.Frag}{elts:List Expr}{kk:Nat}{tpos:Pos}(a e it:Addr):
  Turn P w K (.Tuple elts kk tpos) (Ite K a) [e,it] e (fun i h=>(∃old,IsEnum h e it ((i:Nat):Int) old)∧h.IsListIter it a i∧e≠it) where
 mem:=by simp
 obj:=fun i h st b hb=>by
  obtain⟨⟨old,he⟩,⟨o,ho,hc,hd⟩,_⟩:=st
  have e':b=e∨b=it:=by simpa using hb
  rcases e' with z | z
  ·rw[z];exact⟨_,he,fun v q=>nomatch q⟩
  ·rw[z];exact⟨o,ho,fun v q=>by rw[hd]at q;cases q⟩
 keep:=fun i h h' st k=>let ⟨⟨old,he⟩,hi,hne⟩:=st;⟨⟨old,k e (by simp) _ he⟩,hi.at fun o q=>k it (by simp) o q,hne⟩
 item:=by
  intro X hP hw hK hc i pins s σ H E I hf st hg
  subst hP hw hK
  obtain⟨⟨old,he⟩,hit,hne⟩:=st
  obtain⟨xs,x,hq,hx⟩:=hg
  obtain⟨its,rv,p,hz⟩:=I.list hq
  obtain⟨u,hu,ru⟩:=rv.get hx
  have hel:e<s.heap.objs.size:=Heap.lt_size he
  have hil:it<s.heap.objs.size:=by obtain⟨_,q,_⟩:=hit;exact Heap.lt_size q
  refine wpAny_pyNext_enum_item he hit p.isList (x:=u) (by simpa using hu) hne fun h' ho hit' hT hsz hk=> ?_
  refine⟨_,rfl,wpAny_letOwnedTupleGo_enum (s:= {s with heap:=h',toks:=s.toks+1}) ho fun h'' he' sb=> ?_⟩
  have hT2:h''.get? s.heap.objs.size=some {cls:= .type "tuple",data:= .seq #[.int i s.toks,u]}:=(sb.2 _ (Nat.ne_of_gt hel)).trans hT
  have new:fJ X.prog X.w (upd H s.heap.objs.size (.tup [.int (i:Nat),x])) h'' s.heap.objs.size (.tup [.int (i:Nat),x]):=
   ⟨by show 2≤sizeLine;decide,[.int i s.toks,u],.cons ⟨_,rfl⟩ (.cons ru .nil),⟨_,hT2,rfl,_,rfl⟩⟩
  have I1:Inv X pins σ (upd H s.heap.objs.size (.tup [.int (i:Nat),x])) {s with heap:=h'',toks:=s.toks+1}:=
   I.uQ (ch:= [e,it]) (fun b ob hb q=>(sb.2 b (fun z=>hb (by simp[z]))).trans (hk b ob (fun z=>hb (by simp[z])) (fun z=>hb (by simp[z])) q)) hf (Nat.le_refl _) new
  refine⟨.ref s.heap.objs.size,_,I1,rfl,⟨_,x,rfl,I.hok.fresh (Nat.le_refl _),rfl,fun ys hy=>by rw[I.xN hy hq];exact hx⟩,⟨⟨u,?_⟩,hit'.at fun o q=>(sb.2 it (Ne.symm hne)).trans q,hne⟩,fun b hb=> ?_⟩
  ·have e1:((i+1 :Nat):Int)=(i:Int)+1:=by omega
   rw[e1];exact he'
  ·have hb':b<s.heap.objs.size:=by
    have e':b=e∨b=it:=by simpa using hb
    rcases e' with z | z
    ·rw[z];exact hel
    ·rw[z];exact hil
   rw[bF (Nat.ne_of_lt hb')]
   exact(hf b hb).1
 done:=by
  intro X hP hw hK hc i pins s σ H E I hf st hg
  subst hP hw hK
  obtain⟨⟨old,he⟩,hit,hne⟩:=st
  obtain⟨xs,hq,hx⟩:=hg
  obtain⟨its,rv,p,hz⟩:=I.list hq
  obtain⟨f0,f1,f2,f3,f4,f5⟩:=hf it (by simp)
  have hl:=rv.length
  exact wpAny_pyNext_enum_end (I.ok.hd hc) he hit p.isList (by simp;omega) fun h' eb=>⟨rfl,I.turned (t':=s.toks) (fun b o hb q=>eb b o hb q) f0 f1 f3 f4 f5⟩
 self:=fun A i s Q E st h=>let ⟨⟨_,he⟩,_⟩:=st;wpAny_pyIter_enum he h
noncomputable def abH(K:PySem.W.Frag)(ta:TA):TI:=fun σ H R=>ta σ H fun vs H1=>∃a xs,vs= [.ref a]∧bj K H1 a xs∧R (Ite K a) H1
theorem QL{X:Cx}{e:Expr}{ta:TA}{p pos tpos:Pos}{elts:List Expr}{kk:Nat}(hg:Gl X "enumerate")(hm:X.mg "enumerate" =none)(ha:PA X [e] ta)(hs:starEach [e] X.env= [(false,eval e X.env)]:=by rfl):
  PI X (.Tuple elts kk tpos) (.Call (.Name "enumerate" p) [e] [] pos) (abH X.K ta):=by
 intro pins s σ H R I h
 refine Call_ (qd I hg hm boot_enumerate (PyProof.Rows.callWith_type1 (dN (ha pos pins s σ H _ I h) fun us s1 ⟨vs,H1,I1,r1,q1⟩=> ?_) hs rfl))
 obtain⟨a,xs,ex,hq,q⟩:=q1
 subst ex
 cases r1 with
 | cons r rr=>
  cases rr
  cases r
  obtain⟨its,rv,p',hz⟩:=I1.list hq
  refine call_enumerate_list p'.isList fun h' he hit hsz hk=>wpAny_pyIter_enum he ?_
  have I2:Inv X pins σ H1 {s1 with heap:=h'}:=I1.kept (t':=s1.toks) hk
  refine⟨s1.heap.objs.size+1,[s1.heap.objs.size+1,s1.heap.objs.size],_,_,H1,rfl,I2,RT a (s1.heap.objs.size+1) s1.heap.objs.size,⟨⟨.none,he⟩,hit,Nat.succ_ne_self _⟩,fun b hb=> ?_,q⟩
  have e':b=s1.heap.objs.size+1∨b=s1.heap.objs.size:=by simpa using hb
  have hle:s1.heap.objs.size≤b:=by
   rcases e' with z | z
   ·rw[z];exact Nat.le_add_right _ _
   ·rw[z];exact Nat.le_refl _
  exact I1.Km hle (I1.hok.fresh hle)
theorem zF:bootBuiltins "zip" =some (.type "zip"):=by decide +kernel
noncomputable def Itz(K:PySem.W.Frag)(a b:Addr):It:=
 ⟨fun i H=>∃(xs ys:List V)(x y:V),bj K H a xs∧bj K H b ys∧xs[i]? =some x∧ys[i]? =some y,
  fun i H v H'=>∃T x y,v= .ref T∧H T=none∧H'=upd H T (.tup [x,y])∧(∀xs,bj K H a xs→xs[i]? =some x)∧∀ys,bj K H b ys→ys[i]? =some y,
  fun i H=>∃xs ys:List V,bj K H a xs∧bj K H b ys∧(xs.length≤i∨ys.length≤i)⟩
theorem Uw{P:Program}{w:World}{K:PySem.W.Frag}{elts:List Expr}{kk:Nat}{tpos:Pos}{a b z TI TO i1 i2:Addr}(D:ZipApart z TI TO i1 i2 a b):
  Turn P w K (.Tuple elts kk tpos) (Itz K a b) [z,TI,TO,i1,i2] z (fun i h=>IsZip h z TI TO .none∧IsPair h TI (.ref i1) (.ref i2)∧(∃x y,IsPair h TO x y)∧h.IsListIter i1 a i∧h.IsListIter i2 b i) where
 mem:=by simp
 obj:=fun i h st c hc=>by
  obtain⟨hz,hTI,⟨x,y,hTO⟩,⟨o1,e1,_,d1⟩,⟨o2,e2,_,d2⟩⟩:=st
  have e':c=z∨c=TI∨c=TO∨c=i1∨c=i2:=by simpa using hc
  rcases e' with q | q | q | q | q
  ·rw[q];exact⟨_,hz,fun v q=>nomatch q⟩
  ·rw[q];exact⟨_,hTI,fun v q=>nomatch q⟩
  ·rw[q];exact⟨_,hTO,fun v q=>nomatch q⟩
  ·rw[q];exact⟨o1,e1,fun v q=>by rw[d1]at q;cases q⟩
  ·rw[q];exact⟨o2,e2,fun v q=>by rw[d2]at q;cases q⟩
 keep:=fun i h h' st k=>by
  obtain⟨hz,hTI,⟨x,y,hTO⟩,h1,h2⟩:=st
  exact⟨k z (by simp) _ hz,k TI (by simp) _ hTI,⟨x,y,k TO (by simp) _ hTO⟩,h1.at fun o q=>k i1 (by simp) o q,h2.at fun o q=>k i2 (by simp) o q⟩
 item:=by
  intro X hP hw hK hc i pins s σ H E I hf st hg
  subst hP hw hK
  obtain⟨hz,hTI,⟨x0,y0,hTO⟩,h1,h2⟩:=st
  obtain⟨xs,ys,x,y,We,Wf,hx,hy⟩:=hg
  obtain⟨its,rv,p,_⟩:=I.list We
  obtain⟨its2,W4,p2,_⟩:=I.list Wf
  obtain⟨u,hu,ru⟩:=rv.get hx
  obtain⟨u2,hu2,ru2⟩:=W4.get hy
  have hzl:z<s.heap.objs.size:=Heap.lt_size hz
  refine wpAny_pyNext_zip_item D hz hTI hTO h1 h2 p.isList p2.isList (x:=u) (y:=u2) (by simpa using hu) (by simpa using hu2) fun h' z' TO' h1' h2' hT hsz hk=> ?_
  refine⟨_,rfl,wpAny_letOwnedTupleGo_zip (s:= {s with heap:=h'}) z' fun h'' z'' sb=> ?_⟩
  have hT2:h''.get? s.heap.objs.size=some {cls:= .type "tuple",data:= .seq #[u,u2]}:=(sb.2 _ (Nat.ne_of_gt hzl)).trans hT
  have new:fJ X.prog X.w (upd H s.heap.objs.size (.tup [x,y])) h'' s.heap.objs.size (.tup [x,y]):=
   ⟨by show 2≤sizeLine;decide,[u,u2],.cons ru (.cons ru2 .nil),⟨_,hT2,rfl,_,rfl⟩⟩
  have I1:Inv X pins σ (upd H s.heap.objs.size (.tup [x,y])) {s with heap:=h''}:=
   I.uQ (t':=s.toks) (ch:= [z,TI,TO,i1,i2]) (fun c o hb q=>(sb.2 c (fun q'=>hb (by simp[q']))).trans (hk c o (fun q'=>hb (by simp[q'])) (fun q'=>hb (by simp[q'])) (fun q'=>hb (by simp[q'])) (fun q'=>hb (by simp[q'])) q)) hf (Nat.le_refl _) new
  refine⟨.ref s.heap.objs.size,_,I1,rfl,⟨_,x,y,rfl,I.hok.fresh (Nat.le_refl _),rfl,fun l hl=>by rw[I.xN hl We];exact hx,fun l hl=>by rw[I.xN hl Wf];exact hy⟩,⟨z'',?_,⟨u,u2,?_⟩,?_,?_⟩,fun c hcm=> ?_⟩
  ·exact(sb.2 _ D.TIz).trans (hk _ _ D.TIz D.TITO D.TIi1 D.TIi2 hTI)
  ·exact(sb.2 _ D.TOz).trans TO'
  ·exact h1'.at fun o q=>(sb.2 _ D.i1z).trans q
  ·exact h2'.at fun o q=>(sb.2 _ D.i2z).trans q
  ·have hlt:c<s.heap.objs.size:=by
    have e':c=z∨c=TI∨c=TO∨c=i1∨c=i2:=by simpa using hcm
    rcases e' with q | q | q | q | q
    ·rw[q];exact hzl
    ·rw[q];exact Heap.lt_size hTI
    ·rw[q];exact Heap.lt_size hTO
    ·rw[q];obtain⟨_,e1,_⟩:=h1;exact Heap.lt_size e1
    ·rw[q];obtain⟨_,e2,_⟩:=h2;exact Heap.lt_size e2
   rw[bF (Nat.ne_of_lt hlt)]
   exact(hf c hcm).1
 done:=by
  intro X hP hw hK hc i pins s σ H E I hf st hg
  subst hP hw hK
  obtain⟨hz,hTI,⟨x0,y0,hTO⟩,h1,h2⟩:=st
  obtain⟨xs,ys,We,Wf,hend⟩:=hg
  obtain⟨its,rv,p,_⟩:=I.list We
  obtain⟨its2,W4,p2,_⟩:=I.list Wf
  have l1:=rv.length
  have l2:=W4.length
  have he:its.toArray[i]? =none∨its2.toArray[i]? =none:=by
   rcases hend with q | q
   ·exact .inl (by simp;omega)
   ·exact .inr (by simp;omega)
  exact wpAny_pyNext_zip_end (I.ok.hd hc) D hz hTI hTO h1 h2 p.isList p2.isList he fun h' hk=>⟨rfl,I.QG (t':=s.toks) (ch:= [z,TI,TO,i1,i2]) (fun c o hb q=>
   hk c o (fun q'=>hb (by simp[q'])) (fun q'=>hb (by simp[q'])) (fun q'=>hb (by simp[q'])) (fun q'=>hb (by simp[q'])) q) hf⟩
 self:=fun A i s Q E st h=>wpAny_pyIter_zip st.1 h
noncomputable def aec(K:PySem.W.Frag)(ta:TA):TI:=fun σ H R=>ta σ H fun vs H1=>∃a b xs ys,vs= [.ref a,.ref b]∧bj K H1 a xs∧bj K H1 b ys∧R (Itz K a b) H1
theorem aae{X:Cx}{e e2:Expr}{ta:TA}{p pos tpos:Pos}{elts:List Expr}{kk:Nat}(hg:Gl X "zip")(hm:X.mg "zip" =none)(ha:PA X [e,e2] ta)
  (hs:starEach [e,e2] X.env=(false,eval e X.env)::starEach [e2] X.env:=by rfl) (hpl:(backTo pos (starEach [e2] X.env)).any (·.1)=false:=by rfl):
  PI X (.Tuple elts kk tpos) (.Call (.Name "zip" p) [e,e2] [] pos) (aec X.K ta):=by
 intro pins s σ H R I h
 refine Call_ (qd I hg hm zF (PyProof.Rows.callWith_type1 (dN (ha pos pins s σ H _ I h) fun us s1 ⟨vs,H1,I1,r1,q1⟩=> ?_) hs hpl))
 obtain⟨a,b,xs,ys,ex,We,Wf,q⟩:=q1
 subst ex
 cases r1 with
 | cons r rr=>
  cases rr with
  | cons r' rr=>
   cases rr
   cases r
   cases r'
   obtain⟨its,rv,p1,_⟩:=I1.list We
   obtain⟨its2,W4,p2,_⟩:=I1.list Wf
   have la:a<s1.heap.objs.size:=p1.lt
   have lb:b<s1.heap.objs.size:=p2.lt
   refine call_zip_2 p1.isList p2.isList fun h' hz hTI hTO h1 h2 hsz hk=>wpAny_pyIter_zip hz ?_
   have I2:Inv X pins σ H1 {s1 with heap:=h'}:=I1.kept (t':=s1.toks) hk
   refine⟨s1.heap.objs.size+4,[s1.heap.objs.size+4,s1.heap.objs.size+2,s1.heap.objs.size+3,s1.heap.objs.size,s1.heap.objs.size+1],_,_,H1,rfl,I2,Uw (PySem.W.ktu_apart s1.heap.objs.size a b la lb),⟨hz,hTI,⟨_,_,hTO⟩,h1,h2⟩,fun c hcm=> ?_,q⟩
   have e':c=s1.heap.objs.size+4∨c=s1.heap.objs.size+2∨c=s1.heap.objs.size+3∨c=s1.heap.objs.size∨c=s1.heap.objs.size+1:=by simpa using hcm
   have hle:s1.heap.objs.size≤c:=by
    rcases e' with z | z | z | z | z
    ·rw[z];exact Nat.le_add_right _ _
    ·rw[z];exact Nat.le_add_right _ _
    ·rw[z];exact Nat.le_add_right _ _
    ·rw[z];exact Nat.le_refl _
    ·rw[z];exact Nat.le_add_right _ _
   exact I1.Km hle (I1.hok.fresh hle)
end L2
section
namespace sH
open PySem PyProof.Rows
theorem K5{x:Int}(k:Nat)(hx:0≤x):Builtin.bitAnd x (2 ^ k-1)=x % 2 ^ k:=by
 obtain⟨n,rfl⟩:=Int.eq_ofNat_of_zero_le hx
 have hp:0<2 ^ k:=Nat.two_pow_pos k
 rw[two_pow_cast]
 have e:((2 ^ k:Nat):Int)-1=((2 ^ k-1 :Nat):Int):=by
  generalize (2 :Nat) ^ k=m at hp
  omega
 rw[e,bitAnd_pp (by omega) (by omega),Int.toNat_natCast,Int.toNat_natCast,Nat.and_two_pow_sub_one_eq_mod]
 first
  | rfl
  | exact Int.natCast_emod _ _
  | simp
end sH
end
section
namespace TL
open PySem PySem.Builtin PySem.Builtin.Str PySem.StrLaws
noncomputable abbrev tl(x:Str):List Nat:=x.cps.toList
theorem wJ{x y:Str}(h:tl x=tl y):x=y:=Str.ext' (Array.toList_inj.mp h)
theorem uT(x y:Str):tl (x++y)=tl x++tl y:=by
 show (x++y).cps.toList=_
 rw[Str.cps_append,Array.toList_append]
noncomputable def pre(S l:List Nat):Bool:=l.take S.length==S
noncomputable def par(S:List Nat):List Nat→List Nat→Option (List Nat × List Nat)
 | _,[]=>none
 | acc,c::r=>if pre S (c::r)=true then some (acc,(c::r).drop S.length)else par S (acc ++ [c]) r
noncomputable def Di(S:List Nat):List (List Nat)→List Nat
 | []=> []
 | [p]=>p
 | p::q::r=>p++(S++Di S (q::r))
theorem QM(y:Str):∀parts:List Str,tl (Str.join y parts)=Di (tl y) (parts.map tl)
 | []=>rfl
 | [_]=>rfl
 | x::z::r=>by
  show tl (x++y++Str.join y (z::r))=tl x++(tl y++Di (tl y) ((z::r).map tl))
  rw[uT,uT,QM y (z::r),List.append_assoc]
theorem join_eq(y:Str)(parts:List Str):Txt.join y parts=Str.join y parts:=glued_eq_join y parts
end TL
end
namespace L2
open PySem PySem.Spec PyProof.Rows
theorem ql:∀ {ys:List Str}{us:List Value},Vals (ys.map V.str) us→StrsAre us ys
 | [],_,.nil=> .nil
 | y::ys,_,.cons r t=>by
  obtain⟨k,rfl⟩:=r
  exact .cons y k (ql t)
section
variable{X:Cx}{pins:List (Addr × Obj)}{σ:St}{H:Hp}{s:Shared}{Q:VK}
end
section
variable{X:Cx}
theorem W5:Ui X "str.join" (fun x xs H Q=>∃a p,∃ys:List Str,x= .str a∧xs= [.ref p]∧(bj X.K H p (ys.map V.str)∨iT X.K H p (ys.map V.str))∧
  (ys.map (·.length)).sum+ys.length*a.length≤16777216∧Q (.str (Txt.join a ys)) H):=by
 intro pins s σ H x xs v us Q I rx rs h
 obtain⟨a,p,ys,rfl,rfl,hp,hz,h⟩:=h
 obtain⟨t,rfl⟩:=rx
 cases rs with
 | cons r1 rs=>
  cases rs
  cases r1
  rcases hp with hp | hp
  ·obtain⟨its,r,⟨o,n,ho,hc,_,hd⟩,_⟩:=I.list hp
   exact PyProof.Rows.join_list (items:=its.toArray) ⟨o,ho,hc,n,hd⟩ (by rw[List.toList_toArray];exact ql r) hz fun t' k=>⟨.str _,H,I.tok k,⟨t',rfl⟩,h⟩
  ·obtain⟨its,r,ht,_⟩:=I.tuple hp
   exact PyProof.Rows.join_tuple (items:=its.toArray) ht (by rw[List.toList_toArray];exact ql r) hz fun t' k=>⟨.str _,H,I.tok k,⟨t',rfl⟩,h⟩
theorem mt1{id:String}{g:Str→Str→V}(rule:∀(a b:Str)(t u:Tok)(s:Shared)(Q:Value→Shared→Prop),(∀(v:Value)(k:Nat),RelV (g a b) v→Q v {s with toks:=k})→
  wpAny (model X.prog X.w) X.A (call (.builtin id) [.str a t,.str b u]) Q X.xe s):Ui X id (fun x xs H Q=>∃a b,x= .str a∧xs= [.str b]∧Q (g a b) H):=by
 intro pins s σ H x xs v us Q I rx rs h
 obtain⟨a,b,rfl,rfl,h⟩:=h
 obtain⟨t,rfl⟩:=rx
 cases rs with
 | cons r1 rs=>
  cases rs
  obtain⟨u,rfl⟩:=r1
  exact rule a b t u s _ fun v k r=>⟨g a b,H,I.tok k,r,h⟩
theorem Ux:Ui X "str.count" (fun x xs H Q=>∃a b,x= .str a∧xs= [.str b]∧Q (.int (Txt.count a b)) H):=
 mt1 (g:=fun a b=> .int (Txt.count a b)) fun _ _ _ _ s _ h=>PySem.SC.count (h _ (s.toks+1) ⟨_,rfl⟩)
end
section
variable{X:Cx}{o e:Expr}{to te:TE}
noncomputable def tM0(r:V→List V→Hp→VK→Prop)(to:TE):TE:=fun σ H Q=>to σ H fun x H1=>(∃a,x= .str a)∧r x [] H1 Q
noncomputable def tM1(r:V→List V→Hp→VK→Prop)(to te:TE):TE:=fun σ H Q=>to σ H fun x H1=>(∃a,x= .str a)∧te σ H1 fun y H2=>r x [y] H2 Q
theorem cY{id:String}{name:Str}{apos pos:Pos}{r:V→List V→Hp→VK→Prop}(slot:Slot "str" name id)(ty:typeOf (.builtin id)=pure (.type "method_descriptor"))(rule:Ui X id r)(ho:PE X o to)
  (hbase:attributeBase o name X.env (eval o X.env)=eval o X.env:=by rfl) (hline:(apos.endLine==pos.line)=true:=by rfl):PE X (.Call (.Attribute o name apos) [] [] pos) (tM0 r to):=by
 intro pins s σ H Q I h
 refine PySem.Call_method0 hbase hline (dN (ho pins s σ H _ I h) fun v s1 ⟨x,H1,I1,r1,q1⟩=> ?_)
 obtain⟨⟨a,rfl⟩,q1⟩:=q1
 obtain⟨t,rfl⟩:=_root_.id r1
 exact⟨"str",_,F.plainAttrs_str,slot,ty,typeIs_str _ _ _,(fun _ e=>nomatch e),Calls.callWith_builtin rfl (PySem.evalArgs_none (rule pins s1 σ H1 _ [] _ [] Q I1 r1 .nil q1))⟩
theorem abJ{id:String}{name:Str}{apos pos:Pos}{r:V→List V→Hp→VK→Prop}(slot:Slot "str" name id)(ty:typeOf (.builtin id)=pure (.type "method_descriptor"))(rule:Ui X id r)(ho:PE X o to)(he:PE X e te)
  (hs:starEach [e] X.env= [(false,eval e X.env)]:=by rfl) (hbase:attributeBase o name X.env (eval o X.env)=eval o X.env:=by rfl) (hline:(apos.endLine==pos.line)=true:=by rfl):
  PE X (.Call (.Attribute o name apos) [e] [] pos) (tM1 r to te):=by
 intro pins s σ H Q I h
 refine PySem.Call_method1 hbase hs hline (dN (ho pins s σ H _ I h) fun v s1 ⟨x,H1,I1,r1,q1⟩=> ?_)
 obtain⟨⟨a,rfl⟩,q1⟩:=q1
 obtain⟨t,rfl⟩:=_root_.id r1
 refine⟨"str",_,F.plainAttrs_str,slot,ty,typeIs_str _ _ _,(fun _ e=>nomatch e),Calls.callWith_builtin rfl (Calls.evalArgs_plain (Calls.spliced_cons ?_))⟩
 exact dN (he pins s1 σ H1 _ I1 q1) fun u s2 ⟨y,H2,I2,r2,q2⟩=>Calls.spliced_nil (rule pins s2 σ H2 _ [y] _ [u] Q I2 r1 (.cons r2 .nil) q2)
theorem W6{apos pos:Pos}(ho:PE X o to)(he:PE X e te)(hs:starEach [e] X.env= [(false,eval e X.env)]:=by rfl)(hbase:attributeBase o "join" X.env (eval o X.env)=eval o X.env:=by rfl)(hline:(apos.endLine==pos.line)=true:=by rfl):
  PE X (.Call (.Attribute o "join" apos) [e] [] pos) (tM1 (fun x xs H Q=>∃a p,∃ys:List Str,x= .str a∧xs= [.ref p]∧(bj X.K H p (ys.map V.str)∨iT X.K H p (ys.map V.str))∧
   (ys.map (·.length)).sum+ys.length*a.length≤16777216∧Q (.str (Txt.join a ys)) H) to te):=
 abJ F.slot_str_join F.type_str_join W5 ho he hs hbase hline
end
end L2
namespace L2
open PySem PySem.Spec PyProof.Rows
section
variable{X:Cx}
end
theorem IsPart.raw {v:Value} {o:Option Int} (p:IsPart v o):∃l:Option (Int × Tok),v=partValue l∧l.map (·.1)=o:=by
 cases p with
 | none=>exact⟨none,rfl,rfl⟩
 | int i t=>exact⟨some (i,t),rfl,rfl⟩
noncomputable def K6(n d:Nat):Option Int→Int
 | none=>(d:Int)
 | some i=>max 0 (min (if i<0 then i+(n:Int)else i) (n:Int))
theorem K7(n d:Nat)(o:Option Int):K6 n d o=((HT.fB n d o:Nat):Int):=by
 cases o with
 | none=>rfl
 | some v=>
  show max (0 :Int) (min (if v<0 then v+(n:Int)else v) (n:Int))=(((if v<0 then (v+(n:Int)).toNat else min v.toNat n):Nat):Int)
  by_cases hv:v<0
  ·simp only[if_pos hv]
   omega
  ·simp only[if_neg hv]
   omega
theorem RV(a b:Option Int)(n:Nat):Builtin.Str.strSliceIndices a b 1 n=sliceRange (K6 n 0 a) (K6 n n b) 1:=by
 have h1:((1 :Int) > 0)=True:=by simp
 cases a<;>cases b<;>first
  | rfl
  | (simp only[Builtin.Str.strSliceIndices,K6,h1,if_true];rfl)
  | simp[Builtin.Str.strSliceIndices,K6]
theorem aed(a b:Option Int)(n:Nat):Builtin.Str.strSliceIndices a b 1 n=(List.range (HT.fB n n b-HT.fB n 0 a)).map (fun k=>HT.fB n 0 a+k):=by
 rw[RV,K7,K7]
 generalize HT.fB n 0 a=p
 generalize HT.fB n n b=q
 simp only[sliceRange,show ((1 :Int) > 0)=True from by simp,if_true]
 by_cases hlt:(p:Int)<q
 ·have e3:(((q:Int)-p+1-1) / 1).toNat=q-p:=by first | omega | (simp;done) | (simp;omega)
  simp only[hlt,if_true,e3]
  refine List.map_congr_left fun k _=> ?_
  omega
 ·have:q-p=0:=by omega
  simp[hlt,this]
noncomputable def Dj(z:Str)(lo hi:Option Int):Str:=
 ⟨((z.cps.toList.drop (HT.fB z.length 0 lo)).take (HT.fB z.length z.length hi-HT.fB z.length 0 lo)).toArray⟩
theorem vH(z:Str)(lo hi:Option Int):PySem.StrLaws.sliceText z lo hi=Dj z lo hi:=by
 have h1:HT.fB z.length 0 lo≤z.length:=HT.Ob _ _ (Nat.zero_le _) _
 have h2:HT.fB z.length z.length hi≤z.length:=HT.Ob _ _ (Nat.le_refl _) _
 have hp:HT.fB z.length 0 lo≤max (HT.fB z.length 0 lo) (HT.fB z.length z.length hi):=Nat.le_max_left _ _
 have hq:max (HT.fB z.length 0 lo) (HT.fB z.length z.length hi)≤z.length:=Nat.max_le.mpr ⟨h1,h2⟩
 have hd:max (HT.fB z.length 0 lo) (HT.fB z.length z.length hi)-HT.fB z.length 0 lo=HT.fB z.length z.length hi-HT.fB z.length 0 lo:=by omega
 have e:Builtin.Str.strSliceIndices lo hi 1 z.length=
   Builtin.Str.strSliceIndices (some ((HT.fB z.length 0 lo:Nat):Int)) (some ((max (HT.fB z.length 0 lo) (HT.fB z.length z.length hi):Nat):Int)) 1 z.length:=by
  rw[PySem.StrLaws.strSliceIndices_plain hp hq,hd,aed]
 have e2:PySem.StrLaws.sliceText z lo hi=
   PySem.StrLaws.sliceText z (some ((HT.fB z.length 0 lo:Nat):Int)) (some ((max (HT.fB z.length 0 lo) (HT.fB z.length z.length hi):Nat):Int)):=by
  unfold PySem.StrLaws.sliceText
  rw[e]
 rw[e2,PySem.StrLaws.sliceText_nat z hp hq,hd]
 rfl
theorem K8(z:Str)(lo hi:Option Int):(Dj z lo hi).length≤z.length:=by
 show (((z.cps.toList.drop (HT.fB z.length 0 lo)).take (HT.fB z.length z.length hi-HT.fB z.length 0 lo)).toArray).size≤z.cps.size
 rw[List.size_toArray,List.length_take,List.length_drop,Array.length_toList]
 omega
noncomputable def aee:V→Option Int→Option Int→Hp→VK→Prop:=fun x lo hi H Q=>∃z,x= .str z∧z.length≤sizeLine∧Q (.str (Dj z lo hi)) H
theorem Dk{X:Cx}:Wd X aee:=by
 intro pins s σ H x v vl vu lo hi sl Q I rx hs pl pu h
 obtain⟨z,rfl,hz,q⟩:=h
 obtain⟨t,rfl⟩:=rx
 obtain⟨os,hos,hcs,hds⟩:=hs
 obtain⟨l,rfl,rfl⟩:=IsPart.raw pl
 obtain⟨u,rfl,rfl⟩:=IsPart.raw pu
 refine⟨"str",_,F.slot_str_getitem.lookup,typeIs_str _ _ _,?_⟩
 refine wpAny_getItem_str_slice (l:=l) (u:=u) (st:=none) ⟨os,hos,hcs,hds⟩ rfl ?_
 have hl:(PySem.StrLaws.sliceText z (l.map (·.1)) (u.map (·.1))).length≤sizeLine:=by
  rw[vH]
  exact Nat.le_trans (K8 z _ _) hz
 rw[←vH]at q
 unfold PySem.StrLaws.sliceText at q hl
 show Made.post (if ((1 :Int)==1&&(Builtin.Str.strSliceIndices (l.map (·.1)) (u.map (·.1)) 1 z.length).length==z.length)=true then Made.val (.str z t)
  else Made.str ⟨((Builtin.Str.strSliceIndices (l.map (·.1)) (u.map (·.1)) 1 z.length).filterMap (z.cps[·]?)).toArray⟩) (EP X pins σ Q) s
 by_cases c:((1 :Int)==1&&(Builtin.Str.strSliceIndices (l.map (·.1)) (u.map (·.1)) 1 z.length).length==z.length)=true
 ·rw[if_pos c]at q ⊢
  exact⟨.str z,H,I,⟨t,rfl⟩,q⟩
 ·rw[if_neg c]at q hl ⊢
  exact⟨hl,.str _,H,I.tok _,⟨_,rfl⟩,q⟩
end L2
namespace Att
open PySem PySem.W PySem.Calls PyProof.Rows
theorem BV{P:Params}{h:Heap}:∀(ns:List Int)(vs:List Value),WellAll P h vs (ns.map WData.int)→IntsAre vs ns:=by
 intro ns
 induction ns with
 | nil=>
  intro vs w
  rw[List.map_nil]at w
  cases w
  exact .nil
 | cons n ns ih=>
  intro vs w
  rw[List.map_cons]at w
  cases w with
  | cons a b=>
   cases a
   exact .cons _ _ (ih _ b)
section
variable{prog:Program}{w:World}{A:Around}{E:Value→Shared→Prop}{s:Shared}{K:Frag}
end
end Att
namespace L2
open PySem PySem.Spec PyProof.Rows
theorem Hw:∀ {vs:List Value}{ns:List Int},IntsAre vs ns→Vals (ns.map V.int) vs
 | _,_,.nil=> .nil
 | _,_,.cons n t h=> .cons ⟨t,rfl⟩ (Hw h)
noncomputable def Only(H:Hp):Prop:=∀b,H b=none∨∃o xs,H b=some (.vB o (.lst xs))
end L2
namespace L2
open PySem PySem.Spec PyProof.Rows
end L2
namespace L2
open PySem PySem.Spec PyProof.Rows
noncomputable def inClass(s:Stmt)(j:Nat):Stmt:=match s with
 | .ClassDef _ _ _ body _ _ _ _ _ _ _=>body.getD j (.Pass ⟨0,0,0,0⟩)
 | _=> .Pass ⟨0,0,0,0⟩
noncomputable def iW(s:Stmt):Arguments:=match s with
 | .FunctionDef _ a _ _ _ _ _ _ _ _=>a
 | _=> {posonlyargs:= [],args:= [],vararg:=none,kwonlyargs:= [],kw_defaults:= [],kwarg:=none,defaults:= []}
noncomputable def gb(s:Stmt):List Stmt:=match s with
 | .FunctionDef _ _ b _ _ _ _ _ _ _=>b
 | _=> []
noncomputable def aB(s:Stmt):Scope:=match s with
 | .FunctionDef _ _ _ _ _ _ sc _ _ _=>sc
 | _=> {kind:= .function,names:= [],isGenerator:=false,isCoroutine:=false}
noncomputable abbrev QR:Wc:=fun _ _ _ _ _ _=>False
noncomputable abbrev E0:XK:=fun _ _ _=>False
theorem K9{X:Cx}:Passes QR X E0:=fun _ _ _ _ _ _ _ h=>h.elim
structure Yq(K:PySem.W.Frag)(x qual:Str)(st:Stmt)(f:Addr)(fd:FuncData):Prop where
 ex:∃(oc:Value)(od:Option Addr)(kV doc pm:Value)(an:Option Addr)(cdv ct:Value)(osl:Array (Option Value)),
  fd=PySem.W.fnOf x qual (iW st) (gb st) (aB st) .none kV doc pm an cdv ct∧K.lookup f=some ⟨oc,od,.func fd,osl⟩∧PySem.W.codeIn K cdv qual=true
 kp:PySem.W.keepIn K (.ref f)=true
section
variable{P:Program}{w:World}{K:PySem.W.Frag}{mg:Str→Option Value}{base:Heap}
theorem Yq.ok {x qual:Str} {st:Stmt} {f:Addr} {fd:FuncData} {N ps:List Str} {k:Nat} {sp:Sp} (F:Yq K x qual st f fd) (S:aF N ps (aB st)) (len:∀vs H Q E,sp vs H Q E→vs.length=ps.length)
  (hbody:∀(cdv:Value)(A:Around)(outer:List Env)(s:Shared)(H:Hp)(vs:List V)(Q:VK)(E:XK),jK k (A.deeper (envOfC qual (aB st) s.heap.objs.size f cdv))→sp vs H Q E→
   ∃t,Nq (Kw QR P w K mg base N qual (aB st) f cdv A outer s H E).nox (gb st) t∧t {nx:=fun _ H'=>Q .non H',rt:=Q} (start N vs) H):Jd P w K mg base QR (k+1) f fd ps sp:=by
 obtain⟨oc,od,kV,doc,pm,an,cdv,ct,osl,rfl,lk,hcd⟩:=F.ex
 refine abu lk hcd S len fun A outer s H vs Q E hr hsp=> ?_
 obtain⟨t,h,q⟩:=hbody cdv A outer s H vs Q E hr hsp
 exact⟨t,h.nox,q⟩
theorem Yq.binds {x qual:Str} {st:Stmt} {f:Addr} {fd:FuncData} {ps:List Str} (F:Yq K x qual st f fd)
  (h:∀(kV doc pm:Value)(an:Option Addr)(cdv ct:Value)(us:List Value),us.length=ps.length→bindArgs (PySem.W.fnOf x qual (iW st) (gb st) (aB st) .none kV doc pm an cdv ct) ⟨us,[]⟩=pure (ps.zip us)):Binds K fd ps []:=by
 obtain⟨oc,od,kV,doc,pm,an,cdv,ct,osl,rfl,lk,hcd⟩:=F.ex
 exact .all (h kV doc pm an cdv ct)
theorem Uy{x qual:Str}{st:Stmt}{f:Addr}{oc:Value}{od an:Option Addr}{osl:Array (Option Value)}{kV doc pm cdv ct:Value}(l:K.lookup f=some ⟨oc,od,.func (PySem.W.fnOf x qual (iW st) (gb st) (aB st) .none kV doc pm an cdv ct),osl⟩)
 (c:PySem.W.codeIn K cdv qual=true) (k:PySem.W.keepIn K (.ref f)=true):Yq K x qual st f (PySem.W.fnOf x qual (iW st) (gb st) (aB st) .none kV doc pm an cdv ct):=⟨⟨oc,od,kV,doc,pm,an,cdv,ct,osl,rfl,l,c⟩,k⟩
end
theorem Hx{A:Around}{k:Nat}(hr:jK k A):A.units+1<cLine:=Nat.lt_of_le_of_lt (Nat.add_le_add_left (by decide:1≤64) _) hr.units
section
variable{X:Cx}
theorem pv(i:Nat){x:Str}{pos:Pos}(hN:X.N[i]? =some x:=by rfl)(hv:Vis X.env.scope x:=by first | exact Or.inl rfl | exact Or.inr (Or.inl rfl) | exact Or.inr (Or.inr rfl))(hd:(x==("__debug__" :Str))=false:=by decide)
 (hcd:(x==("__classdict__" :Str))=false:=by decide):PE X (.Name x pos) (CN i):=Zm hN hv hd hcd
end
theorem aef{A B:Prop}(h:B):if false=true then A else B:=by
 rw[if_neg Bool.false_ne_true]
 exact h
theorem Dl{A B:Prop}(h:A):if true=true then A else B:=by
 rw[if_pos rfl]
 exact h
noncomputable def bu(H H':Hp):Prop:=∀b o,H b=some o→H' b=some o
theorem bu.refl (H:Hp):bu H H:=fun _ _ h=>h
theorem bu.trans {H H1 H2:Hp} (a:bu H H1) (b:bu H1 H2):bu H H2:=fun c o h=>b c o (a c o h)
section
variable{κ:Type}[DecidableEq κ]
theorem Jm:∀ {l:List κ}{k:κ},l.Nodup→¬k ∈ l→(l ++ [k]).Nodup
 | [],k,_,_=>by simp
 | a::r,k,h,hk=>by
  obtain⟨h1,h2⟩:=List.nodup_cons.mp h
  show (a::(r ++ [k])).Nodup
  refine List.nodup_cons.mpr ⟨fun m=> ?_,Jm h2 fun m=>hk (List.mem_cons.mpr (Or.inr m))⟩
  rcases List.mem_append.mp m with q | q
  ·exact h1 q
  ·exact hk (List.mem_cons.mpr (Or.inl (List.mem_singleton.mp q).symm))
end
end L2
end
section
namespace Fs
open PySem PySem.Spec PyProof.Rows L2
theorem zip_get:∀ {ns:List Str}{vs:List V}{i:Nat}{f:Str}{v:V},ns.Nodup→ns[i]? =some f→vs[i]? =some v→(ns.zip vs).lookup f=some v
 | [],_,i,f,v,_,h,_=>by simp at h
 | n::ns,[],i,f,v,_,_,h=>by simp at h
 | n::ns,u::vs,0,f,v,_,h1,h2=>by
  simp at h1 h2
  subst h1;subst h2
  simp[List.zip_cons_cons,List.lookup_cons]
 | n::ns,u::vs,i+1,f,v,nd,h1,h2=>by
  rw[List.getElem?_cons_succ]at h1 h2
  have QS:=List.nodup_cons.mp nd
  have hne:f≠n:=fun e=>QS.1 (by rw[←e];exact List.mem_of_getElem? h1)
  rw[List.zip_cons_cons,List.lookup_cons]
  have:(f==n)=false:=by simpa using hne
  rw[this]
  exact zip_get QS.2 h1 h2
theorem Dm:∀ {ns:List Str}{vs:List V}{f:Str},f ∉ ns→(ns.zip vs).lookup f=none
 | [],_,_,_=>by simp
 | n::ns,[],_,_=>by simp
 | n::ns,u::vs,f,h=>by
  have hne:(f==n)=false:=by simpa using fun e=>h (by simp[e])
  rw[List.zip_cons_cons,List.lookup_cons,hne]
  exact Dm fun q=>h (by simp[q])
theorem Jo:∀ {ns:List Str}{vs:List V}{i:Nat}{f:Str}(v:V),ns.Nodup→ns[i]? =some f→i<vs.length→pJ f v (ns.zip vs)=ns.zip (vs.set i v)
 | [],_,i,f,v,_,h,_=>by simp at h
 | n::ns,[],i,f,v,_,_,h=>by simp at h
 | n::ns,u::vs,0,f,v,_,h1,_=>by
  simp at h1
  subst h1
  rw[List.zip_cons_cons,List.set_cons_zero,List.zip_cons_cons]
  show (if n=n then _ else _)=_
  rw[if_pos rfl]
 | n::ns,u::vs,i+1,f,v,nd,h1,h2=>by
  rw[List.getElem?_cons_succ]at h1
  have QS:=List.nodup_cons.mp nd
  have hne:¬n=f:=fun e=>QS.1 (by rw[e];exact List.mem_of_getElem? h1)
  rw[List.zip_cons_cons,List.set_cons_succ,List.zip_cons_cons]
  show (if n=f then _ else (n,u)::pJ f v (ns.zip vs))=_
  rw[if_neg hne,Jo v QS.2 h1 (by simpa using h2)]
theorem QT:∀ {ns:List Str}{vs:List V}{f:Str}(v:V),ns.Nodup→ns[vs.length]? =some f→pJ f v (ns.zip vs)=ns.zip (vs ++ [v])
 | [],vs,f,v,_,h=>by simp at h
 | n::ns,[],f,v,_,h=>by
  simp at h
  subst h
  simp[pJ]
 | n::ns,u::vs,f,v,nd,h1=>by
  rw[List.length_cons,List.getElem?_cons_succ]at h1
  have QS:=List.nodup_cons.mp nd
  have hne:¬n=f:=fun e=>QS.1 (by rw[e];exact List.mem_of_getElem? h1)
  rw[List.zip_cons_cons,List.cons_append,List.zip_cons_cons]
  show (if n=f then _ else (n,u)::pJ f v (ns.zip vs))=_
  rw[if_neg hne,QT v QS.2 h1]
structure Kl(K:PySem.W.Frag)(C:Addr)(ns:List Str):Prop where
 cl:Cls K C
 nd:ns.Nodup
 no:∀f ∈ ns,CW K C f
 sm:ns.length<100
theorem Jp{ns:List Str}{vs:List V}(h:ns.length<100):(ns.zip vs).length<1000:=by rw[List.length_zip];omega
noncomputable abbrev Io(C:Addr)(ns:List Str)(dx:Addr)(vs:List V):HO:= .ins C dx (ns.zip vs)
noncomputable def tF(C:Addr)(ns:List Str)(i:Nat)(ta:TE):TE:=fun σ H Q=>ta σ H fun x H1=>∃a dx vs v,x= .ref a∧H1 a=some (Io C ns dx vs)∧vs[i]? =some v∧Q v H1
noncomputable def sF(C:Addr)(ns:List Str)(i:Nat)(ta tv:TE):TS:=fun D σ H=>tv σ H fun y H1=>ta σ H1 fun x H2=>∃a dx vs,x= .ref a∧H2 a=some (Io C ns dx vs)∧i<vs.length∧D.nx σ (upd H2 a (Io C ns dx (vs.set i y)))
noncomputable def sFn(C:Addr)(ns:List Str)(i:Nat)(ta tv:TE):TS:=fun D σ H=>tv σ H fun y H1=>ta σ H1 fun x H2=>∃a dx vs,x= .ref a∧H2 a=some (Io C ns dx vs)∧vs.length=i∧D.nx σ (upd H2 a (Io C ns dx (vs ++ [y])))
noncomputable def sFa(C:Addr)(ns:List Str)(i:Nat)(ta tv:TE):TS:=fun D σ H=>ta σ H fun x H1=>∃a dx vs z,x= .ref a∧H1 a=some (Io C ns dx vs)∧vs[i]? =some (.int z)∧
 tv σ H1 fun y H2=>∃j,y= .int j∧H2 a=some (Io C ns dx vs)∧D.nx σ (upd H2 a (Io C ns dx (vs.set i (.int (z+j)))))
noncomputable def dZ(P:Program)(w:World)(K:PySem.W.Frag)(mg:Str→Option Value)(base:Heap)(k:Nat)(f:Addr)(ps:List Str)(sp:Sp):Prop:=∃fd,Jd P w K mg base QR k f fd ps sp∧Binds K fd ps []
structure GF(K:PySem.W.Frag)(mg:Str→Option Value)(x:Str)(st:Stmt)(f:Addr)(ps:List Str):Prop where
 g:mg x=some (.ref f)
 fn:∃fd,Yq K x x st f fd∧Binds K fd ps []
structure MF(K:PySem.W.Frag)(C:Addr)(ns:List Str)(m qual:Str)(st:Stmt)(f:Addr)(ps:List Str):Prop where
 mt:Meth K C m f
 nin:m ∉ ns
 fn:∃fd,Yq K m qual st f fd∧Binds K fd ps []
structure CF(K:PySem.W.Frag)(mg:Str→Option Value)(x:Str)(C f:Addr):Prop where
 g:mg x=some (.ref C)
 mkr:Mk K C f
noncomputable def tC0(sp:Sp)(t:TA):TE:=fun σ H Q=>t σ H fun vs H1=>sp vs H1 Q E0
noncomputable def tM(C:Addr)(ns:List Str)(sp:Sp)(ta:TE)(t:TA):TE:=fun σ H Q=>ta σ H fun x H1=>∃a dx vs,x= .ref a∧H1 a=some (Io C ns dx vs)∧t σ H1 fun us H2=>sp (.ref a::us) H2 Q E0
noncomputable def tMk(C:Addr)(ns:List Str)(sp:Sp)(t:TA):TE:=fun σ H Q=>t σ H fun vs H1=>∀x dx,H1 x=none→H1 dx=none→dx≠x→sp (.ref x::vs) (upd (upd H1 dx (.own x)) x (Io C ns dx [])) (fun v H2=>v= .non∧Q (.ref x) H2) E0
section
variable{X:Cx}{o e value:Expr}{es:List Expr}{f x m qual:Str}{p pos pos' tpos apos:Pos}{ta tv:TE}{t:TA}{C g:Addr}{ns ps:List Str}{st:Stmt}{sp:Sp}{n:Nat}
theorem bc(k:Kl X.K C ns)(i:Nat)(he:PE X e ta)(hi:ns[i]? =some f:=by rfl)(hb:attributeBase e f X.env (eval e X.env)=eval e X.env:=by rfl):PE X (.Attribute e f pos) (tF C ns i ta):=by
 intro pins s σ H Q I h
 refine Wy hb (dN (he pins s σ H _ I h) fun u s1 ⟨x,H1,I1,rx,a,dx,vs,v,ex,ea,hv,q⟩=> ?_)
 subst ex
 obtain rfl:u=Value.ref a:=rx
 exact CZ I1 ea k.cl (k.no f (List.mem_of_getElem? hi)) (zip_get k.nd hi hv) fun u' s2 I2 ru=>⟨v,H1,I2,ru,q⟩
theorem oH(k:Kl X.K C ns)(i:Nat)(ha:PE X o ta)(hv:PE X value tv)(hi:ns[i]? =some f:=by rfl)(hs:swapsWith value (some (.Attribute o f pos')) pos.line X.env=pure false:=by rfl):PS X (.Assign [.Attribute o f pos'] value pos) (sF C ns i ta tv):=by
 intro pins s σ H D I h
 refine plainObj_wpAny_Assign_Attribute (dN (hv pins s σ H _ I h) fun u s1 ⟨y,H1,I1,ry,q⟩=>dN (ha pins s1 σ H1 _ I1 q) fun ov s2 ⟨x,H2,I2,rx,a,dx,vs,ex,ea,l,q2⟩=> ?_) hs
 subst ex
 obtain rfl:ov=Value.ref a:=rx
 exact wI I2 ea k.cl (k.no f (List.mem_of_getElem? hi)) (Jp k.sm) ry fun s3 I3=>⟨σ,_,I3,by rw[Jo y k.nd hi l];exact q2⟩
theorem dw(k:Kl X.K C ns)(i:Nat)(ha:PE X o ta)(hv:PE X value tv)(hi:ns[i]? =some f:=by rfl)(hs:swapsWith value (some (.Attribute o f pos')) pos.line X.env=pure false:=by rfl):PS X (.Assign [.Attribute o f pos'] value pos) (sFn C ns i ta tv):=by
 intro pins s σ H D I h
 refine plainObj_wpAny_Assign_Attribute (dN (hv pins s σ H _ I h) fun u s1 ⟨y,H1,I1,ry,q⟩=>dN (ha pins s1 σ H1 _ I1 q) fun ov s2 ⟨x,H2,I2,rx,a,dx,vs,ex,ea,l,q2⟩=> ?_) hs
 subst ex
 obtain rfl:ov=Value.ref a:=rx
 exact wI I2 ea k.cl (k.no f (List.mem_of_getElem? hi)) (Jp k.sm) ry fun s3 I3=>⟨σ,_,I3,by rw[QT y k.nd (by rw[l];exact hi)];exact q2⟩
theorem Uz(k:Kl X.K C ns)(i:Nat)(ha:PE X o ta)(hv:PE X value tv)(hi:ns[i]? =some f:=by rfl):PS X (.AugAssign (.Attribute o f tpos) .Add value pos) (sFa C ns i ta tv):=by
 intro pins s σ H D I h
 refine wpAny_AugAssign_AttributeAny (dN (ha pins s σ H _ I h) fun ov s1 ⟨x,H1,I1,rx,a,dx,vs,z,ex,ea,l,q⟩=> ?_)
 subst ex
 obtain rfl:ov=Value.ref a:=rx
 refine CZ I1 ea k.cl (k.no f (List.mem_of_getElem? hi)) (zip_get k.nd hi l) fun u s2 I2 ru=>dN (hv pins s2 σ H1 _ I2 q) fun w3 s3 ⟨y,H2,I3,ry,j,ey,ea',q3⟩=> ?_
 subst ey
 refine dN (ZF pins s3 σ H2 (.int z) (.int j) u w3 (fun v H'=>v= .int (z+j)∧H'=H2) I3 ru ry ⟨z,j,rfl,rfl,rfl,rfl⟩) fun w4 s4 ⟨z',H3,I4,rz,e1,e2⟩=> ?_
 subst e1
 subst e2
 exact wI I4 ea' k.cl (k.no f (List.mem_of_getElem? hi)) (Jp k.sm) rz fun s5 I5=>⟨σ,_,I5,by rw[Jo _ k.nd hi (List.getElem?_eq_some_iff.mp l).1];exact q3⟩
theorem cC(F:dZ X.prog X.w X.K X.mg X.base n g ps sp)(hr:jK n X.A)(G:GF X.K X.mg x st g ps)(hg:Gl X x)(ha:PA X (e::es) t)(hdb:(x==("__debug__" :Str))=false:=by decide)
  (he:starEach (e::es) X.env=(false,eval e X.env)::starEach es X.env:=by rfl) (hpl:(backTo pos (starEach es X.env)).any (·.1)=false:=by rfl) (hx:Passes QR X E0:=by exact K9):
  PE X (.Call (.Name x p) (e::es) [] pos) (tC0 sp t):=by
 obtain⟨fd,F,b⟩:=F
 obtain⟨fd',F',_⟩:=G.fn
 intro pins s σ H Q I h
 refine wpAny_Call_Name_kw (Cv I hg G.g ?_ hdb)
 refine PySem.W.callWith_K (h₀:=X.base) I.ok.mod.kin F'.kp (dN (ha pos pins s σ H _ I h) fun us s1 ⟨vs,H1,I1,r,q⟩=>⟨I1.Kf,?_⟩) he hpl
 exact Oa F hr b .nil hx I1 r (by rw[List.append_nil];exact q)
theorem dJ{pl:Sem Bool}(k:Kl X.K C ns)(G:MF X.K C ns m qual st g ps)(F:dZ X.prog X.w X.K X.mg X.base n g ps sp)(hr:jK n X.A)(he:PE X o ta)(ha:PA X (e::es) t)
  (hst:starEach (e::es) X.env=(false,eval e X.env)::starEach es X.env:=by rfl) (hpl:(backTo pos (starEach es X.env)).any (·.1)=false:=by rfl)
  (ht:eval (.Call (.Attribute o m apos) (e::es) [] pos) X.env=(do
   let ov ←eval o X.env
   standAt apos.atName
   let (f,first) ←holding [ov] (getMethod ov m pl)
   callWith pos f first (backTo pos (starEach (e::es) X.env)) (backToKw pos (keywordEach [] X.env))):=by rfl) (hx:Passes QR X E0:=by exact K9):
  PE X (.Call (.Attribute o m apos) (e::es) [] pos) (tM C ns sp ta t):=by
 obtain⟨fd,F,b⟩:=F
 intro pins s σ H Q I h
 refine PySem.W.methodCall_KW (pl:=pl) (dN (he pins s σ H _ I h) fun u s1 ⟨x,H1,I1,rx,a,dx,vs,ex,ea,q⟩=> ?_) ht
 subst ex
 obtain rfl:u=Value.ref a:=rx
 refine Dc I1 ea k.cl G.mt (Dm G.nin) ?_
 refine PySem.W.callWith_K (first:= [.ref a]) (h₀:=X.base) I.ok.mod.kin G.mt.kp (dN (ha pos pins s1 σ H1 _ I1 q) fun us s2 ⟨vs,H2,I2,r,q2⟩=>⟨I2.Kf,?_⟩) hst hpl
 exact Oa (us:= .ref a::us) (vs:= .ref a::vs) F hr b .nil hx I2 (.cons rfl r) (by rw[List.append_nil];exact q2)
theorem cY{pl:Sem Bool}(k:Kl X.K C ns)(G:MF X.K C ns m qual st g ps)(F:dZ X.prog X.w X.K X.mg X.base n g ps sp)(hr:jK n X.A)(he:PE X o ta)
  (ht:eval (.Call (.Attribute o m apos) [] [] pos) X.env=(do
   let ov ←eval o X.env
   standAt apos.atName
   let (f,first) ←holding [ov] (getMethod ov m pl)
   callWith pos f first (backTo pos (starEach [] X.env)) (backToKw pos (keywordEach [] X.env))):=by rfl) (hx:Passes QR X E0:=by exact K9):
  PE X (.Call (.Attribute o m apos) [] [] pos) (tM C ns sp ta N7):=by
 obtain⟨fd,F,b⟩:=F
 intro pins s σ H Q I h
 refine PySem.W.methodCall_KW (pl:=pl) (dN (he pins s σ H _ I h) fun u s1 ⟨x,H1,I1,rx,a,dx,vs,ex,ea,q⟩=> ?_) ht
 subst ex
 obtain rfl:u=Value.ref a:=rx
 refine Dc I1 ea k.cl G.mt (Dm G.nin) ?_
 exact PySem.W.callWith_K0 (first:= [.ref a]) I1.Kf G.mt.kp (Oa (us:= [.ref a]) (vs:= [.ref a]) F hr b .nil hx I1 (.cons rfl .nil) q)
theorem QV(ns:List Str):ns.zip ([]:List V)= []:=by cases ns<;>rfl
theorem vI(k:Kl X.K C ns)(M:CF X.K X.mg x C g)(F:dZ X.prog X.w X.K X.mg X.base n g ps sp)(hr:jK (n+1) X.A)(hg:Gl X x)(ha:PA X (e::es) t)(hdb:(x==("__debug__" :Str))=false:=by decide)
  (he:starEach (e::es) X.env=(false,eval e X.env)::starEach es X.env:=by rfl) (hpl:(backTo pos (starEach es X.env)).any (·.1)=false:=by rfl) (hx:Passes QR X E0:=by exact K9):
  PE X (.Call (.Name x p) (e::es) [] pos) (tMk C ns sp t):=by
 obtain⟨fd,F,b⟩:=F
 intro pins s σ H Q I h
 refine wpAny_Call_Name_kw (Cv I hg M.g ?_ hdb)
 refine PySem.W.callWith_K (h₀:=X.base) I.ok.mod.kin M.mkr.kp (dN (ha pos pins s σ H _ I h) fun us s1 ⟨vs,H1,I1,r,q⟩=>⟨I1.Kf,?_⟩) he hpl
 exact Kv M.mkr F hr b .nil hx I1 r (by intro x dx h1 h2 h3;rw[List.append_nil,←QV ns];exact q x dx h1 h2 h3)
theorem Dn(k:Kl X.K C ns)(M:CF X.K X.mg x C g)(F:dZ X.prog X.w X.K X.mg X.base n g ps sp)(hr:jK (n+1) X.A)(hg:Gl X x)(hdb:(x==("__debug__" :Str))=false:=by decide)(hx:Passes QR X E0:=by exact K9):
  PE X (.Call (.Name x p) [] [] pos) (tMk C ns sp N7):=by
 obtain⟨fd,F,b⟩:=F
 intro pins s σ H Q I h
 refine wpAny_Call_Name_kw (Cv I hg M.g ?_ hdb)
 exact PySem.W.callWith_K0 I.Kf M.mkr.kp (Kv (us:= []) M.mkr F hr b .nil hx I .nil (by intro x dx h1 h2 h3;rw[←QV ns];exact h x dx h1 h2 h3))
theorem bD{i:Int}(h:∃t,X.mg x=some (.int i t))(hg:Gl X x:=by rfl)(hd:(x==("__debug__" :Str))=false:=by decide):PE X (.Name x pos) (tC (.int i)):=by
 obtain⟨t,h⟩:=h
 exact IV hg h ⟨t,rfl⟩ hd
theorem vJ{z:Str}(h:∃t,X.mg x=some (.str z t))(hg:Gl X x:=by rfl)(hd:(x==("__debug__" :Str))=false:=by decide):PE X (.Name x pos) (tC (.str z)):=by
 obtain⟨t,h⟩:=h
 exact IV hg h ⟨t,rfl⟩ hd
theorem QW{a:Addr}(h:X.mg x=some (.ref a))(hg:Gl X x:=by rfl)(hd:(x==("__debug__" :Str))=false:=by decide):PE X (.Name x pos) (tC (.ref a)):=IV hg h rfl hd
theorem GF.ok {P:Program} {w:World} {K:PySem.W.Frag} {mg:Str→Option Value} {base:Heap} {N:List Str} {k:Nat} (F:GF K mg x st g ps) (S:aF N ps (aB st)) (len:∀vs H Q E,sp vs H Q E→vs.length=ps.length)
  (hbody:∀(cdv:Value)(A:Around)(outer:List Env)(s:Shared)(H:Hp)(vs:List V)(Q:VK)(E:XK),jK k (A.deeper (envOfC x (aB st) s.heap.objs.size g cdv))→sp vs H Q E→
   ∃t,Nq (Kw QR P w K mg base N x (aB st) g cdv A outer s H E).nox (gb st) t∧t {nx:=fun _ H'=>Q .non H',rt:=Q} (start N vs) H):dZ P w K mg base (k+1) g ps sp:=by
 obtain⟨fd,F,b⟩:=F.fn
 exact⟨fd,F.ok S len hbody,b⟩
theorem MF.ok {P:Program} {w:World} {K:PySem.W.Frag} {mg:Str→Option Value} {base:Heap} {N:List Str} {k:Nat} (F:MF K C ns m qual st g ps) (S:aF N ps (aB st)) (len:∀vs H Q E,sp vs H Q E→vs.length=ps.length)
  (hbody:∀(cdv:Value)(A:Around)(outer:List Env)(s:Shared)(H:Hp)(vs:List V)(Q:VK)(E:XK),jK k (A.deeper (envOfC qual (aB st) s.heap.objs.size g cdv))→sp vs H Q E→
   ∃t,Nq (Kw QR P w K mg base N qual (aB st) g cdv A outer s H E).nox (gb st) t∧t {nx:=fun _ H'=>Q .non H',rt:=Q} (start N vs) H):dZ P w K mg base (k+1) g ps sp:=by
 obtain⟨fd,F,b⟩:=F.fn
 exact⟨fd,F.ok S len hbody,b⟩
end
end Fs
end
section
set_option maxHeartbeats 4000000
namespace Fs
open PySem PySem.Spec PyProof.Rows L2 PySem.Builtin PySem.Builtin.Str PySem.StrLaws
theorem Jq{lo n k:Nat}(h1:lo≤k)(h2:k<lo+n):k ∈ List.range' lo n:=by rw[List.mem_range'_1];omega
theorem uU{x:Str}{c hi i:Nat}(hh:hi≤x.length):At x ⟨#[c]⟩ hi i↔i<hi∧x.cps.toList[i]? =some c:=by
 have e1:(⟨#[c]⟩:Str).length=1:=rfl
 constructor
 ·rintro⟨h1,h2⟩
  rw[e1]at h1
  exact⟨by omega,(subAt_one x c i).mp ⟨by rw[e1];omega,h2⟩⟩
 ·rintro⟨h1,h2⟩
  exact⟨by rw[e1];omega,((subAt_one x c i).mpr h2).2⟩
theorem UG(x:Str)(c a b:Nat)(hb:b≤x.length):
  (occurrences x ⟨#[c]⟩ a b 1= []∧∀v,a≤v→v<b→x.cps.toList[v]? ≠some c)∨
  ∃k r,occurrences x ⟨#[c]⟩ a b 1=k::r∧a≤k∧k<b∧x.cps.toList[k]? =some c∧∀v,a≤v→v<k→x.cps.toList[v]? ≠some c:=by
 rw[occ_eq]
 rcases occ_first x ⟨#[c]⟩ b 1 (Nat.le_refl 1) (List.range' a (b+1-a)) a (fun i hi=>by have:=List.mem_range'_1.mp hi;omega)with ⟨h0,hn⟩ | ⟨pre,k,post,e,h0,hk,hn⟩
 ·refine .inl ⟨by rw[h0],fun v h1 h2 he=> ?_⟩
  exact hn v (Jq h1 (by omega)) ((uU hb).mpr ⟨h2,he⟩)
 ·have hs:=range'_split_from e
  obtain⟨hk1,hk2⟩:=(uU hb).mp hk
  refine .inr ⟨k,((forIn (List.range' a (b+1-a)) ((#[]:Array Nat),a) (occBody x ⟨#[c]⟩ b 1)).run.fst.toList).tail,?_,hs.1,hk1,hk2,fun v h1 h2 he=>hn v (hs.2 v h1 h2) ((uU hb).mpr ⟨by omega,he⟩)⟩
  generalize (forIn (List.range' a (b+1-a)) ((#[]:Array Nat),a) (occBody x ⟨#[c]⟩ b 1)).run.fst=arr at h0
  have h1:arr.toList[0]? =some k:=by simpa using h0
  cases hL:arr.toList with
  | nil=>rw[hL]at h1;cases h1
  | cons q t=>rw[hL]at h1;simp at h1;rw[h1];rfl
theorem W7(x:Str)(c a b:Nat)(hb:b≤x.length):
  (lastOccurrence x ⟨#[c]⟩ a b=none∧∀v,a≤v→v<b→x.cps.toList[v]? ≠some c)∨
  ∃k,lastOccurrence x ⟨#[c]⟩ a b=some k∧a≤k∧k<b∧x.cps.toList[k]? =some c∧∀v,k<v→v<b→x.cps.toList[v]? ≠some c:=by
 rw[last_eq]
 have key:=last_run x ⟨#[c]⟩ b (List.range' a (b+1-a)) [] none (fun _ h=>nomatch h) (fun _ h=>nomatch h) (by simpa using List.pairwise_lt_range' (s:=a) (n:=b+1-a))
 rw[List.nil_append]at key
 have from_:∀(l:List Nat)(st:Option Nat),(∀k,st=some k→a≤k)→(∀i ∈ l,a≤i)→∀k,(forIn l st (lastBody x ⟨#[c]⟩ b)).run=some k→a≤k:=by
  intro l
  induction l with
  | nil=>intro st h _ k e;exact h k e
  | cons i l ih=>
   intro st h hl k e
   rw[List.forIn_cons]at e
   unfold lastBody at e
   split at e
   ·exact ih (some i) (fun k e=>by cases e;exact hl i (by simp)) (fun j hj=>hl j (by simp[hj])) k e
   ·exact ih st h (fun j hj=>hl j (by simp[hj])) k e
 cases hr:(forIn (List.range' a (b+1-a)) none (lastBody x ⟨#[c]⟩ b)).run with
 | none=>
  rw[hr]at key
  exact .inl ⟨rfl,fun v h1 h2 he=>key v (Jq h1 (by omega)) ((uU hb).mpr ⟨h2,he⟩)⟩
 | some k=>
  rw[hr]at key
  obtain⟨hk1,hk2⟩:=(uU hb).mp key.1
  have hak:=from_ _ none (fun k e=>nomatch e) (fun i hi=>(List.mem_range'_1.mp hi).1) k hr
  exact .inr ⟨k,rfl,hak,hk1,hk2,fun v h1 h2 he=>key.2 v (Jq (by omega) (by omega)) h1 ((uU hb).mpr ⟨h2,he⟩)⟩
theorem kj(n k:Nat):fromIndex n (k:Int)=k:=by
 unfold fromIndex
 rw[if_neg (by omega)]
 omega
theorem Lb(x y:Str)(i j:Int)(t u v v2:Tok):Gives («str.find» ⟨[.str x t,.str y u,.int i v,.int j v2],[]⟩) (.int (match occurrences x y (fromIndex x.length i) (min (fromIndex x.length j) x.length) 1 with | k::_=>(k:Int) | []=> -1)):=by
 show Gives (match occurrences x y (fromIndex x.length i) (min (fromIndex x.length j) x.length) 1 with | k::_=>retInt k | []=>(do rule "str.find.not-found";retInt (-1))) _
 cases occurrences x y (fromIndex x.length i) (min (fromIndex x.length j) x.length) 1 with
 | nil=>exact .rule (.of_eq rfl)
 | cons k _=>exact .of_eq rfl
theorem Jr(x y:Str)(i j:Int)(t u v v2:Tok):Gives («str.rfind» ⟨[.str x t,.str y u,.int i v,.int j v2],[]⟩) (.int (match lastOccurrence x y (fromIndex x.length i) (min (fromIndex x.length j) x.length)with | some k=>(k:Int) | none=> -1)):=by
 show Gives (match lastOccurrence x y (fromIndex x.length i) (min (fromIndex x.length j) x.length)with | some k=>retInt k | none=>(do rule "str.rfind.not-found";retInt (-1))) _
 cases lastOccurrence x y (fromIndex x.length i) (min (fromIndex x.length j) x.length)with
 | none=>exact .rule (.of_eq rfl)
 | some k=>exact .of_eq rfl
noncomputable def abK:V→List V→Hp→VK→Prop:=fun x xs H Q=>∃(z:Str)(c a b:Nat),x= .str z∧xs= [.str ⟨#[c]⟩,.int (a:Int),.int (b:Int)]∧b≤z.length∧
 ((∀v,a≤v→v<b→z.cps.toList[v]? ≠some c)→Q (.int (-1)) H)∧∀k:Nat,a≤k→k<b→z.cps.toList[k]? =some c→(∀v,a≤v→v<k→z.cps.toList[v]? ≠some c)→Q (.int (k:Int)) H
noncomputable def aaf:V→List V→Hp→VK→Prop:=fun x xs H Q=>∃(z:Str)(c a b:Nat),x= .str z∧xs= [.str ⟨#[c]⟩,.int (a:Int),.int (b:Int)]∧b≤z.length∧
 ((∀v,a≤v→v<b→z.cps.toList[v]? ≠some c)→Q (.int (-1)) H)∧∀k:Nat,a≤k→k<b→z.cps.toList[k]? =some c→(∀v,k<v→v<b→z.cps.toList[v]? ≠some c)→Q (.int (k:Int)) H
theorem vals3{x y z:V}{us:List Value}(r:Vals [x,y,z] us):∃u v w,us= [u,v,w]∧RelV x u∧RelV y v∧RelV z w:=by
 cases r with
 | cons a r=>cases r with
  | cons b r=>cases r with
   | cons c r=>cases r;exact⟨_,_,_,rfl,a,b,c⟩
section
variable{X:Cx}
theorem Ld:Ui X "str.find" abK:=by
 intro pins s σ H x xs v us Q I rx rs h
 obtain⟨z,c,a,b,rfl,rfl,hb,q1,q2⟩:=h
 obtain⟨t,rfl⟩:=(show ∃t,v=Value.str z t from rx)
 obtain⟨u1,u2,u3,rfl,⟨t1,rfl⟩,⟨t2,rfl⟩,⟨t3,rfl⟩⟩:=vals3 rs
 refine call_gives PySem.F.slot_str_find (typeIs_str _ _ _) PySem.F.entry_str_find (PySem.F.args_str_find_4 _ _ _ _) (Lb z _ (a:Int) (b:Int) t t1 t2 t3) ?_
 have e1:min (fromIndex z.length (b:Int)) z.length=b:=by rw[kj,Nat.min_eq_left hb]
 rw[kj,e1]
 rcases UG z c a b hb with ⟨e,hn⟩ | ⟨k,r,e,h1,h2,h3,h4⟩
 ·rw[e];exact⟨.int (-1),H,I.tok _,⟨_,rfl⟩,q1 hn⟩
 ·rw[e];exact⟨.int (k:Int),H,I.tok _,⟨_,rfl⟩,q2 k h1 h2 h3 h4⟩
theorem RW:Ui X "str.rfind" aaf:=by
 intro pins s σ H x xs v us Q I rx rs h
 obtain⟨z,c,a,b,rfl,rfl,hb,q1,q2⟩:=h
 obtain⟨t,rfl⟩:=(show ∃t,v=Value.str z t from rx)
 obtain⟨u1,u2,u3,rfl,⟨t1,rfl⟩,⟨t2,rfl⟩,⟨t3,rfl⟩⟩:=vals3 rs
 refine call_gives PySem.F.slot_str_rfind (typeIs_str _ _ _) PySem.F.entry_str_rfind (PySem.F.args_str_rfind_4 _ _ _ _) (Jr z _ (a:Int) (b:Int) t t1 t2 t3) ?_
 have e1:min (fromIndex z.length (b:Int)) z.length=b:=by rw[kj,Nat.min_eq_left hb]
 rw[kj,e1]
 rcases W7 z c a b hb with ⟨e,hn⟩ | ⟨k,e,h1,h2,h3,h4⟩
 ·rw[e];exact⟨.int (-1),H,I.tok _,⟨_,rfl⟩,q1 hn⟩
 ·rw[e];exact⟨.int (k:Int),H,I.tok _,⟨_,rfl⟩,q2 k h1 h2 h3 h4⟩
noncomputable def W8(K:PySem.W.Frag):V→List V→Hp→VK→Prop:=fun x xs H Q=>∃(a:Addr)(ns:List Int)(k:Int),x= .ref a∧xs= [.int k]∧bj K H a (ns.map V.int)∧Q (.int (ns.count k:Nat)) H
theorem RX:Ui X "list.count" (W8 X.K):=by
 intro pins s σ H x xs v us Q I rx rs h
 obtain⟨a,ns,k,rfl,rfl,hs,q⟩:=h
 obtain rfl:v=Value.ref a:=rx
 obtain⟨u,rfl,t,rfl⟩:=vals1 rs
 obtain⟨its,rv,hl,_⟩:=I.list hs
 exact count_list_ints hl.isList rv.ints ⟨.int _,H,I.tok _,⟨_,rfl⟩,q⟩
noncomputable def abL:R2:=fun x y H Q=>∃(c k:Nat),x= .str ⟨#[c]⟩∧y= .int (k:Int)∧k≤1048576∧Q (.str ⟨(List.replicate k c).toArray⟩) H
theorem Dq:wH X (binaryOp .Mult) abL:=by
 intro pins s σ H x y v u Q I rx ry h
 obtain⟨c,k,rfl,rfl,hk,q⟩:=h
 obtain⟨t,rfl⟩:=(show ∃t,v=Value.str ⟨#[c]⟩ t from rx)
 obtain⟨t',rfl⟩:=(show ∃t,u=Value.int (k:Int) t from ry)
 refine SB.mul (mulOk_of 1 1048576 (Nat.le_refl 1) (by omega) (by omega) (by decide) (by decide)) fun t2 tk=> ?_
 have e:Txt.mul ⟨#[c]⟩ (k:Int)=⟨(List.replicate k c).toArray⟩:=by
  have:=mul_one_list c (k:Int)
  rw[Int.toNat_natCast]at this
  exact TL.wJ this
 rw[e]
 exact⟨.str _,H,I.tok _,⟨_,rfl⟩,q⟩
noncomputable def tFs(x y:Str)(tb:TE):TE:=fun σ H Q=>tb σ H fun v H1=>∃i:Int,v= .int i∧i.natAbs.log2<1920∧(Str.ofString (toString i)).length≤100∧Q (.str (x++Str.ofString (toString i)++y)) H1
theorem W9{b:Expr}{tb:TE}{x y:Str}{j1 j2 p1 p2 p3 pos}(hb:PE X b tb)(hx:x.length≤100:=by decide)(hy:y.length≤100:=by decide):
  PE X (.JoinedStr [.Constant (.str x) j1 p1,.FormattedValue b (-1) none p2,.Constant (.str y) j2 p3] pos) (tFs x y tb):=by
 intro pins s σ H Q I h
 have e0:Str.empty++x=x:=TL.wJ (by rw[TL.uT];rfl)
 refine JoinedStr_many (joinParts_cons (wpAny_Constant_str ?_))
 refine⟨by rw[e0,sizeLine_eq];omega,?_⟩
 refine joinParts_cons (PyProof.Rows.FormattedValue_plain (dN (hb pins _ σ H _ (I.tok _) h) fun v s1 ⟨u,H1,I1,ru,i,eu,hd,hl,q⟩=> ?_))
 subst eu
 obtain⟨t,rfl⟩:=ru
 have l2:(x++Str.ofString (toString i)).length≤200:=by rw[strLen_append];omega
 refine formatField_int_small hd ⟨by rw[e0,sizeLine_eq];exact Nat.le_trans l2 (by decide),?_⟩
 refine joinParts_cons (wpAny_Constant_str ⟨by rw[e0,sizeLine_eq,strLen_append];exact Nat.le_trans (Nat.add_le_add l2 hy) (by decide),?_⟩)
 refine joinParts_nil ⟨.str _,H1,((I1.tok _).tok _).tok _,⟨_,rfl⟩,?_⟩ (by rw[e0,sizeLine_eq,strLen_append];exact Nat.le_trans (Nat.add_le_add l2 hy) (by decide))
 rw[e0]
 exact q
theorem xZ(K:PySem.W.Frag)(n:Nat){es:List Expr}{k:Nat}{t:Yj}{pos:Pos}(hc:X.calm=true)(h:PGs X es t)(hK:X.K=K:=by rfl)(hn:(assignEach es X.env).length=n:=by rfl)(hst:(assignEach es X.env).findIdx? (·.1)=none:=by rfl):
 PG X (.Tuple es k pos) (abi K n t):=by subst hK;exact Zv hc h hn hst
theorem aO(K:PySem.W.Frag)(hK:X.K=K:=by rfl):WK X (ZP K):=by subst hK;exact WL
theorem jC(K:PySem.W.Frag)(hK:X.K=K:=by rfl):WK X (ZQ K):=by subst hK;exact ZR
theorem cA(K:PySem.W.Frag)(hK:X.K=K:=by rfl):Wd X (Uj K):=by subst hK;exact WM
theorem QX(K:PySem.W.Frag)(hK:X.K=K:=by rfl):Wd X (ZL K):=by subst hK;exact ZM
end
end Fs
end
section
set_option maxHeartbeats 4000000
namespace Fs
open PySem PySem.Spec PyProof.Rows L2
section
variable{prog:Program}{w:World}{A:Around}{E:Value→Shared→Prop}{s:Shared}
theorem yc{it l:Addr}{i:Nat}{items:Array Value}{x:Value}{Q:Value→Shared→Prop}(hit:s.heap.IsTupleIter it l i)(hl:s.heap.IsTuple l items)(hx:items[i]? =some x)
  (hQ:∀h',h'.IsTupleIter it l (i+1)→Heap.SameBut it s.heap h'→Q x {s with heap:=h'}):wpAny (model prog w) A (Builtin.SmallTypes.nextOf (.ref it)) Q E s:=by
 obtain⟨o,ho,hc,hd⟩:=id hit
 obtain⟨ol,hol,_,nl,hdl⟩:=hl
 unfold Builtin.SmallTypes.nextOf
 refine wpAny_bind (wpAny_callSpecial?_slot (name:=Str.ofString "__next__") hit.typeIs PySem.F.slot_tuple_iterator_next
  (wpAny_call_entry PySem.F.slot_tuple_iterator_next hit.typeIs PySem.F.entry_tuple_iterator_next ?_ (PySem.F.args_tuple_iterator_next_1 _)))
 show wpAny _ _ (field (.ref it) 0 >>= _) _ _ s
 refine wpAny_bind (wpAny_field ho hd (x:= .ref l) rfl ?_)
 show wpAny _ _ (if (Value.ref l==Value.none)=true then _ else _) _ _ s
 rw[if_neg (show ¬((Value.ref l==Value.none)=true) from Bool.false_ne_true)]
 show wpAny _ _ (field (.ref it) 1 >>= _) _ _ s
 refine wpAny_bind (wpAny_field ho hd (x:= .int i 0) rfl ?_)
 show wpAny _ _ (seqItems? (.ref l) >>= _) _ _ s
 refine wpAny_bind (wpAny_seqItems hol hdl ?_)
 simp only[Int.toNat_natCast,hx]
 refine wpAny_bind (wpAny_setField ho hd (by simp) (wpAny_pure ⟨x,rfl,wpAny_pure (hQ _ ?_ (Heap.SameBut.update ..))⟩))
 exact⟨_,Heap.get?_update_self _ ho (Obj.isFreed_of_fields (Obj.data_mapFields hd _)),(Obj.cls_mapFields ..).trans hc,by
  rw[Obj.data_mapFields hd];simp[rawInt]⟩
theorem zG{it l:Addr}{i:Nat}{items:Array Value}{Q:Value→Shared→Prop}(hh:A.handled=none)(hit:s.heap.IsTupleIter it l i)(hl:s.heap.IsTuple l items)(hx:items[i]? =none)
  (hE:∀h' e,Heap.ExtBut it s.heap h'→(∃o,h'.get? e=some o∧o.cls= .type "StopIteration")→E (.ref e) {s with heap:=h'}):
  wpAny (model prog w) A (Builtin.SmallTypes.nextOf (.ref it)) Q E s:=by
 obtain⟨o,ho,hc,hd⟩:=id hit
 obtain⟨ol,hol,_,nl,hdl⟩:=hl
 unfold Builtin.SmallTypes.nextOf
 refine wpAny_bind (wpAny_callSpecial?_slot (name:=Str.ofString "__next__") hit.typeIs PySem.F.slot_tuple_iterator_next
  (wpAny_call_entry PySem.F.slot_tuple_iterator_next hit.typeIs PySem.F.entry_tuple_iterator_next ?_ (PySem.F.args_tuple_iterator_next_1 _)))
 show wpAny _ _ (field (.ref it) 0 >>= _) _ _ s
 refine wpAny_bind (wpAny_field ho hd (x:= .ref l) rfl ?_)
 show wpAny _ _ (if (Value.ref l==Value.none)=true then _ else _) _ _ s
 rw[if_neg (show ¬((Value.ref l==Value.none)=true) from Bool.false_ne_true)]
 show wpAny _ _ (field (.ref it) 1 >>= _) _ _ s
 refine wpAny_bind (wpAny_field ho hd (x:= .int i 0) rfl ?_)
 show wpAny _ _ (seqItems? (.ref l) >>= _) _ _ s
 refine wpAny_bind (wpAny_seqItems hol hdl ?_)
 simp only[Int.toNat_natCast,hx]
 refine wpAny_bind (wpAny_rule (wpAny_bind (wpAny_setField ho hd (by simp) ?_)))
 show wpAny _ _ (newExc (.type "StopIteration") [] >>= _) _ _ _
 refine wpAny_bind ?_
 simp only[newExc,newTuple]
 refine wpAny_bind (wpAny_newObj_type ?_ (by size_fits))
 refine wpAny_bind (m:=firstArgMember _ _) (wpAny_of_eq (a:=Value.none) (by first | rfl | (simp only[firstArgMember];rfl)) ?_)
 refine wpAny_newObj_type ?_ (by size_fits)
 simp only[raiseNew]
 refine wpAny_bind (wpAny_handled ?_)
 first | rw[show A.in1.handled=none from hh] | rw[hh]
 refine wpAny_bind (wpAny_pure (wpAny_throw ?_))
 exact hE _ _ (((Heap.SameBut.update ..).extBut.push _).push _) ⟨_,Heap.get?_push_size _ rfl,rfl⟩
end
theorem Om{prog:Program}{w:World}{A:Around}(hh:A.handled=none)(it l:Addr)(hne:l≠it)(items:Array Value):
  Draws prog w A it [it,l] items.size (fun i v=>items[i]? =some v) (fun i h=>h.IsTupleIter it l i∧h.IsTuple l items) where
 live:=fun _ _ st=>let ⟨o,ho,_⟩:=st.1;⟨o,ho⟩
 frame:=fun _ _ _ st hk=>⟨st.1.at fun o e=>hk it (by simp) o e,let ⟨o,ho,r⟩:=st.2;⟨o,hk l (by simp) o ho,r⟩⟩
 item:=fun i s Q E hi st hQ=>by
  refine yc st.1 st.2 (x:=items[i]) (by simp[hi]) fun h' hit' hs'=> ?_
  exact hQ _ h' s.toks (by simp[hi]) ⟨hit',st.2.extBut hs'.extBut hne⟩ hs'
 done:=fun s Q E st hE=>zG hh st.1 st.2 (by simp) hE
noncomputable abbrev jO(h:Heap)(T:Addr)(a b c:Value):Prop:=h.get? T=some {cls:= .type "tuple",data:= .seq #[a,b,c]}
structure Z3(z TI TO i1 i2 i3:Addr)(f1 f2 f3:List Addr):Prop where
 nd: [z,TI,TO,i1,i2,i3].Nodup
 o1:∀b ∈ f1,b≠z∧b≠TO∧b≠i2∧b≠i3
 o2:∀b ∈ f2,b≠z∧b≠TO∧b≠i1∧b≠i3
 o3:∀b ∈ f3,b≠z∧b≠TO∧b≠i1∧b≠i2
section
variable{prog:Program}{w:World}{A:Around}{E:Value→Shared→Prop}{s:Shared}
theorem oJ{T:Addr}{a b c x:Value}{k:Nat}{Q:Unit→Shared→Prop}(hT:jO s.heap T a b c)
  (h:∀h',h'.get? T=some {cls:= .type "tuple",data:= .seq ((#[a,b,c]:Array Value).setIfInBounds k x)}→Heap.SameBut T s.heap h'→Q () {s with heap:=h'}):
  wpAny (model prog w) A (updateSeq T (·.setIfInBounds k x)) Q E s:=by
 refine wpAny_updateSeq hT rfl (h _ ?_ (Heap.SameBut.update ..))
 rw[Heap.get?_update_self _ hT rfl]
 simp[Obj.mapSeq]
theorem RZ{z TI TO i1 i2 i3:Addr}{f1 f2 f3:List Addr}{n1 n2 n3 k:Nat}{P1 P2 P3:Nat→Value→Prop}{S1 S2 S3:Nat→Heap→Prop}{a b c:Value}{Q:Option Value→Shared→Prop}
  (D1:Draws prog w A.in1 i1 f1 n1 P1 S1) (D2:Draws prog w A.in1 i2 f2 n2 P2 S2) (D3:Draws prog w A.in1 i3 f3 n3 P3 S3) (Z:Z3 z TI TO i1 i2 i3 f1 f2 f3)
  (hz:IsZip s.heap z TI TO .none) (hTI:jO s.heap TI (.ref i1) (.ref i2) (.ref i3)) (hTO:jO s.heap TO a b c) (h1:S1 k s.heap) (h2:S2 k s.heap) (h3:S3 k s.heap) (k1:k<n1) (k2:k<n2) (k3:k<n3)
  (hQ:∀h' tk x y v,P1 k x→P2 k y→P3 k v→IsZip h' z TI TO (rawInt s.heap.objs.size)→jO h' TI (.ref i1) (.ref i2) (.ref i3)→jO h' TO x y v→S1 (k+1) h'→S2 (k+1) h'→S3 (k+1) h'→jO h' s.heap.objs.size x y v→
   (∀c o,c≠z→c≠TO→c≠i1→c≠i2→c≠i3→s.heap.get? c=some o→h'.get? c=some o)→Q (some (.ref s.heap.objs.size)) {s with heap:=h',toks:=tk}):
  wpAny (model prog w) A (pyNext (.ref z)) Q E s:=by
 have hT:s.TypeIs (.ref z) "zip" :=⟨_,hz,rfl⟩
 have nd:=Z.nd
 simp only[List.nodup_cons,List.mem_cons,List.not_mem_nil,or_false,not_or,List.nodup_nil,and_true,not_false_eq_true]at nd
 obtain⟨⟨zTI,Ys,Xa,zi2,zi3⟩,⟨tT,t1,t2,t3⟩,⟨o1,o2,o3⟩,⟨i12,i13⟩,i23⟩:=nd
 have st:∀ {D:Addr}{h h':Heap},Heap.SameBut D h h'→∀b o,b≠D→h.get? b=some o→h'.get? b=some o:=fun hs b o hb e=>(hs.2 b hb).trans e
 unfold pyNext
 refine wpAny_bind (wpAny_attempt (wpAny_callSpecial?_slot (name:=Str.ofString "__next__") hT PySem.F.slot_zip_next
  (wpAny_call_entry PySem.F.slot_zip_next hT PySem.F.entry_zip_next ?_ (PySem.F.args_zip_next_1 _))))
 show wpAny _ _ (field (.ref z) 2 >>= _) _ _ _
 refine wpAny_bind (wpAny_field hz rfl (x:= .bool false) rfl ?_)
 show wpAny _ _ (field (.ref z) 3 >>= _) _ _ _
 refine wpAny_bind (wpAny_field hz rfl (x:= .ref TI) rfl ?_)
 refine wpAny_bind (wpAny_seqItems hTI rfl ?_)
 show wpAny _ _ (Builtin.SmallTypes.ownedTupleIsFree (.ref z) >>= _) _ _ _
 refine wpAny_bind ?_
 unfold Builtin.SmallTypes.ownedTupleIsFree
 refine wpAny_bind (wpAny_field hz rfl (x:= .none) rfl (wpAny_pure ?_))
 simp only[if_true]
 refine wpAny_bind (wpAny_rule ?_)
 refine wpAny_bind (wpAny_field hz rfl (x:= .ref TO) rfl ?_)
 refine wpAny_bind (wpAny_setField_rec hz (by simp) fun h₁ hz₁ hs₁=> ?_)
 replace hz₁:IsZip h₁ z TI TO .ellipsis:=hz₁
 refine wpAny_bind ?_
 simp only[List.zipIdx_cons,List.zipIdx_nil,List.forIn_cons,List.forIn_nil]
 refine wpAny_bind (wpAny_bind (wpAny_onRaise ?_))
 show wpAny _ _ (Builtin.SmallTypes.nextOf (.ref i1) >>= _) _ _ _
 refine wpAny_bind (D1.item k _ _ _ k1 (D1.frame k _ _ h1 fun b hb o e=>st hs₁ b o (Z.o1 b hb).1 e) fun x h₂ tk₂ px S1' hs₂=>wpAny_pure ?_)
 have hTO₂:jO h₂ TO a b c:=st hs₂ _ _ o1 (st hs₁ _ _ (Ne.symm Ys) hTO)
 refine wpAny_bind (wpAny_seqItems hTO₂ rfl ?_)
 refine wpAny_bind (oJ hTO₂ fun h₃ hTO₃ hs₃=> ?_)
 replace hTO₃:jO h₃ TO x b c:=hTO₃
 refine wpAny_bind (wpAny_letGo (wpAny_pure ?_))
 refine wpAny_bind (wpAny_bind (wpAny_onRaise ?_))
 show wpAny _ _ (Builtin.SmallTypes.nextOf (.ref i2) >>= _) _ _ _
 refine wpAny_bind (D2.item k _ _ _ k2 (D2.frame k _ _ h2 fun b hb o e=>st hs₃ b o (Z.o2 b hb).2.1 (st hs₂ b o (Z.o2 b hb).2.2.1 (st hs₁ b o (Z.o2 b hb).1 e))) fun y h₄ tk₄ py S2' hs₄=>wpAny_pure ?_)
 have hTO₄:jO h₄ TO x b c:=st hs₄ _ _ o2 hTO₃
 refine wpAny_bind (wpAny_seqItems hTO₄ rfl ?_)
 refine wpAny_bind (oJ hTO₄ fun h₅ hTO₅ hs₅=> ?_)
 replace hTO₅:jO h₅ TO x y c:=hTO₅
 refine wpAny_bind (wpAny_letGo (wpAny_pure ?_))
 refine wpAny_bind (wpAny_bind (wpAny_onRaise ?_))
 show wpAny _ _ (Builtin.SmallTypes.nextOf (.ref i3) >>= _) _ _ _
 refine wpAny_bind (D3.item k _ _ _ k3 (D3.frame k _ _ h3 fun b hb o e=>st hs₅ b o (Z.o3 b hb).2.1 (st hs₄ b o (Z.o3 b hb).2.2.2 (st hs₃ b o (Z.o3 b hb).2.1 (st hs₂ b o (Z.o3 b hb).2.2.1 (st hs₁ b o (Z.o3 b hb).1 e))))) fun v h₆ tk₆ pv S3' hs₆=>wpAny_pure ?_)
 have UJ:jO h₆ TO x y c:=st hs₆ _ _ o3 hTO₅
 refine wpAny_bind (wpAny_seqItems UJ rfl ?_)
 refine wpAny_bind (oJ UJ fun h₇ Js hs₇=> ?_)
 replace Js:jO h₇ TO x y v:=Js
 refine wpAny_bind (wpAny_letGo (wpAny_pure (wpAny_pure ?_)))
 refine wpAny_bind (wpAny_seqItems Js rfl ?_)
 refine wpAny_bind (wpAny_newTuple ?_)
 have hsz:h₇.objs.size=s.heap.objs.size:=by rw[hs₇.1,hs₆.1,hs₅.1,hs₄.1,hs₃.1,hs₂.1,hs₁.1]
 have hz₇:IsZip h₇ z TI TO .ellipsis:=st hs₇ _ _ Ys (st hs₆ _ _ zi3 (st hs₅ _ _ Ys (st hs₄ _ _ zi2 (st hs₃ _ _ Ys (st hs₂ _ _ Xa hz₁)))))
 have Yt:∀c o,c≠z→c≠TO→c≠i1→c≠i2→c≠i3→s.heap.get? c=some o→h₇.get? c=some o:=fun c o c1 c2 c3 c4 c5 e=>
  st hs₇ _ _ c2 (st hs₆ _ _ c5 (st hs₅ _ _ c2 (st hs₄ _ _ c4 (st hs₃ _ _ c2 (st hs₂ _ _ c3 (st hs₁ _ _ c1 e))))))
 have hS1:S1 (k+1) h₇:=D1.frame _ _ _ S1' fun b hb o e=>st hs₇ b o (Z.o1 b hb).2.1 (st hs₆ b o (Z.o1 b hb).2.2.2 (st hs₅ b o (Z.o1 b hb).2.1 (st hs₄ b o (Z.o1 b hb).2.2.1 (st hs₃ b o (Z.o1 b hb).2.1 e))))
 have hS2:S2 (k+1) h₇:=D2.frame _ _ _ S2' fun b hb o e=>st hs₇ b o (Z.o2 b hb).2.1 (st hs₆ b o (Z.o2 b hb).2.2.2 (st hs₅ b o (Z.o2 b hb).2.1 e))
 have hS3:S3 (k+1) h₇:=D3.frame _ _ _ S3' fun b hb o e=>st hs₇ b o (Z.o3 b hb).2.1 e
 have hzlt:z<h₇.objs.size:=Heap.lt_size hz₇
 show wpAny _ _ (Builtin.SmallTypes.ownedTupleHandOut (.ref z) (.ref h₇.objs.size) >>= _) _ _ _
 refine wpAny_bind ?_
 unfold Builtin.SmallTypes.ownedTupleHandOut
 have hz₈:IsZip (h₇.push {cls:= .type "tuple",data:= .seq #[x,y,v]}) z TI TO .ellipsis:=Heap.get?_push_of_some _ hz₇
 refine wpAny_bind (wpAny_setField_rec hz₈ (by simp) fun h₉ UL Yu=> ?_)
 replace UL:IsZip h₉ z TI TO (rawInt h₇.objs.size):=UL
 refine wpAny_setField_rec UL (by simp) fun h₁₀ yd Le=> ?_
 replace yd:IsZip h₁₀ z TI TO (rawInt h₇.objs.size):=yd
 have up:∀c o,c≠z→h₇.get? c=some o→h₁₀.get? c=some o:=fun c o c1 e=>st Le _ _ c1 (st Yu _ _ c1 (Heap.get?_push_of_some _ e))
 have Lf:jO h₁₀ h₇.objs.size x y v:=st Le _ _ (Nat.ne_of_gt hzlt) (st Yu _ _ (Nat.ne_of_gt hzlt) (Heap.get?_push_size _ rfl))
 rw[hsz]at yd Lf
 refine wpAny_pure ⟨_,rfl,wpAny_pure ?_⟩
 show Q (some (.ref h₇.objs.size)) _
 rw[hsz]
 exact hQ h₁₀ _ x y v px py pv yd (up _ _ (Ne.symm zTI) (Yt _ _ (Ne.symm zTI) tT t1 t2 t3 hTI)) (up _ _ (Ne.symm Ys) Js) (D1.frame _ _ _ hS1 fun b hb o e=>up b o (Z.o1 b hb).1 e) (D2.frame _ _ _ hS2 fun b hb o e=>up b o (Z.o2 b hb).1 e) (D3.frame _ _ _ hS3 fun b hb o e=>up b o (Z.o3 b hb).1 e) Lf
  fun c o c1 c2 c3 c4 c5 e=>up c o c1 (Yt c o c1 c2 c3 c4 c5 e)
theorem UT{z TI TO i1 i2 i3:Addr}{f1:List Addr}{n1:Nat}{P1:Nat→Value→Prop}{S1:Nat→Heap→Prop}{Q:Option Value→Shared→Prop}
  (D1:Draws prog w A.in1 i1 f1 n1 P1 S1) (o1:∀b ∈ f1,b≠z) (Xa:z≠i1)
  (hz:IsZip s.heap z TI TO .none) (hTI:jO s.heap TI (.ref i1) (.ref i2) (.ref i3)) (h1:S1 n1 s.heap)
  (hQ:∀h',(∀c o,c≠z→c≠i1→s.heap.get? c=some o→h'.get? c=some o)→Q none {s with heap:=h'}):wpAny (model prog w) A (pyNext (.ref z)) Q E s:=by
 have hT:s.TypeIs (.ref z) "zip" :=⟨_,hz,rfl⟩
 unfold pyNext
 refine wpAny_bind (wpAny_attempt (wpAny_callSpecial?_slot (name:=Str.ofString "__next__") hT PySem.F.slot_zip_next
  (wpAny_call_entry PySem.F.slot_zip_next hT PySem.F.entry_zip_next ?_ (PySem.F.args_zip_next_1 _))))
 show wpAny _ _ (field (.ref z) 2 >>= _) _ _ _
 refine wpAny_bind (wpAny_field hz rfl (x:= .bool false) rfl ?_)
 show wpAny _ _ (field (.ref z) 3 >>= _) _ _ _
 refine wpAny_bind (wpAny_field hz rfl (x:= .ref TI) rfl ?_)
 refine wpAny_bind (wpAny_seqItems hTI rfl ?_)
 show wpAny _ _ (Builtin.SmallTypes.ownedTupleIsFree (.ref z) >>= _) _ _ _
 refine wpAny_bind ?_
 unfold Builtin.SmallTypes.ownedTupleIsFree
 refine wpAny_bind (wpAny_field hz rfl (x:= .none) rfl (wpAny_pure ?_))
 simp only[if_true]
 refine wpAny_bind (wpAny_rule ?_)
 refine wpAny_bind (wpAny_field hz rfl (x:= .ref TO) rfl ?_)
 refine wpAny_bind (wpAny_setField_rec hz (by simp) fun h₁ hz₁ hs₁=> ?_)
 replace hz₁:IsZip h₁ z TI TO .ellipsis:=hz₁
 refine wpAny_bind ?_
 simp only[List.zipIdx_cons,List.zipIdx_nil,List.forIn_cons,List.forIn_nil]
 refine wpAny_bind (wpAny_bind (wpAny_onRaise ?_))
 show wpAny _ _ (Builtin.SmallTypes.nextOf (.ref i1) >>= _) _ _ _
 refine wpAny_bind (D1.done _ _ _ (D1.frame _ _ _ h1 fun b hb o e=>(hs₁.2 b (o1 b hb)).trans e) fun h₂ e hs₂ he=> ?_)
 obtain⟨oe,hoe,hce⟩:=he
 have hz₂:IsZip h₂ z TI TO .ellipsis:=hs₂ _ _ Xa hz₁
 have hez:e≠z:=fun x=>by subst x;rw[hz₂]at hoe;cases hoe;simp at hce
 refine wpAny_setField_rec hz₂ (by simp) fun h₃ _ hs₃=> ?_
 refine wpAny_bind (wpAny_isInstance (T:= "StopIteration") (b:=true) ⟨oe,(hs₃.2 e hez).trans hoe,hce⟩ isSubtype_stop ?_)
 exact wpAny_pure (hQ _ fun c o c1 c2 x=>(hs₃.2 c c1).trans (hs₂ _ _ c2 ((hs₁.2 c c1).trans x)))
end
end Fs
end
section
set_option maxHeartbeats 4000000
namespace Fs
open PySem PySem.Spec PyProof.Rows L2
structure Src(P:Program)(w:World)(K:PySem.W.Frag)(i1:Addr)(zs:List V)(kp:Hp→Prop)(st:Nat→Heap→Prop):Prop where
 obj:∀i h,st i h→∃o,h.get? i1=some o∧∀v,o.data≠ .cell v
 keep:∀i h h',st i h→(∀o,h.get? i1=some o→h'.get? i1=some o)→st i h'
 dr:∀(X:Cx),X.prog=P→X.w=w→X.K=K→X.calm=true→∀(pins:List (Addr × Obj))(s:Shared)(σ:L2.St)(H:Hp),L2.Inv X pins σ H s→kp H→H i1=none→
  ∃(f1:List Addr)(P1:Nat→Value→Prop)(S1:Nat→Heap→Prop),Draws P w X.A.in1 i1 f1 zs.length P1 S1∧(∀i,st i s.heap→S1 i s.heap)∧(∀i h',S1 i h'→st i h')∧(∀b ∈ f1,b=i1∨∃o,H b=some o)∧∀i v,P1 i v→∃x,zs[i]? =some x∧RelV x v
noncomputable def Xb(zs xs ys:List V)(a b:Addr)(kp:Hp→Prop):It:=
 ⟨fun i H=>i<zs.length∧kp H∧H a=some (.lst xs)∧H b=some (.lst ys),fun i H v H'=>∃T x y z,v= .ref T∧H T=none∧H'=upd H T (.tup [x,y,z])∧zs[i]? =some x∧xs[i]? =some y∧ys[i]? =some z,
  fun i H=>i=zs.length∧kp H∧H a=some (.lst xs)∧H b=some (.lst ys)⟩
theorem R0{P:Program}{w:World}{K:PySem.W.Frag}{elts:List Expr}{kk:Nat}{tpos:Pos}{a b z TI TO i1 i2 i3:Addr}{zs xs ys:List V}{kp:Hp→Prop}{st:Nat→Heap→Prop}
  (nd: [z,TI,TO,i1,i2,i3].Nodup) (S:Src P w K i1 zs kp st) (l1:xs.length=zs.length) (l2:ys.length=zs.length):
  Turn P w K (.Tuple elts kk tpos) (Xb zs xs ys a b kp) [z,TI,TO,i1,i2,i3] z (fun i h=>IsZip h z TI TO .none∧jO h TI (.ref i1) (.ref i2) (.ref i3)∧(∃x y v,jO h TO x y v)∧st i h∧h.IsListIter i2 a i∧h.IsListIter i3 b i) where
 mem:=by simp
 obj:=fun i h q c hc=>by
  obtain⟨hz,hTI,⟨x,y,v,hTO⟩,h1,⟨o2,e2,_,d2⟩,⟨o3,e3,_,d3⟩⟩:=q
  have e':c=z∨c=TI∨c=TO∨c=i1∨c=i2∨c=i3:=by simpa using hc
  rcases e' with q | q | q | q | q | q
  ·rw[q];exact⟨_,hz,fun v q=>nomatch q⟩
  ·rw[q];exact⟨_,hTI,fun v q=>nomatch q⟩
  ·rw[q];exact⟨_,hTO,fun v q=>nomatch q⟩
  ·rw[q];exact S.obj i h h1
  ·rw[q];exact⟨o2,e2,fun v q=>by rw[d2]at q;cases q⟩
  ·rw[q];exact⟨o3,e3,fun v q=>by rw[d3]at q;cases q⟩
 keep:=fun i h h' q k=>by
  obtain⟨hz,hTI,⟨x,y,v,hTO⟩,h1,h2,h3⟩:=q
  exact⟨k z (by simp) _ hz,k TI (by simp) _ hTI,⟨x,y,v,k TO (by simp) _ hTO⟩,S.keep i h h' h1 fun o q=>k i1 (by simp) o q,h2.at fun o q=>k i2 (by simp) o q,h3.at fun o q=>k i3 (by simp) o q⟩
 item:=by
  intro X hP hw hK hc i pins s σ H E I hf q hg
  obtain⟨hz,hTI,⟨x0,y0,v0,hTO⟩,h1,h2,h3⟩:=q
  obtain⟨hi,hkp,ha,hb⟩:=hg
  have fr:∀c ∈ [z,TI,TO,i1,i2,i3],H c=none:=fun c hc=>(hf c hc).1
  obtain⟨f1,P1,S1,D1,s1a,s1b,o1,p1⟩:=S.dr X hP hw hK hc pins s σ H I hkp (fr i1 (by simp))
  subst hP hw hK
  have hh:=I.ok.hd hc
  obtain⟨its,rv,pl,_⟩:=I.list (bj.of (K:=X.K) ha)
  obtain⟨its2,W4,pl2,_⟩:=I.list (bj.of (K:=X.K) hb)
  have tr:∀ {c d:Addr}{o:HO},c ∈ [z,TI,TO,i1,i2,i3]→H d=some o→d≠c:=fun hc e=>ao e (fr _ hc)
  have D2:=Draws.list (prog:=X.prog) (w:=X.w) (A:=X.A.in1) hh i2 a (tr (by simp) ha) its.toArray
  have D3:=Draws.list (prog:=X.prog) (w:=X.w) (A:=X.A.in1) hh i3 b (tr (by simp) hb) its2.toArray
  have QS:=nd
  simp only[List.nodup_cons,List.mem_cons,List.not_mem_nil,or_false,not_or,List.nodup_nil,and_true,not_false_eq_true]at QS
  obtain⟨⟨zTI,Ys,Xa,zi2,zi3⟩,⟨tT,t1,t2,t3⟩,⟨w1,w2,w3⟩,⟨i12,i13⟩,i23⟩:=QS
  have Z:Z3 z TI TO i1 i2 i3 f1 [i2,a] [i3,b]:=⟨nd,fun c hcm=>by
    rcases o1 c hcm with rfl | ⟨o,e⟩
    ·exact⟨Ne.symm Xa,Ne.symm w1,i12,i13⟩
    ·exact⟨tr (by simp) e,tr (by simp) e,tr (by simp) e,tr (by simp) e⟩,fun c hcm=>by
    have e':c=i2∨c=a:=by simpa using hcm
    rcases e' with rfl | rfl
    ·exact⟨Ne.symm zi2,Ne.symm w2,Ne.symm i12,i23⟩
    ·exact⟨tr (by simp) ha,tr (by simp) ha,tr (by simp) ha,tr (by simp) ha⟩,fun c hcm=>by
    have e':c=i3∨c=b:=by simpa using hcm
    rcases e' with rfl | rfl
    ·exact⟨Ne.symm zi3,Ne.symm w3,Ne.symm i13,Ne.symm i23⟩
    ·exact⟨tr (by simp) hb,tr (by simp) hb,tr (by simp) hb,tr (by simp) hb⟩⟩
  have n2:its.toArray.size=zs.length:=by simp;rw[←rv.length];exact l1
  have n3:its2.toArray.size=zs.length:=by simp;rw[←W4.length];exact l2
  have hzl:z<s.heap.objs.size:=Heap.lt_size hz
  refine RZ D1 D2 D3 Z hz hTI hTO (s1a i h1) ⟨h2,pl.isList⟩ ⟨h3,pl2.isList⟩ hi (by omega) (by omega) fun h' tk u1 u2 u3 q1 q2 q3 z' TI' TO' st1 st2 st3 hT hk=> ?_
  refine⟨_,rfl,wpAny_letOwnedTupleGo_zip (s:= {s with heap:=h',toks:=tk}) z' fun h'' z'' sb=> ?_⟩
  obtain⟨x,ex,rx⟩:=p1 i u1 q1
  have q2':its[i]? =some u2:=by simpa using q2
  have q3':its2[i]? =some u3:=by simpa using q3
  have hix:i<xs.length:=by omega
  have hiy:i<ys.length:=by omega
  obtain⟨u2',hu2,ru2⟩:=rv.get (List.getElem?_eq_getElem hix)
  obtain⟨u3',hu3,ru3⟩:=W4.get (List.getElem?_eq_getElem hiy)
  obtain rfl:u2'=u2:=Option.some.inj (hu2.symm.trans q2')
  obtain rfl:u3'=u3:=Option.some.inj (hu3.symm.trans q3')
  have hT2:h''.get? s.heap.objs.size=some {cls:= .type "tuple",data:= .seq #[u1,u2',u3']}:=(sb.2 _ (Nat.ne_of_gt hzl)).trans hT
  have new:fJ X.prog X.w (upd H s.heap.objs.size (.tup [x,xs[i],ys[i]])) h'' s.heap.objs.size (.tup [x,xs[i],ys[i]]):=
   ⟨by show 3≤sizeLine;decide,[u1,u2',u3'],.cons rx (.cons ru2 (.cons ru3 .nil)),⟨_,hT2,rfl,_,rfl⟩⟩
  have I1:L2.Inv X pins σ (upd H s.heap.objs.size (.tup [x,xs[i],ys[i]])) {s with heap:=h'',toks:=tk}:=
   I.uQ (t':=tk) (ch:= [z,TI,TO,i1,i2,i3]) (fun c o hb q=>(sb.2 c (fun q'=>hb (by simp[q']))).trans (hk c o (fun q'=>hb (by simp[q'])) (fun q'=>hb (by simp[q'])) (fun q'=>hb (by simp[q'])) (fun q'=>hb (by simp[q'])) (fun q'=>hb (by simp[q'])) q)) hf (Nat.le_refl _) new
  refine⟨.ref s.heap.objs.size,_,I1,rfl,⟨_,x,_,_,rfl,I.hok.fresh (Nat.le_refl _),rfl,ex,List.getElem?_eq_getElem hix,List.getElem?_eq_getElem hiy⟩,⟨z'',?_,⟨u1,u2',u3',?_⟩,?_,?_,?_⟩,fun c hcm=> ?_⟩
  ·exact(sb.2 _ (Ne.symm zTI)).trans TI'
  ·exact(sb.2 _ (Ne.symm Ys)).trans TO'
  ·exact S.keep _ _ _ (s1b _ _ st1) fun o q=>(sb.2 _ (Ne.symm Xa)).trans q
  ·exact st2.1.at fun o q=>(sb.2 _ (Ne.symm zi2)).trans q
  ·exact st3.1.at fun o q=>(sb.2 _ (Ne.symm zi3)).trans q
  ·have hlt:c<s.heap.objs.size:=by
    have e':c=z∨c=TI∨c=TO∨c=i1∨c=i2∨c=i3:=by simpa using hcm
    rcases e' with q | q | q | q | q | q
    ·rw[q];exact hzl
    ·rw[q];exact Heap.lt_size hTI
    ·rw[q];exact Heap.lt_size hTO
    ·rw[q];obtain⟨_,e1,_⟩:=S.obj i _ h1;exact Heap.lt_size e1
    ·rw[q];obtain⟨_,e1,_⟩:=h2;exact Heap.lt_size e1
    ·rw[q];obtain⟨_,e2,_⟩:=h3;exact Heap.lt_size e2
   rw[bF (Nat.ne_of_lt hlt)]
   exact(hf c hcm).1
 done:=by
  intro X hP hw hK hc i pins s σ H E I hf q hg
  obtain⟨hz,hTI,⟨x0,y0,v0,hTO⟩,h1,h2,h3⟩:=q
  obtain⟨rfl,hkp,ha,hb⟩:=hg
  have fr:∀c ∈ [z,TI,TO,i1,i2,i3],H c=none:=fun c hc=>(hf c hc).1
  obtain⟨f1,P1,S1,D1,s1a,s1b,o1,p1⟩:=S.dr X hP hw hK hc pins s σ H I hkp (fr i1 (by simp))
  subst hP hw hK
  have QS:=nd
  simp only[List.nodup_cons,List.mem_cons,List.not_mem_nil,or_false,not_or,List.nodup_nil,and_true,not_false_eq_true]at QS
  obtain⟨⟨zTI,Ys,Xa,zi2,zi3⟩,_⟩:=QS
  refine UT D1 (fun c hcm=> ?_) Xa hz hTI (s1a _ h1) fun h' hk=>⟨rfl,I.QG (t':=s.toks) (ch:= [z,TI,TO,i1,i2,i3]) (fun c o hb q=>hk c o (fun q'=>hb (by simp[q'])) (fun q'=>hb (by simp[q'])) q) hf⟩
  rcases o1 c hcm with rfl | ⟨o,e⟩
  ·exact Ne.symm Xa
  ·exact ao e (fr z (by simp))
 self:=fun A i s Q E st h=>wpAny_pyIter_zip st.1 h
theorem aag{P:Program}{w:World}{K:PySem.W.Frag}(i1:Addr)(x:Str)(t:Tok):Src P w K i1 (x.cps.toList.map fun c=>V.str ⟨#[c]⟩) (fun _=>True) (fun i h=>h.IsStrIter i1 "str_ascii_iterator" x t i) where
 obj:=fun i h st=>by obtain⟨o,e,c,d⟩:=st;exact⟨o,e,fun v z=>by rw[d]at z;cases z⟩
 keep:=fun i h h' st k=>let ⟨o,ho,r⟩:=st;⟨o,k o ho,r⟩
 dr:=fun X hP hw hK hc pins s σ H I _ _=>by
  subst hP hw hK
  have hl:(x.cps.toList.map fun c=>V.str ⟨#[c]⟩).length=x.cps.size:=by simp
  rw[hl]
  refine⟨[i1],_,_,Draws.strAscii (prog:=X.prog) (w:=X.w) (A:=X.A.in1) (I.ok.hd hc) i1 x t,fun _ h=>h,fun _ _ h=>h,fun b hb=> .inl (by simpa using hb),?_⟩
  rintro i v ⟨c,u,hc,rfl⟩
  refine⟨.str ⟨#[c]⟩,?_,u,rfl⟩
  rw[List.getElem?_map,Array.getElem?_toList,hc];rfl
theorem aah{P:Program}{w:World}{K:PySem.W.Frag}(i1 t:Addr)(zs:List V):Src P w K i1 zs (fun H=>H t=some (.tup zs)) (fun i h=>h.IsTupleIter i1 t i) where
 obj:=fun i h st=>by obtain⟨o,e,c,d⟩:=st;exact⟨o,e,fun v z=>by rw[d]at z;cases z⟩
 keep:=fun i h h' st k=>st.at fun o e=>k o e
 dr:=fun X hP hw hK hc pins s σ H I hk hi=>by
  subst hP hw hK
  obtain⟨its,rv,p,_⟩:=I.tuple (iT.of (K:=X.K) hk)
  have hl:zs.length=its.toArray.size:=by simp;exact rv.length
  rw[hl]
  refine⟨[i1,t],_,_,Om (prog:=X.prog) (w:=X.w) (A:=X.A.in1) (I.ok.hd hc) i1 t (ao hk hi) its.toArray,fun _ h=>⟨h,p⟩,fun _ _ h=>h.1,fun b hb=> ?_,?_⟩
  ·have e':b=i1∨b=t:=by simpa using hb
   rcases e' with rfl | rfl
   ·exact .inl rfl
   ·exact .inr ⟨_,hk⟩
  ·intro i v hv
   have hv':its[i]? =some v:=by simpa using hv
   have hi:i<zs.length:=by rw[rv.length];exact(List.getElem?_eq_some_iff.mp hv').1
   obtain⟨u,hu,ru⟩:=rv.get (List.getElem?_eq_getElem hi)
   obtain rfl:u=v:=Option.some.inj (hu.symm.trans hv')
   exact⟨_,List.getElem?_eq_getElem hi,ru⟩
noncomputable abbrev zk1(h:Heap)(o1:Obj):Heap:=h.push o1
noncomputable abbrev zk2(h:Heap)(o1:Obj)(l2:Addr):Heap:=(zk1 h o1).push {cls:= .type "list_iterator",data:= .fields #[.ref l2,.int 0 0]}
noncomputable abbrev zk3(h:Heap)(o1:Obj)(l2 l3:Addr):Heap:=(zk2 h o1 l2).push {cls:= .type "list_iterator",data:= .fields #[.ref l3,.int 0 0]}
noncomputable abbrev zk4(h:Heap)(o1:Obj)(l2 l3:Addr):Heap:=(zk3 h o1 l2 l3).push {cls:= .type "tuple",data:= .seq #[.ref h.objs.size,.ref (zk1 h o1).objs.size,.ref (zk2 h o1 l2).objs.size]}
noncomputable abbrev zk5(h:Heap)(o1:Obj)(l2 l3:Addr):Heap:=(zk4 h o1 l2 l3).push {cls:= .type "tuple",data:= .seq #[.none,.none,.none]}
noncomputable abbrev Wg(h:Heap)(o1:Obj)(l2 l3:Addr):Heap:=(zk5 h o1 l2 l3).push {cls:= .type "zip",data:= .fields #[.none,.bool false,.bool false,.ref (zk3 h o1 l2 l3).objs.size,.ref (zk4 h o1 l2 l3).objs.size]}
theorem vK(v:Value)(o1:Obj)(pre:Shared→Prop)(l2 l3:Addr)(ys zs:Array Value)(hI:∀ {prog:Program}{w:World}{A:Around}{Q:Value→Shared→Prop}{E:Value→Shared→Prop}{s:Shared},pre s→Q (.ref s.heap.objs.size) {s with heap:=s.heap.push o1}→wpAny (model prog w) A (pyIter v) Q E s):
  Meets (Builtin.«zip.__new__» ⟨[.type "zip",v,.ref l2,.ref l3],[]⟩) (fun _ R s=>pre s∧s.heap.IsList l2 ys∧s.heap.IsList l3 zs∧
   R (.ok (.ret (.ref (zk5 s.heap o1 l2 l3).objs.size))) {s with heap:=Wg s.heap o1 l2 l3}):=
 .of_wp fun prog w A R s h=>by
  obtain⟨hp,g,d,tk,os⟩:=s;obtain⟨ht,hl2,hl3,h⟩:=h
  have hsub:=sub_zip
  have hL2:Heap.IsList (Shared.heap ⟨hp.push o1,g,d,tk,os⟩) l2 ys:=Heap.IsList.push hl2 _
  have hL3:Heap.IsList (Shared.heap ⟨(hp.push o1).push {cls:= .type "list_iterator",data:= .fields #[.ref l2,.int 0 0]},g,d,tk,os⟩) l3 zs:=Heap.IsList.push (Heap.IsList.push hl3 _) _
  wp_walk using hI ht,wpAny_pyIter_list hL2,wpAny_pyIter_list hL3
  exact⟨_,rfl,h⟩
theorem Gs(x:Str)(t:Tok)(l2 l3:Addr)(ys zs:Array Value)(ha:x.cps.all (· < 128)=true):
  Meets (Builtin.«zip.__new__» ⟨[.type "zip",.str x t,.ref l2,.ref l3],[]⟩) (fun _ R s=>True∧s.heap.IsList l2 ys∧s.heap.IsList l3 zs∧
   R (.ok (.ret (.ref (zk5 s.heap {cls:= .type "str_ascii_iterator",data:= .fields #[.str x t,.int 0 0]} l2 l3).objs.size))) {s with heap:=Wg s.heap {cls:= .type "str_ascii_iterator",data:= .fields #[.str x t,.int 0 0]} l2 l3}):=
 vK _ _ (fun _=>True) l2 l3 ys zs fun _=>wpAny_pyIter_ascii ha
theorem Gu(t l2 l3:Addr)(xs ys zs:Array Value):
  Meets (Builtin.«zip.__new__» ⟨[.type "zip",.ref t,.ref l2,.ref l3],[]⟩) (fun _ R s=>s.heap.IsTuple t xs∧s.heap.IsList l2 ys∧s.heap.IsList l3 zs∧
   R (.ok (.ret (.ref (zk5 s.heap {cls:= .type "tuple_iterator",data:= .fields #[.ref t,.int 0 0]} l2 l3).objs.size))) {s with heap:=Wg s.heap {cls:= .type "tuple_iterator",data:= .fields #[.ref t,.int 0 0]} l2 l3}):=
 vK _ _ (fun s=>s.heap.IsTuple t xs) l2 l3 ys zs wpAny_pyIter_tuple
end Fs
end
section
set_option maxHeartbeats 4000000
namespace Fs
open PySem PySem.Spec PyProof.Rows L2
theorem tD(a b c:Value):checkTypeCall "zip" ⟨[a,b,c],[]⟩=pure ():=by kernel_rfl
theorem vL(a b c:Value):checkBuiltinCall "zip.__new__" ⟨[.type "zip",a,b,c],[]⟩=pure ():=by kernel_rfl
theorem mW(a b c d:Value):argsOk "object.__init__" ⟨[a,b,c,d],[]⟩:=by
 unfold argsOk;rw[signature?_of (id:= "object.__init__") (n:= ['_', '_', 't', 'i', 'n', 'i', '_', '_']) (o:= ['t', 'c', 'e', 'j', 'b', 'o']) (by kernel_rfl) PySem.F.owner_object];kernel_rfl
section
variable{prog:Program}{w:World}{A:Around}{E:Value→Shared→Prop}{s:Shared}
noncomputable def Jt(s:Shared)(o1:Obj)(l2 l3:Addr)(h':Heap):Prop:=
 IsZip h' (s.heap.objs.size+5) (s.heap.objs.size+3) (s.heap.objs.size+4) .none∧jO h' (s.heap.objs.size+3) (.ref s.heap.objs.size) (.ref (s.heap.objs.size+1)) (.ref (s.heap.objs.size+2))∧
  jO h' (s.heap.objs.size+4) .none .none .none∧h'.get? s.heap.objs.size=some o1∧h'.IsListIter (s.heap.objs.size+1) l2 0∧h'.IsListIter (s.heap.objs.size+2) l3 0∧∀c o,s.heap.get? c=some o→h'.get? c=some o
theorem Yv(o1:Obj)(l2 l3:Addr)(hf:o1.isFreed=false):(zk5 s.heap o1 l2 l3).objs.size=s.heap.objs.size+5∧Jt s o1 l2 l3 (Wg s.heap o1 l2 l3):=by
 have z1:(zk1 s.heap o1).objs.size=s.heap.objs.size+1:=Heap.size_push ..
 have z2:(zk2 s.heap o1 l2).objs.size=s.heap.objs.size+2:=by rw[Heap.size_push,z1]
 have z3:(zk3 s.heap o1 l2 l3).objs.size=s.heap.objs.size+3:=by rw[Heap.size_push,z2]
 have z4:(zk4 s.heap o1 l2 l3).objs.size=s.heap.objs.size+4:=by rw[Heap.size_push,z3]
 have z5:(zk5 s.heap o1 l2 l3).objs.size=s.heap.objs.size+5:=by rw[Heap.size_push,z4]
 have g6:(Wg s.heap o1 l2 l3).get? (zk5 s.heap o1 l2 l3).objs.size=some _:=Heap.get?_push_size _ rfl
 have g5:(Wg s.heap o1 l2 l3).get? (zk4 s.heap o1 l2 l3).objs.size=some _:=Heap.get?_push_of_some _ (Heap.get?_push_size _ rfl)
 have g4:(Wg s.heap o1 l2 l3).get? (zk3 s.heap o1 l2 l3).objs.size=some _:=Heap.get?_push_of_some _ (Heap.get?_push_of_some _ (Heap.get?_push_size _ rfl))
 have g3:(Wg s.heap o1 l2 l3).get? (zk2 s.heap o1 l2).objs.size=some _:=Heap.get?_push_of_some _ (Heap.get?_push_of_some _ (Heap.get?_push_of_some _ (Heap.get?_push_size _ rfl)))
 have g2:(Wg s.heap o1 l2 l3).get? (zk1 s.heap o1).objs.size=some _:=Heap.get?_push_of_some _ (Heap.get?_push_of_some _ (Heap.get?_push_of_some _ (Heap.get?_push_of_some _ (Heap.get?_push_size _ rfl))))
 have g1:(Wg s.heap o1 l2 l3).get? s.heap.objs.size=some o1:=Heap.get?_push_of_some _ (Heap.get?_push_of_some _ (Heap.get?_push_of_some _ (Heap.get?_push_of_some _ (Heap.get?_push_of_some _ (Heap.get?_push_size _ hf)))))
 rw[z3,z4,z5]at g6
 rw[z4]at g5
 rw[z1,z2,z3]at g4
 rw[z2]at g3
 rw[z1]at g2
 exact⟨z5,g6,g4,g5,g1,⟨_,g2,rfl,rfl⟩,⟨_,g3,rfl,rfl⟩,fun c o x=>
  Heap.get?_push_of_some _ (Heap.get?_push_of_some _ (Heap.get?_push_of_some _ (Heap.get?_push_of_some _ (Heap.get?_push_of_some _ (Heap.get?_push_of_some _ x)))))⟩
theorem Ju{x:Str}{t:Tok}{l2 l3:Addr}{ys zs:Array Value}{Q:Value→Shared→Prop}(ha:x.cps.all (· < 128)=true)(hl2:s.heap.IsList l2 ys)(hl3:s.heap.IsList l3 zs)
  (h:∀h',Jt s {cls:= .type "str_ascii_iterator",data:= .fields #[.str x t,.int 0 0]} l2 l3 h'→Q (.ref (s.heap.objs.size+5)) {s with heap:=h'}):wpAny (model prog w) A (call (.type "zip") [.str x t,.ref l2,.ref l3]) Q E s:=by
 refine callType_new PySem.F.called_zip (by decide) (tD _ _ _) (vL _ _ _) (fun obj=>mW obj _ _ _) PySem.F.entry_zip_new (Gs x t l2 l3 ys zs ha) ⟨trivial,hl2,hl3,?_⟩
 obtain⟨z5,Z⟩:=Yv (s:=s) {cls:= .type "str_ascii_iterator",data:= .fields #[.str x t,.int 0 0]} l2 l3 rfl
 show _∧_
 rw[z5]
 exact⟨⟨_,Z.1,rfl⟩,h _ Z⟩
theorem Jv{t l2 l3:Addr}{xs ys zs:Array Value}{Q:Value→Shared→Prop}(ht:s.heap.IsTuple t xs)(hl2:s.heap.IsList l2 ys)(hl3:s.heap.IsList l3 zs)
  (h:∀h',Jt s {cls:= .type "tuple_iterator",data:= .fields #[.ref t,.int 0 0]} l2 l3 h'→Q (.ref (s.heap.objs.size+5)) {s with heap:=h'}):wpAny (model prog w) A (call (.type "zip") [.ref t,.ref l2,.ref l3]) Q E s:=by
 refine callType_new PySem.F.called_zip (by decide) (tD _ _ _) (vL _ _ _) (fun obj=>mW obj _ _ _) PySem.F.entry_zip_new (Gu t l2 l3 xs ys zs) ⟨ht,hl2,hl3,?_⟩
 obtain⟨z5,Z⟩:=Yv (s:=s) {cls:= .type "tuple_iterator",data:= .fields #[.ref t,.int 0 0]} l2 l3 rfl
 show _∧_
 rw[z5]
 exact⟨⟨_,Z.1,rfl⟩,h _ Z⟩
end
theorem aaj(n:Addr): [n+5,n+3,n+4,n,n+1,n+2].Nodup:=by simp
theorem Lg{X:Cx}{pins:List (Addr × Obj)}{σ:L2.St}{H:Hp}{s:Shared}{R:It→Hp→Prop}{elts:List Expr}{kk:Nat}{tpos:Pos}{E:Value→Shared→Prop}{o1:Obj}{l2 l3:Addr}{zs xs ys:List V}{kp:Hp→Prop}{st:Nat→Heap→Prop}{h':Heap}
  (I:L2.Inv X pins σ H s) (S:Src X.prog X.w X.K s.heap.objs.size zs kp st) (e1:xs.length=zs.length) (e2:ys.length=zs.length) (Z:Jt s o1 l2 l3 h') (hst:st 0 h') (q:R (Xb zs xs ys l2 l3 kp) H):
  wpAny (model X.prog X.w) X.A (pyIter (.ref (s.heap.objs.size+5))) (PIE X pins σ (.Tuple elts kk tpos) R) E {s with heap:=h'}:=by
 obtain⟨hz,hTI,hTO,h1,h2,h3,hk⟩:=Z
 refine wpAny_pyIter_zip hz ?_
 have I2:L2.Inv X pins σ H {s with heap:=h'}:=I.kept (t':=s.toks) hk
 refine⟨s.heap.objs.size+5,[s.heap.objs.size+5,s.heap.objs.size+3,s.heap.objs.size+4,s.heap.objs.size,s.heap.objs.size+1,s.heap.objs.size+2],_,_,H,rfl,I2,R0 (aaj s.heap.objs.size) S e1 e2,⟨hz,hTI,⟨_,_,_,hTO⟩,hst,h2,h3⟩,fun c hcm=> ?_,q⟩
 have hle:s.heap.objs.size≤c:=by
  have e':c=s.heap.objs.size+5∨c=s.heap.objs.size+3∨c=s.heap.objs.size+4∨c=s.heap.objs.size∨c=s.heap.objs.size+1∨c=s.heap.objs.size+2:=by simpa using hcm
  rcases e' with z | z | z | z | z | z
  ·rw[z];exact Nat.le_add_right _ _
  ·rw[z];exact Nat.le_add_right _ _
  ·rw[z];exact Nat.le_add_right _ _
  ·rw[z];exact Nat.le_refl _
  ·rw[z];exact Nat.le_add_right _ _
  ·rw[z];exact Nat.le_add_right _ _
 exact I.Km hle (I.hok.fresh hle)
noncomputable def abP(ta:TA):TI:=fun σ H R=>ta σ H fun vs H1=>∃(x:Str)(a b:Addr)(xs ys:List V),vs= [.str x,.ref a,.ref b]∧x.cps.all (· < 128)=true∧H1 a=some (.lst xs)∧H1 b=some (.lst ys)∧xs.length=x.cps.size∧ys.length=x.cps.size∧
 R (Xb (x.cps.toList.map fun c=>V.str ⟨#[c]⟩) xs ys a b fun _=>True) H1
noncomputable def abQ(ta:TA):TI:=fun σ H R=>ta σ H fun vs H1=>∃(t a b:Addr)(zs xs ys:List V),vs= [.ref t,.ref a,.ref b]∧H1 t=some (.tup zs)∧H1 a=some (.lst xs)∧H1 b=some (.lst ys)∧xs.length=zs.length∧ys.length=zs.length∧
 R (Xb zs xs ys a b fun H=>H t=some (.tup zs)) H1
section
variable{X:Cx}{e e2 e3:Expr}{ta:TA}{p pos tpos:Pos}{elts:List Expr}{kk:Nat}
theorem Xc(hg:Gl X "zip")(hm:X.mg "zip" =none)(ha:PA X [e,e2,e3] ta)(hs:starEach [e,e2,e3] X.env=(false,eval e X.env)::starEach [e2,e3] X.env:=by rfl)(hpl:(backTo pos (starEach [e2,e3] X.env)).any (·.1)=false:=by rfl):
  PI X (.Tuple elts kk tpos) (.Call (.Name "zip" p) [e,e2,e3] [] pos) (abP ta):=by
 intro pins s σ H R I h
 refine Call_ (qd I hg hm zF (PyProof.Rows.callWith_type1 (dN (ha pos pins s σ H _ I h) fun us s1 ⟨vs,H1,I1,r1,q1⟩=> ?_) hs hpl))
 obtain⟨x,a,b,xs,ys,ex,hx,We,Wf,l1,l2,q⟩:=q1
 subst ex
 obtain⟨u1,u2,u3,rfl,⟨t,rfl⟩,r2,r3⟩:=vals3 r1
 obtain rfl:u2=Value.ref a:=r2
 obtain rfl:u3=Value.ref b:=r3
 obtain⟨its,rv,p1,_⟩:=I1.list (bj.of (K:=X.K) We)
 obtain⟨its2,W4,p2,_⟩:=I1.list (bj.of (K:=X.K) Wf)
 refine Ju hx p1.isList p2.isList fun h' Z=> ?_
 exact Lg I1 (aag _ x t) (by simpa using l1) (by simpa using l2) Z ⟨_,Z.2.2.2.1,rfl,rfl⟩ q
theorem Xd(hg:Gl X "zip")(hm:X.mg "zip" =none)(ha:PA X [e,e2,e3] ta)(hs:starEach [e,e2,e3] X.env=(false,eval e X.env)::starEach [e2,e3] X.env:=by rfl)(hpl:(backTo pos (starEach [e2,e3] X.env)).any (·.1)=false:=by rfl):
  PI X (.Tuple elts kk tpos) (.Call (.Name "zip" p) [e,e2,e3] [] pos) (abQ ta):=by
 intro pins s σ H R I h
 refine Call_ (qd I hg hm zF (PyProof.Rows.callWith_type1 (dN (ha pos pins s σ H _ I h) fun us s1 ⟨vs,H1,I1,r1,q1⟩=> ?_) hs hpl))
 obtain⟨t,a,b,zs,xs,ys,ex,hqt,We,Wf,l1,l2,q⟩:=q1
 subst ex
 obtain⟨u1,u2,u3,rfl,r0,r2,r3⟩:=vals3 r1
 obtain rfl:u1=Value.ref t:=r0
 obtain rfl:u2=Value.ref a:=r2
 obtain rfl:u3=Value.ref b:=r3
 obtain⟨aek,rv0,p0,_⟩:=I1.tuple (iT.of (K:=X.K) hqt)
 obtain⟨its,rv,p1,_⟩:=I1.list (bj.of (K:=X.K) We)
 obtain⟨its2,W4,p2,_⟩:=I1.list (bj.of (K:=X.K) Wf)
 refine Jv (show s1.heap.IsTuple t aek.toArray from p0) p1.isList p2.isList fun h' Z=> ?_
 exact Lg I1 (aah _ t zs) l1 l2 Z ⟨_,Z.2.2.2.1,rfl,rfl⟩ q
end
end Fs
end
section
set_option maxHeartbeats 4000000
namespace Fs
open PySem PySem.Spec PyProof.Rows L2
noncomputable def tabAt:List (Int × Int)→Int→Int→Int
 | [],_,j=>j
 | p::r,i,j=>if p.1=i then p.2 else tabAt r i j
noncomputable abbrev Dr(D:List (Int × Int)):List (PyData × PyData):=D.map fun p=>(PyData.int p.1,PyData.int p.2)
theorem lookup_tab(i j:Int):∀D:List (Int × Int),(lookup (PyData.int i) (Dr D)).getD (.int j)= .int (tabAt D i j)
 | []=>rfl
 | p::r=>by
  show ((if same (PyData.int p.1) (PyData.int i)=true then some (PyData.int p.2)else lookup (PyData.int i) (Dr r))).getD (.int j)= .int (if p.1=i then p.2 else tabAt r i j)
  have hs:same (PyData.int p.1) (PyData.int i)=decide (p.1=i):=by show (p.1==i)=_;rw[Bool.eq_iff_iff];simp
  rw[hs]
  by_cases e:p.1=i
  ·simp[e]
  ·simp only[decide_eq_false e,if_neg e];exact lookup_tab i j r
noncomputable def Yw(D:List (Int × Int))(te tf:TE):TE:=fun σ H Q=>te σ H fun y H1=>tf σ H1 fun z H2=>∃i j,y= .int i∧z= .int j∧Q (.int (tabAt D i j)) H2
theorem Xe{X:Cx}{o e f:Expr}{apos cpos:Pos}{te tf:TE}{a:Addr}{D:List (Int × Int)}(hD:∀(h:Heap),X.K.In h→∀(prog:Program)(w:World),IntTab prog w h a (Dr D))(ho:PE X o (tC (.ref a)))(he:PE X e te)(hf:PE X f tf)(m:M2 X o "get" apos e f cpos):
  PE X (.Call (.Attribute o "get" apos) [e,f] [] cpos) (Yw D te tf):=by
 intro pins s σ H Q I h
 refine wpAny_Call_method m.base m.few m.line PySem.F.plainAttrs_dict PySem.F.slot_dict_get PySem.F.type_dict_get (dN (ho pins s σ H (fun x H'=>x= .ref a∧Yw D te tf σ H' Q) I ⟨rfl,h⟩) fun u s1 ⟨x,H1,I1,rx,ex,q1⟩=> ?_)
 subst ex
 obtain rfl:u=Value.ref a:=rx
 obtain⟨_,kvs,⟨ob,es,ep,hob,hc,_⟩,_⟩:=hD s1.heap I1.Kf X.prog X.w
 refine⟨⟨ob,hob,hc.1⟩,fun b q=> ?_,?_⟩
 ·cases q
  exact⟨ob,hob,hc.2.1⟩
 rw[m.trees]
 refine Calls.callWith_builtin rfl (Calls.evalArgs_plain (Calls.spliced_cons (dN (he pins s1 σ H1 _ I1 q1) fun iv s2 ⟨y,H2,I2,ry,q2⟩=>
  Calls.spliced_cons (dN (hf pins s2 σ H2 _ I2 q2) fun fv s3 ⟨z,H3,I3,rz,i,j,ey,ez,q3⟩=>Calls.spliced_nil ?_))))
 subst ey ez
 obtain⟨t,rfl⟩:=ry
 obtain⟨t',rfl⟩:=rz
 refine call_get2_intTab (hD s3.heap I3.Kf X.prog X.w) (PyProof.V.Flat.int _ _) fun v hv=> ?_
 rw[lookup_tab]at hv
 have r:=hv s3.heap
 cases r
 exact⟨.int (tabAt D i j),H3,I3.tok _,⟨_,rfl⟩,q3⟩
end Fs
end
section
namespace Fs
open PySem PySem.Spec PyProof.Rows L2
noncomputable def top(i:Nat):Stmt:=PySem.Challenge.pw_farscreen_s01_answers.main.body.getD i (.Pass ⟨0,0,0,0⟩)
noncomputable abbrev Ds:Stmt:=inClass (top 1) 0
noncomputable abbrev zH:Stmt:=inClass (top 1) 1
noncomputable abbrev zJ:Stmt:=inClass (top 1) 2
noncomputable abbrev mX:Stmt:=inClass (top 1) 3
noncomputable abbrev lz:Stmt:=inClass (top 5) 0
noncomputable abbrev qm:Stmt:=inClass (top 5) 1
noncomputable abbrev tE:Stmt:=inClass (top 5) 2
noncomputable abbrev wK:Stmt:=inClass (top 5) 3
noncomputable abbrev oK:Stmt:=inClass (top 5) 4
noncomputable abbrev gU:Stmt:=inClass (top 5) 5
noncomputable abbrev eG:Stmt:=inClass (top 5) 6
noncomputable abbrev oM:Stmt:=inClass (top 5) 7
noncomputable abbrev fC:Stmt:=inClass (top 5) 8
noncomputable abbrev nW:Stmt:=top 6
noncomputable abbrev oN:Stmt:=top 8
noncomputable abbrev oO:Stmt:=top 9
noncomputable abbrev nY:Stmt:=top 10
noncomputable abbrev uV:Stmt:=inClass (top 13) 0
noncomputable abbrev qp:Stmt:=inClass (top 13) 1
noncomputable abbrev jd:Stmt:=inClass (top 13) 2
noncomputable abbrev wM:Stmt:=inClass (top 13) 3
noncomputable abbrev km:Stmt:=inClass (top 13) 4
noncomputable abbrev wN:Stmt:=top 14
noncomputable abbrev zK:Stmt:=inClass (top 16) 0
noncomputable abbrev Dt:Stmt:=inClass (top 16) 1
noncomputable abbrev zL:Stmt:=inClass (top 16) 2
noncomputable abbrev wO:Stmt:=inClass (top 16) 3
noncomputable abbrev zM:Stmt:=inClass (top 16) 4
noncomputable abbrev qt:Stmt:=top 18
noncomputable abbrev oR:Stmt:=top 20
noncomputable abbrev oU:Stmt:=top 21
noncomputable abbrev zN:Stmt:=top 22
noncomputable abbrev uW:Stmt:=top 23
noncomputable abbrev tG:Stmt:=top 24
noncomputable abbrev zO:Stmt:=inClass (top 32) 0
noncomputable abbrev lZ:Stmt:=top 33
noncomputable abbrev tH:Stmt:=top 34
noncomputable abbrev tK:Stmt:=top 35
noncomputable abbrev tL:Stmt:=top 36
noncomputable abbrev oV:Stmt:=top 42
noncomputable abbrev wQ:Stmt:=top 43
noncomputable abbrev qu:Stmt:=top 44
noncomputable abbrev oW:Stmt:=top 45
noncomputable abbrev zP:Stmt:=inClass (top 54) 0
noncomputable abbrev zQ:Stmt:=inClass (top 54) 1
noncomputable abbrev qw:Stmt:=inClass (top 54) 2
noncomputable abbrev wR:Stmt:=inClass (top 54) 3
noncomputable abbrev tO:Stmt:=inClass (top 54) 4
noncomputable abbrev lK:Stmt:=inClass (top 54) 5
noncomputable abbrev mY:Stmt:=inClass (top 54) 6
noncomputable abbrev Du:Stmt:=inClass (top 54) 7
noncomputable abbrev lL:Stmt:=inClass (top 54) 8
noncomputable abbrev qx:Stmt:=top 68
noncomputable abbrev tQ:Stmt:=top 69
noncomputable abbrev wU:Stmt:=top 70
noncomputable abbrev qy:Stmt:=top 71
noncomputable abbrev Jw:Stmt:=top 72
noncomputable abbrev zR:Stmt:=top 73
noncomputable abbrev zT:Stmt:=top 74
noncomputable abbrev ye:Stmt:=top 75
noncomputable abbrev Dv:Stmt:=top 76
noncomputable abbrev qz:Stmt:=top 77
noncomputable abbrev zU:Stmt:=top 78
noncomputable abbrev wV:Stmt:=top 83
noncomputable abbrev Jx:Stmt:=top 84
noncomputable abbrev zV:Stmt:=top 85
noncomputable abbrev wW:Stmt:=top 86
noncomputable abbrev wX:Stmt:=top 87
noncomputable abbrev tU:Stmt:=top 88
noncomputable abbrev wY:Stmt:=top 89
noncomputable abbrev qC:Stmt:=inClass (top 100) 0
noncomputable abbrev oX:Stmt:=inClass (top 100) 1
noncomputable abbrev qD:Stmt:=inClass (top 100) 2
noncomputable abbrev nZ:Stmt:=inClass (top 100) 3
noncomputable abbrev qF:Stmt:=inClass (top 100) 4
noncomputable abbrev mZ:Stmt:=inClass (top 100) 5
noncomputable abbrev oY:Stmt:=inClass (top 100) 6
noncomputable abbrev qG:Stmt:=inClass (top 100) 7
noncomputable abbrev tV:Stmt:=inClass (top 110) 0
noncomputable abbrev oZ:Stmt:=inClass (top 110) 1
noncomputable abbrev o9:Stmt:=inClass (top 110) 2
noncomputable abbrev m6:Stmt:=inClass (top 110) 3
noncomputable abbrev wZ:Stmt:=inClass (top 110) 4
noncomputable abbrev Dw:Stmt:=top 111
noncomputable abbrev Jy:Stmt:=top 112
noncomputable abbrev Lh:List Str:= ["x","y","w","h"]
noncomputable abbrev eN:List Str:= ["w","h","rows","marks"]
noncomputable abbrev lU:List Str:= ["bits","depth","highest_first","true_color","greatest","shifts","known"]
noncomputable abbrev gW:List Str:= ["octets","place"]
noncomputable abbrev Li:List Str:= ["ground","color"]
noncomputable abbrev bZ:List Str:= ["canvas","name","step","version","inbox","outbox","events","form","way","asked","only_changed"]
noncomputable abbrev bK:List Str:= ["canvas","line"]
noncomputable abbrev iY:List Str:= ["calls","place"]
set_option genInjectivity false in
structure bB where
 Lj:Addr
 eO:Addr
 lV:Addr
 gY:Addr
 Lk:Addr
 cLine:Addr
 bR:Addr
 kE:Addr
 pL:Addr
 fK:Addr
 gw:Addr
 dW:Addr
 jj:Addr
 eQ:Addr
 jk:Addr
 jQ:Addr
 eZ:Addr
 cM:Addr
 cN:Addr
 gA:Addr
 cV:Addr
 jl:Addr
 bI:Addr
 bY:Addr
 fW:Addr
 mF:Addr
 ir:Addr
 dh:Addr
 dX:Addr
 gB:Addr
 jR:Addr
 mG:Addr
 m7:Addr
 jm:Addr
 je:Addr
 jT:Addr
 gf:Addr
 gC:Addr
 fc:Addr
 jU:Addr
 jV:Addr
 jn:Addr
 mH:Addr
 iu:Addr
 jo:Addr
 jq:Addr
 jr:Addr
 gD:Addr
 jW:Addr
 iw:Addr
 gF:Addr
 mJ:Addr
 dz:Addr
 iy:Addr
 gZ:Addr
 fX:Addr
 d8:Addr
 fL:Addr
 pM:Addr
 cJ:Addr
 iz:Addr
 fY:Addr
 jf:Addr
 iB:Addr
 uX:Addr
 mK:Addr
 mL:Addr
 pN:Addr
 pO:Addr
 iC:Addr
 mO:Addr
 jX:Addr
 qH:Addr
 mQ:Addr
 jY:Addr
 jZ:Addr
 jt:Addr
 j0:Addr
 iD:Addr
 gG:Addr
 iG:Addr
 ju:Addr
 iH:Addr
 fM:Addr
 gH:Addr
 iI:Addr
 jw:Addr
 gJ:Addr
 cQ:Addr
 cT:Addr
 g8:Addr
 pP:Addr
 uY:Addr
 lA:Addr
 UW:Addr
 U0:Addr
 kk:PySem.W.Frag
structure Txt(K:PySem.W.Frag)(mg:Str→Option Value)(A:bB):Prop where
 dD:Kl K A.Lj Lh
 Hy:CF K mg "Box" A.Lj A.pL
 bV:Kl K A.eO eN
 Ln:CF K mg "Canvas" A.eO A.jj
 dm:Kl K A.lV lU
 Oo:CF K mg "Form" A.lV A.mF
 gk:Kl K A.gY gW
 Jz:CF K mg "Pipe" A.gY A.mG
 vM:Kl K A.Lk Li
 U3:CF K mg "Left" A.Lk A.mH
 aY:Kl K A.cLine bZ
 U4:CF K mg "Line" A.cLine A.mJ
 bT:Kl K A.bR bK
 Hz:CF K mg "Session" A.bR A.iD
 cB:Kl K A.kE iY
 Lp:CF K mg "Reader" A.kE A.jw
 pL:MF K A.Lj Lh "__init__" "Box.__init__" Ds A.pL ["self","x","y","w","h"]
 fK:MF K A.Lj Lh "right" "Box.right" zH A.fK ["self"]
 gw:MF K A.Lj Lh "below" "Box.below" zJ A.gw ["self"]
 dW:MF K A.Lj Lh "lies_within" "Box.lies_within" mX A.dW ["self","w","h"]
 jj:MF K A.eO eN "__init__" "Canvas.__init__" lz A.jj ["self","w","h"]
 eQ:MF K A.eO eN "holds" "Canvas.holds" qm A.eQ ["self","box"]
 jk:MF K A.eO eN "fill" "Canvas.fill" tE A.jk ["self","box","color"]
 jQ:MF K A.eO eN "put" "Canvas.put" wK A.jQ ["self","box","colors"]
 eZ:MF K A.eO eN "put_row" "Canvas.put_row" oK A.eZ ["self","x","y","colors"]
 cM:MF K A.eO eN "changed_within" "Canvas.changed_within" gU A.cM ["self","box"]
 cN:MF K A.eO eN "changed_points" "Canvas.changed_points" eG A.cN ["self"]
 gA:MF K A.eO eN "settle" "Canvas.settle" oM A.gA ["self","box"]
 cV:MF K A.eO eN "colors_within" "Canvas.colors_within" fC A.cV ["self","box"]
 jl:GF K mg "marked_anew" nW A.jl ["marks","before","after"]
 bI:GF K mg "number_octets" oN A.bI ["number","size"]
 bY:GF K mg "octets_number" oO A.bY ["octets"]
 fW:GF K mg "text_octets" nY A.fW ["text"]
 mF:MF K A.lV lU "__init__" "Form.__init__" uV A.mF ["self","octets"]
 ir:MF K A.lV lU "is_right" "Form.is_right" qp A.ir ["self"]
 dh:MF K A.lV lU "parts_are_apart" "Form.parts_are_apart" jd A.dh ["self"]
 dX:MF K A.lV lU "point" "Form.point" wM A.dX ["self","color"]
 gB:MF K A.lV lU "new_point" "Form.new_point" km A.gB ["self","color"]
 jR:GF K mg "is_all_ones" wN A.jR ["number"]
 mG:MF K A.gY gW "__init__" "Pipe.__init__" zK A.mG ["self"]
 m7:MF K A.gY gW "add" "Pipe.add" Dt A.m7 ["self","octets"]
 jm:MF K A.gY gW "held" "Pipe.held" zL A.jm ["self"]
 je:MF K A.gY gW "front" "Pipe.front" wO A.je ["self","size"]
 jT:MF K A.gY gW "take" "Pipe.take" zM A.jT ["self","size"]
 gf:GF K mg "plain_points" qt A.gf ["rows","form"]
 gC:GF K mg "row_stretches" oR A.gC ["row","y"]
 fc:GF K mg "all_stretches" oU A.fc ["rows"]
 jU:GF K mg "ground_of" zN A.jU ["stretches"]
 jV:GF K mg "runs_upon" uW A.jV ["ground","stretches"]
 jn:GF K mg "color_of_all" tG A.jn ["runs"]
 mH:MF K A.Lk Li "__init__" "Left.__init__" zO A.mH ["self"]
 iu:GF K mg "tiled_points" lZ A.iu ["rows","form"]
 jo:GF K mg "tile_octets" tH A.jo ["tile","form","left"]
 jq:GF K mg "head_octets" tK A.jq ["ground","runs","color","form","left"]
 jr:GF K mg "runs_octets" tL A.jr ["runs","color","form"]
 gD:GF K mg "update_octets" oV A.gD ["canvas","box","way","form"]
 jW:GF K mg "box_octets" wQ A.jW ["box"]
 iw:GF K mg "points_in_way" qu A.iw ["rows","way","form"]
 gF:GF K mg "points_by_runs" oW A.gF ["rows","form"]
 mJ:MF K A.cLine bZ "__init__" "Line.__init__" zP A.mJ ["self","canvas","name"]
 dz:MF K A.cLine bZ "send" "Line.send" zQ A.dz ["self","octets"]
 iy:MF K A.cLine bZ "give_out" "Line.give_out" qw A.iy ["self","most"]
 gZ:MF K A.cLine bZ "close" "Line.close" wR A.gZ ["self"]
 fX:MF K A.cLine bZ "hand_on" "Line.hand_on" tO A.fX ["self","numbers","text"]
 d8:MF K A.cLine bZ "first_event" "Line.first_event" lK A.d8 ["self"]
 fL:MF K A.cLine bZ "drop_event" "Line.drop_event" mY A.fL ["self"]
 pM:MF K A.cLine bZ "ask" "Line.ask" Du A.pM ["self","only_changed","box"]
 cJ:MF K A.cLine bZ "see_to_asked" "Line.see_to_asked" lL A.cJ ["self"]
 iz:GF K mg "message_size" qx A.iz ["head"]
 fY:GF K mg "text_length" tQ A.fY ["message"]
 jf:GF K mg "is_too_long" wU A.jf ["message"]
 iB:GF K mg "take_message" qy A.iB ["line","message"]
 uX:GF K mg "follow" Jw A.uX ["line","message"]
 mK:GF K mg "take_form" zR A.mK ["line","message"]
 mL:GF K mg "take_ways" zT A.mL ["line","message"]
 pN:GF K mg "take_ask" ye A.pN ["line","message"]
 pO:GF K mg "take_key" Dv A.pO ["line","message"]
 iC:GF K mg "take_pointer" qz A.iC ["line","message"]
 mO:GF K mg "take_text" zU A.mO ["line","message"]
 jX:GF K mg "bytes_come" wV A.jX ["line","octets"]
 qH:GF K mg "wanted" Jx A.qH ["line"]
 mQ:GF K mg "take_part" zV A.mQ ["line","octets"]
 jY:GF K mg "take_hello" wW A.jY ["line","octets"]
 jZ:GF K mg "version_of" wX A.jZ ["octets"]
 jt:GF K mg "take_choice" tU A.jt ["line","octet"]
 j0:GF K mg "take_share" wY A.j0 ["line"]
 iD:MF K A.bR bK "__init__" "Session.__init__" qC A.iD ["self"]
 gG:MF K A.bR bK "begin" "Session.begin" oX A.gG ["self","w","h","name"]
 iG:MF K A.bR bK "fill" "Session.fill" qD A.iG ["self","x","y","w","h","color"]
 ju:MF K A.bR bK "put" "Session.put" nZ A.ju ["self","x","y","w","h","colors"]
 iH:MF K A.bR bK "come" "Session.come" qF A.iH ["self","octets"]
 fM:MF K A.bR bK "output" "Session.output" mZ A.fM ["self","most"]
 gH:MF K A.bR bK "event" "Session.event" oY A.gH ["self","most"]
 iI:MF K A.bR bK "told" "Session.told" qG A.iI ["self"]
 jw:MF K A.kE iY "__init__" "Reader.__init__" tV A.jw ["self","calls"]
 gJ:MF K A.kE iY "is_done" "Reader.is_done" oZ A.gJ ["self"]
 cQ:MF K A.kE iY "number" "Reader.number" o9 A.cQ ["self"]
 cT:MF K A.kE iY "numbers" "Reader.numbers" m6 A.cT ["self","size"]
 g8:MF K A.kE iY "row" "Reader.row" wZ A.g8 ["self"]
 pP:GF K mg "answers" Dw A.pP ["calls"]
 uY:GF K mg "answer" Jy A.uY ["session","reader"]
 mU:∃t,mg "CHANGED" =some (.str "1" t)
 Oq:∃t,mg "TOLD" =some (.str "0" t)
 mj:∀H:Hp,iT K H A.lA [.int 32,.int 24,.int 0,.int 1,.int 0,.int 255,.int 0,.int 255,.int 0,.int 255,.int 16,.int 8,.int 0,.int 0,.int 0,.int 0]
 qI:mg "FIRST_FORM" =some (.ref A.lA)
 Dy:∃t,mg "SIDE" =some (.int 16 t)
 QZ:∃t,mg "PLAIN" =some (.int 1 t)
 vN:∃t,mg "WITH_GROUND" =some (.int 2 t)
 yf:∃t,mg "WITH_COLOR" =some (.int 4 t)
 Av:∃t,mg "WITH_RUNS" =some (.int 8 t)
 vO:∃t,mg "MANY_COLORS" =some (.int 16 t)
 tW:∃t,mg "BY_POINTS" =some (.int 0 t)
 HB:∃t,mg "BY_RUNS" =some (.int 2 t)
 Dz:∃t,mg "BY_TILES" =some (.int 5 t)
 U5:∀H:Hp,iT K H A.UW [.int 0,.int 2,.int 5]
 U6:mg "WAYS" =some (.ref A.UW)
 Q0:∃t,mg "HELLO" =some (.str "RFB 003.008\n" t)
 vP:∃t,mg "MOST_EVENTS" =some (.int 64 t)
 my:∃t,mg "STEP_HELLO" =some (.int 0 t)
 ph:∃t,mg "STEP_CHOICE" =some (.int 1 t)
 mz:∃t,mg "STEP_SHARE" =some (.int 2 t)
 iZ:∃t,mg "STEP_MESSAGES" =some (.int 3 t)
 kI:∃t,mg "STEP_CLOSED" =some (.int 4 t)
 DG:∃t,mg "SET_FORM" =some (.int 0 t)
 w6:∃t,mg "SET_WAYS" =some (.int 2 t)
 Yx:∃t,mg "ASK" =some (.int 3 t)
 Yy:∃t,mg "KEY" =some (.int 4 t)
 HD:∃t,mg "POINTER" =some (.int 5 t)
 Ot:∃t,mg "TEXT" =some (.int 6 t)
 kk:A.kk=K
 Q3:∀(h:Heap),K.In h→∀(prog:Program)(w:World),IntTab prog w h A.U0 (Dr [(0,20),(2,4),(3,10),(4,8),(5,6),(6,8)])
 Q4:mg "SIZES" =some (.ref A.U0)
 Ou:∃t,mg "HEAD" =some (.int 8 t)
 Aw:∃t,mg "MOST_TEXT" =some (.int 4096 t)
 Ax:∃t,mg "KEY_EVENT" =some (.int 1 t)
 rC:∃t,mg "POINTER_EVENT" =some (.int 2 t)
 yg:∃t,mg "TEXT_EVENT" =some (.int 3 t)
 yh:∃t,mg "HELLO_SIZE" =some (.int 12 t)
 kJ:∃t,mg "NO_PASSWORD" =some (.int 1 t)
 DK:∃t,mg "REASON" =some (.str "unknown" t)
 DN:∃t,mg "DONE" =some (.int 0 t)
 fO:∃t,mg "OUT_OF_RANGE" =some (.int (-1) t)
 rD:∃t,mg "NOTHING_THERE" =some (.int (-2) t)
 DP:∃t,mg "TOO_LONG" =some (.int (-6) t)
 Lq:∃t,mg "MOST_W" =some (.int 640 t)
 Lr:∃t,mg "MOST_H" =some (.int 480 t)
 DQ:∃t,mg "COLORS" =some (.int 16777216 t)
 vQ:∃t,mg "MOST_OUTPUT" =some (.int 2097152 t)
 yj:∃t,mg "MOST_EVENT" =some (.int 4096 t)
 yl:∃t,mg "BEGIN_CALL" =some (.int 1 t)
 Ay:∃t,mg "FILL_CALL" =some (.int 2 t)
 DR:∃t,mg "PUT_CALL" =some (.int 3 t)
 ym:∃t,mg "INPUT_CALL" =some (.int 4 t)
 vR:∃t,mg "OUTPUT_CALL" =some (.int 5 t)
 yo:∃t,mg "EVENT_CALL" =some (.int 6 t)
 Az:∃t,mg "TOLD_CALL" =some (.int 7 t)
 tX:mg "enumerate" =none
 gM:mg "len" =none
 JB:mg "list" =none
 Yz:mg "max" =none
 YB:mg "min" =none
 YC:mg "ord" =none
 jb:mg "range" =none
 YD:mg "sum" =none
 Q5:mg "zip" =none
end Fs
end
section
set_option maxHeartbeats 4000000
namespace Fs
open PySem PySem.Spec PyProof.Rows L2
section
variable{K:PySem.W.Frag}{h:Heap}{mg:Str→Option Value}{x m qual:Str}{st:Stmt}{f C:Addr}{oc kV doc pm cdv ct:Value}{od an:Option Addr}{osl:Array (Option Value)}{ps ns:List Str}
noncomputable abbrev BF(x qual:Str)(st:Stmt)(ps:List Str):Prop:=∀(kV doc pm:Value)(an:Option Addr)(cdv ct:Value)(us:List Value),us.length=ps.length→bindArgs (PySem.W.fnOf x qual (iW st) (gb st) (aB st) .none kV doc pm an cdv ct) ⟨us,[]⟩=pure (ps.zip us)
theorem aak{a:Addr}{it:Array Value}{nn:Nat}{xs:List V}(l:K.lookup a=some ⟨.type "tuple",od,.seq it nn,osl⟩)(v:Vals xs it.toList)(z:it.size≤sizeLine)(H:Hp):iT K H a xs:= .inr ⟨_,it,nn,l,rfl,rfl,z,v⟩
inductive Ov:List DictEntry→List (Int × Int)→Prop
 | nil:Ov [] []
 | cons {i j hs:Int} {t u:Tok} {r:List DictEntry} {D:List (Int × Int)} (e:hs=hashInt i) (q:Ov r D):Ov ({hash:=hs,key:= .int i t,val:= .int j u} :: r) ((i,j)::D)
theorem Ov.get {P:Program} {w:World} {es:List DictEntry} {D:List (Int × Int)} (q:Ov es D):(∀e ∈ es,∃k,(intKind P w).is k e.key=true∧e.hash=(intKind P w).hash k)∧∃kvs,Pairs (intKind P w) es kvs∧kvs.map (·.1)=D.map (·.1)∧PyProof.V.FlatPairs PyData.int kvs (Dr D):=by
 induction q with
 | nil=>exact⟨(fun e he=>by cases he),[],.nil,rfl,.nil⟩
 | @cons i j hs t u r D e _ ih=>
  obtain⟨h1,kvs,h2,h3,h4⟩:=ih
  refine⟨fun e' he=> ?_,(i,.int j u)::kvs,.cons (intKind_is P w i t) rfl h2,?_,.cons (PyProof.V.Flat.int j u) h4⟩
  ·cases he with
   | head=>exact⟨i,intKind_is P w i t,e⟩
   | tail _ q=>exact h1 e' q
  ·rw[List.map_cons,List.map_cons,h3]
theorem Xf{a:Addr}{es:Array DictEntry}{ep:Nat}{D:List (Int × Int)}(l:K.lookup a=some ⟨.type "dict",none,.dict es ep,#[]⟩)(q:Ov es.toList D)(n:(a==sysModules)=false)(nd:(D.map (·.1)).Nodup)(h:Heap)(X:K.In h)(P:Program)(w:World):IntTab P w h a (Dr D):=by
 obtain⟨h1,kvs,h2,h3,h4⟩:=q.get (P:=P) (w:=w)
 refine⟨n,kvs,⟨_,es,ep,X a _ l,⟨rfl,rfl,rfl⟩,rfl,fun e he=>h1 e (Array.mem_toList_iff.mpr he),h2,?_⟩,h4⟩
 rw[h3];exact nd
end
end Fs
end
section
set_option maxHeartbeats 4000000
namespace Fs
open PySem PySem.W PySem.Calls PyProof.Rows L2
noncomputable abbrev Ow:OpenSpec:=PySem.Challenge.rw_farscreen_s01_answers
theorem Q6(ns:List Int):ofPy (PyData.list (ns.map PyData.int))=WData.list (ns.map WData.int):=by
 rw[←ofPys_ints]
 rfl
theorem R5{P:Params}{h:Heap}{args:List WData}{vals:List Value}(hpre:Ow.pre args=true)(hwl:WellAll P h vals args):
  ∃a vs ns,vals= [Value.ref a]∧args= [WData.list (ns.map WData.int)]∧h.get? a=some {cls:= .type "list",data:= .seq vs.toArray}∧IntsAre vs ns∧ns.length≤30000∧PySw32.answers_asked ns=true∧
   Ow.post args (.list ((PySw32.answers ns).map WData.int))=true:=by
 have hsh:WShape.hasAll [] args [.list .int]=true:=os_shapes args hpre
 obtain⟨d,r,rfl,h1,h2⟩:=hasAllW_cons hsh
 obtain rfl:=hasAllW_nil h2
 obtain⟨xs,rfl,h3⟩:=hasW_list h1
 obtain⟨ns,rfl⟩:=items_int h3
 have hs:=os_pre_isSome hpre
 have hs2:(Codec.decAll [.list 0 30000 (.int (Int.negSucc 2147483647) (Int.ofNat 4294967295))] [ofPy (PyData.list (ns.map PyData.int))]).isSome=true:=by
  rw[Q6]
  exact hs
 obtain⟨q1,_,q3,_⟩:=os_dec_ints hs2
 rw[Q6]at q1
 have ask:=os_pre_asked (r:=Ow) (a:=(ns,())) hpre q1
 have post:=os_post (r:=Ow) (d:= .list ((PySw32.answers ns).map WData.int)) (a:=(ns,())) q1 (same_self _)
 cases hwl with
 | cons w1 w2=>
  cases w2
  cases w1 with
  | list ho hall=>exact⟨_,_,ns,rfl,rfl,ho,Att.BV ns _ hall,q3,ask,post⟩
theorem R6{P:Program}{w:World}{K:PySem.W.Frag}{mg mb:Str→Option Value}{CX:Wc}{k:Nat}{fa a:Addr}{fd:FuncData}{x:Str}{sp:Sp}{s₁:Shared}{vs:List Value}{ns:List Int}{QQ:VK}
  (KX:K.In s₁.heap) (hns:s₁.heap.Ns mainGlobals mg) (hb:s₁.heap.Ns builtinsNs mb) (hbb:∀x:Str,x≠ "__name__" →mb x=bootBuiltins x) (hlim:s₁.heap.NoLimit) (hg:s₁.gens= #[])
  (ha:s₁.heap.get? a=some {cls:= .type "list",data:= .seq vs.toArray}) (hi:IntsAre vs ns) (hl:ns.length≤sizeLine) (hr:jK k callerA)
  (F:∀base:Heap,K.In base→base.Ns mainGlobals mg→Jd P w K mg base CX k fa fd [x] sp) (hbind:∀(s:Shared)(u:Value),K.In s.heap→BindsTo s fd ⟨[u],[]⟩ [(x,u)])
  (hsp:∀H:Hp,Only H→bj K H a (ns.map V.int)→sp [.ref a] H QQ fun _ _ _=>False)
  (hCX:∀H e s',CX [] H s₁ (fun _ _ _=>False) e s'→False):
  codeAny (model P w) callerA (.call (.ref fa) ⟨[.ref a],[]⟩) (fun r s'=>(∃u v H',r= .ok (.ret u)∧RelV v u∧vC P w H' s'.heap∧QQ v H')∧OldK s₁.heap s'.heap∧s'.os=s₁.os∧AllBare s'.gens) s₁:=by
 have rv:=Hw hi
 have lenV:=hi.length
 have core:∀H:Hp,Only H→bj K H a (ns.map V.int)→vC P w H s₁.heap→(∀b,H b≠none→b=a)→(H a≠none→K.lookup a=none)→
   codeAny (model P w) callerA (.call (.ref fa) ⟨[.ref a],[]⟩) (fun r s'=>(∃u v H',r= .ok (.ret u)∧RelV v u∧vC P w H' s'.heap∧QQ v H')∧OldK s₁.heap s'.heap∧s'.os=s₁.os∧AllBare s'.gens) s₁:=by
  intro H hO hS hok hA hK
  have Q7:∀ {b:Addr}{o:Obj},s₁.heap.get? b=some o→H b=none→(IK s₁.heap H).get? b=some o:=fun e n=>TF e n
  have noA:∀ {b:Addr}{o:Obj}{es:Array DictEntry}{ep:Nat},s₁.heap.get? b=some o→o.data= .dict es ep→H b=none:=fun{b o es ep}e d=>by
   cases q:H b with
   | none=>rfl
   | some u=>
    have e':b=a:=hA b (by rw[q];simp)
    subst e'
    rw[ha]at e;cases e
    have d':Data.seq vs.toArray _=Data.dict es ep:=d
    cases d'
  have nsK:∀ {b:Addr}{m:Str→Option Value},s₁.heap.Ns b m→(IK s₁.heap H).Ns b m:=fun{b m} ⟨o,es,ep,e,d,r⟩=>⟨o,es,ep,Q7 e (noA e d),d,r⟩
  have hKb:K.In (IK s₁.heap H):=fun b o e=>Q7 (KX b o e) (by
   cases q:H b with
   | none=>rfl
   | some u=>
    have e':b=a:=hA b (by rw[q];simp)
    subst e'
    rw[hK (by rw[q];simp)]at e;cases e)
  have hM:Mod K mg (IK s₁.heap H):=⟨hKb,nsK hns,⟨mb,nsK hb,hbb⟩,let ⟨mc,h1,h2⟩:=hlim;⟨mc,nsK h1,h2⟩⟩
  have e0:N8 P w K mg (IK s₁.heap H) callerA [] s₁ H:=⟨rfl,hM,fun b o e=>Wo e,Nat.le_of_eq (Ru _ _),trivial,fun b hb=>absurd (show b ∈ ([]:List Addr) from hb) (by simp),hok,.of_eq hg⟩
  refine codeAny_mono ((F _ hKb (nsK hns)).run callerA [] s₁ H ⟨[.ref a],[]⟩ [.ref a] [.ref a] _ _ hr e0 (hbind s₁ (.ref a) KX) (.cons rfl .nil) (hsp H hO hS)) fun r s' h=> ?_
  cases r with
  | error e=>exact(hCX H e s' h).elim
  | ok fl=>
   cases fl with
   | next=>exact False.elim h
   | brk=>exact False.elim h
   | cont=>exact False.elim h
   | ret u=>
    obtain⟨v,H',os,bare,un,hok',r',q⟩:=h
    refine⟨⟨u,v,H',rfl,r',hok',q⟩,OldK.of_keep fun b o e=> ?_,os,bare⟩
    cases q:H b with
    | none=>exact un.keep b o e q (by intro z;exact absurd (show b ∈ ([]:List Addr) from z) (by simp)) (by simp)
    | some u=>
     rcases hO b with z | ⟨ob,xs,z⟩
     ·rw[q]at z;cases z
     ·have z2:=un.CG b ob _ z
      obtain⟨e1,_⟩:=hok b _ z
      obtain⟨e2,_⟩:=hok' b _ z2
      rw[e]at e1;cases e1
      exact e2
 cases hk:K.lookup a with
 | some o=>
  have e:=KX a o hk
  rw[ha]at e
  cases e
  refine core (fun _=>none) (fun _=> .inl rfl) (.inr ⟨_,vs.toArray,_,hk,rfl,rfl,rfl,by rw[List.size_toArray,lenV];exact hl,by simpa using rv⟩) (fun b u z=>by have z':(none:Option HO)=some u:=z;cases z') (fun b z=>absurd rfl z) fun z=>absurd rfl z
 | none=>
  refine core (fun b=>if b=a then some (.vB {cls:= .type "list",data:= .seq vs.toArray} (.lst (ns.map V.int)))else none) (fun b=> ?_) (.inl (.inr ⟨{cls:= .type "list",data:= .seq vs.toArray},if_pos rfl⟩)) (fun b u z=> ?_) (fun b z=> ?_) fun _=>hk
  ·by_cases hb:b=a
   ·exact .inr ⟨_,_,if_pos hb⟩
   ·exact .inl (if_neg hb)
  ·by_cases hb:b=a
   ·have z':=(if_pos hb).symm.trans z
    cases z'
    subst hb
    exact⟨ha,by rw[List.length_map];exact hl,vs,_,rv,ha⟩
   ·have z':=(if_neg hb).symm.trans z
    cases z'
  ·by_cases hb:b=a
   ·exact hb
   ·exact absurd (if_neg hb) z
theorem DW{R:WRecords}{cl:Str→Option Addr}{h:Heap}:∀(ns:List Int){us:List Value},Vals (ns.map V.int) us→ReadsAllW R cl h us (ns.map WData.int) []
 | [],_,.nil=> .nil
 | n::ns,_,.cons r t=>by
  obtain⟨tk,rfl⟩:=r
  exact ReadsAllW.cons (.int n tk) (DW ns t)
theorem Xg{k:Nat}{q:Program}{loose:List Str}{XP:(Str→Option Value)→Heap→Prop}{YP:World→Heap→Prop}{d:DefRec}{x:Str}(hdf:d.params.defaults= [])(hr:jK k callerA)
  (F:∀(w:World)(mg:Str→Option Value)(fa:Addr)(h:Heap),YP w h→h.Ns mainGlobals mg→mg d.name=some (.ref fa)→
   ∃(K:PySem.W.Frag)(sp:Sp)(fd:FuncData),K.In h∧(∀(s:Shared)(u:Value),K.In s.heap→BindsTo s fd ⟨[u],[]⟩ [(x,u)])∧(∀base:Heap,Jd Ow.prog w K mg base QR k fa fd [x] sp)∧
    ∀(H:Hp)(a:Addr)(ns:List Int),PySw32.answers_asked ns=true→bj K H a (ns.map V.int)→sp [.ref a] H (fun v H'=>∃l,v= .ref l∧H' l=some (.lst ((PySw32.answers ns).map V.int))) fun _ _ _=>False):
  PySem.W.WalkOS q loose XP YP Ow d [] (fun f vs=>PySem.call f vs):=by
 intro w s₀ s₁ mg mb G Y fa o pm cd doc dV kV ho hd hcd hD hmg hg args vals as hpre hlay hrd hwl hlo
 obtain rfl:dV= .none:=Dflts.none hD hdf
 obtain rfl:kV= .none:=Dflts.noKw hD
 obtain⟨a,vs,ns,rfl,rfl,hobj,hints,hlen,Ls,hpost⟩:=R5 hpre hwl
 obtain⟨K,sp,fd,KX,hb,hF,hsp⟩:=F w mg fa _ Y G.T.g hmg
 refine enter_call (codeAny_mono (R6 KX G.T.g G.T.b G.T.builtins G.T.nolimit hg hobj hints (Nat.le_trans hlen (by rw[sizeLine_eq];decide)) hr (fun base _ _=>hF base) hb (fun H hO hS=>hsp H a ns Ls hS) fun _ _ _ z=>z) fun r s' hq=> ?_)
 obtain⟨⟨u,v,H',rfl,rv,hok,l,rfl,hl⟩,h2,h3,h4⟩:=hq
 obtain rfl:u=Value.ref l:=rv
 obtain⟨_,its,n,rvs,hob⟩:=hok l _ hl
 exact⟨.inl ⟨.ref l,_,_,rfl,fun _=>rfl,.list hob rfl rfl (DW _ (by simpa using rvs)),hpost,fun h=>by cases h⟩,h2,h3,h4⟩
end Fs
end
section
namespace Fs
open Sw32
theorem m9{α:Type}{w:Nat}(hw:0<w):∀(rs:List (List α)),(∀r ∈ rs,r.length=w)→∀k:Nat,rs.flatten[k]? =(rs[k / w]?).bind (fun r=>r[k % w]?)
 | [],_,k=>by simp
 | r::rs,h,k=>by
  have hr:r.length=w:=h r (by simp)
  rw[List.flatten_cons,List.getElem?_append]
  split
  ·have e1:k / w=0:=Nat.div_eq_of_lt (by omega)
   have e2:k % w=k:=Nat.mod_eq_of_lt (by omega)
   simp[e1,e2]
  ·have hk:w≤k:=by omega
   have e1:k / w=(k-w) / w+1:=Nat.div_eq_sub_div hw hk
   have e2:k % w=(k-w) % w:=Nat.mod_eq_sub_mod hk
   rw[hr,m9 hw rs (fun q hq=>h q (by simp[hq])) (k-w),e1,e2];simp
theorem Lw{α:Type}{w:Nat}:∀(rs:List (List α)),(∀r ∈ rs,r.length=w)→rs.flatten.length=w*rs.length
 | [],_=>by simp
 | r::rs,h=>by
  have hr:r.length=w:=h r (by simp)
  rw[List.flatten_cons,List.length_append,Lw rs (fun q hq=>h q (by simp[hq])),hr,List.length_cons,Nat.mul_add];omega
theorem aal{w x y:Nat}(h:x<w):(w*y+x) / w=y:=by
 rw[Nat.mul_add_div (by omega),Nat.div_eq_of_lt h];omega
theorem aam{w x y:Nat}(h:x<w):(w*y+x) % w=x:=by
 rw[Nat.mul_add_mod,Nat.mod_eq_of_lt h]
theorem Ji{α:Type}{w:Nat}{rs:List (List α)}(h:∀r ∈ rs,r.length=w){x y:Nat}(hx:x<w):rs.flatten[w*y+x]? =(rs[y]?).bind (fun r=>r[x]?):=by
 rw[m9 (by omega) rs h,aal hx,aam hx]
noncomputable def cut{α:Type}(rs:List (List α))(x y w h:Nat):List (List α):=((rs.drop y).take h).map fun r=>(r.drop x).take w
noncomputable def rowsOf(s:Screen)(r:Rect):List (List Nat):=(List.range r.h).map fun j=>(List.range r.w).map fun i=>s.at_ (r.x+i,r.y+j)
theorem HH{α:Type}(f:Nat→α)(n k m:Nat):(((List.range n).map f).drop k).take m=(List.range (min m (n-k))).map fun i=>f (k+i):=by
 apply List.ext_getElem?
 intro i
 simp only[List.getElem?_take,List.getElem?_drop,List.getElem?_map,List.getElem?_range]
 by_cases h1:i<m
 ·by_cases h2:k+i<n
  ·have:i<min m (n-k):=by omega
   simp[h1,List.getElem?_range,h2,this]
  ·have:¬i<min m (n-k):=by omega
   have h3:(List.range n)[k+i]? =none:=by simp;omega
   have h4:(List.range (min m (n-k)))[i]? =none:=by simp;omega
   simp[h1,h3,h4]
 ·have h4:(List.range (min m (n-k)))[i]? =none:=by simp;omega
  simp[h1,h4]
theorem Lx(s:Screen)(r:Rect)(i j:Nat):
  rowsOf s ⟨r.x+16*i,r.y+16*j,min 16 (r.w-16*i),min 16 (r.h-16*j)⟩=cut (rowsOf s r) (16*i) (16*j) 16 16:=by
 unfold rowsOf cut
 rw[HH]
 simp only[List.map_map]
 apply List.map_congr_left
 intro b _
 simp only[Function.comp]
 rw[HH]
 apply List.map_congr_left
 intro a _
 have e1:r.x+16*i+a=r.x+(16*i+a):=by omega
 have e2:r.y+16*j+b=r.y+(16*j+b):=by omega
 rw[e1,e2]
theorem Xh{s:Screen}{rs:List (List Nat)}(e:s.colors=rs.flatten)(h:∀r ∈ rs,r.length=s.w){x y:Nat}(hx:x<s.w):s.at_ (x,y)=((rs[y]?).bind fun r=>r[x]?).getD 0:=by
 unfold Screen.at_
 rw[e,List.getD_eq_getElem?_getD,Ji h hx]
theorem Ox{s:Screen}{rs:List (List Nat)}(e:s.colors=rs.flatten)(h:∀r ∈ rs,r.length=s.w)(hh:rs.length=s.h){r:Rect}(hx:r.x+r.w≤s.w)(hy:r.y+r.h≤s.h):
  rowsOf s r=cut rs r.x r.y r.w r.h:=by
 unfold rowsOf cut
 apply List.ext_getElem
 ·simp;omega
 ·intro j h1 h2
  simp only[List.length_map,List.length_range]at h1
  simp only[List.getElem_map,List.getElem_range,List.getElem_take,List.getElem_drop]
  have hj:r.y+j<rs.length:=by omega
  have hl:(rs[r.y+j]).length=s.w:=h _ (List.getElem_mem hj)
  apply List.ext_getElem
  ·simp;omega
  ·intro i h3 h4
   simp only[List.length_map,List.length_range]at h3
   simp only[List.getElem_map,List.getElem_range,List.getElem_take,List.getElem_drop]
   rw[Xh e h (by omega),List.getElem?_eq_getElem hj]
   simp only[Option.bind_some]
   rw[List.getElem?_eq_getElem (by omega)]
   rfl
theorem xf(s:Screen)(r:Rect):r.points.map s.at_=(rowsOf s r).flatten:=by
 unfold Rect.points rowsOf
 rw[List.map_flatMap,←List.flatMap_def]
 congr 1
 funext j
 rw[List.map_map]
 rfl
theorem Oz(f:Form)(s:Screen)(r:Rect):raw f s r=(rowsOf s r).flatten.flatMap f.bytes:=by
 unfold raw
 rw[←xf,List.flatMap_map]
noncomputable abbrev Sg:=Nat × Nat × Nat × Nat
noncomputable def lM(y:Nat):Nat→List Nat→List Sg
 | _,[]=> []
 | x,c::r=>match lM y (x+1) r with
  | (d,a,b,n)::l=>if d=c then (c,x,y,n+1)::l else (c,x,y,1)::(d,a,b,n)::l
  | []=> [(c,x,y,1)]
theorem strs_cons(y x c:Nat)(r:List Nat):lM y x (c::r)=match lM y (x+1) r with
 | (d,a,b,n)::l=>if d=c then (c,x,y,n+1)::l else (c,x,y,1)::(d,a,b,n)::l
 | []=> [(c,x,y,1)]:=rfl
theorem zW(y:Nat):∀(r:List Nat)(c x:Nat),∃n l,lM y x (c::r)=(c,x,y,n+1)::l∧∀t ∈ l,x<t.2.1
 | [],c,x=>⟨0,[],rfl,by simp⟩
 | d::r,c,x=>by
  obtain⟨n,l,e,hl⟩:=zW y r d (x+1)
  rw[strs_cons,e]
  dsimp only
  by_cases hd:d=c
  ·rw[if_pos hd]
   exact⟨n+1,l,rfl,fun t ht=>by have:=hl t ht;omega⟩
  ·rw[if_neg hd]
   refine⟨0,_,rfl,fun t ht=> ?_⟩
   rcases List.mem_cons.mp ht with rfl | ht
   ·exact Nat.lt_succ_self _
   ·have:=hl t ht;omega
theorem OD(y:Nat):∀(row:List Nat)(x:Nat),∀t ∈ lM y x row,t.2.2.1=y∧1≤t.2.2.2∧t.1 ∈ row
 | [],_,t,h=>by simp[lM]at h
 | c::r,x,t,h=>by
  rw[strs_cons]at h
  have ih:=OD y r (x+1)
  split at h
  ·rename_i d a b n l e
   rw[e]at ih
   split at h
   ·rename_i hd
    rcases List.mem_cons.mp h with rfl | h
    ·exact⟨rfl,by simp,by simp⟩
    ·have:=ih t (by simp[h]);exact⟨this.1,this.2.1,by simp[this.2.2]⟩
   ·rcases List.mem_cons.mp h with rfl | h
    ·exact⟨rfl,by simp,by simp⟩
    ·have:=ih t h;exact⟨this.1,this.2.1,by simp[this.2.2]⟩
  ·simp at h;subst h;simp
noncomputable def lB(t:Sg):Nat × Nat × Nat × Nat:=(t.2.1,t.2.2.1,t.2.2.2,t.1)
theorem HJ(bg y:Nat):∀(row:List Nat)(x:Nat),runsIn bg y x row=((lM y x row).filter fun t=>decide (t.1≠bg)).map lB
 | [],x=>rfl
 | c::r,x=>by
  have ih:=HJ bg y r (x+1)
  rw[runsIn,ih]
  by_cases hr:r= []
  ·subst hr
   by_cases hc:c=bg
   ·simp[lM,hc]
   ·simp[lM,hc,lB]
  ·obtain⟨d,r',rfl⟩:=List.exists_cons_of_ne_nil hr
   obtain⟨n,l,e,hl⟩:=zW y r' d (x+1)
   rw[strs_cons y x c,e]
   dsimp only
   by_cases hd:d=bg
   ·subst hd
    have ef:((d,x+1,y,n+1)::l).filter (fun t:Sg=>decide (t.1≠d))=l.filter fun t=>decide (t.1≠d):=by simp
    rw[ef]
    by_cases hc:c=d
    ·subst hc
     simp only[if_true]
     have ef2:((c,x,y,n+1+1)::l).filter (fun t:Sg=>decide (t.1≠c))=l.filter fun t=>decide (t.1≠c):=by simp
     rw[ef2]
     cases l.filter fun t=>decide (t.1≠c)<;>simp
    ·have hc':¬d=c:=fun h=>hc h.symm
     rw[if_neg hc']
     have ef2:((c,x,y,1)::(d,x+1,y,n+1)::l).filter (fun t:Sg=>decide (t.1≠d))=(c,x,y,1)::l.filter fun t=>decide (t.1≠d):=by simp[hc]
     rw[ef2]
     cases el:l.filter fun t=>decide (t.1≠d)with
     | nil=>simp[hc,lB]
     | cons t q=>
      have ht:t ∈ l:=(List.mem_filter.mp (by rw[el];simp:t ∈ l.filter fun t=>decide (t.1≠d))).1
      have:=hl t ht
      simp only[List.map_cons,lB,hc,if_false]
      rw[if_neg (by omega)]
   ·have ef:((d,x+1,y,n+1)::l).filter (fun t:Sg=>decide (t.1≠bg))=(d,x+1,y,n+1)::l.filter fun t=>decide (t.1≠bg):=by simp[hd]
    rw[ef]
    simp only[List.map_cons,lB]
    by_cases hc:c=bg
    ·have hdc:¬d=c:=fun h=>hd (h.trans hc)
     rw[if_pos hc,if_neg hdc]
     have ef2:((c,x,y,1)::(d,x+1,y,n+1)::l).filter (fun t:Sg=>decide (t.1≠bg))=(d,x+1,y,n+1)::l.filter fun t=>decide (t.1≠bg):=by simp[hd,hc]
     rw[ef2]
     simp[lB]
    ·rw[if_neg hc]
     by_cases hdc:d=c
     ·rw[if_pos hdc]
      subst hdc
      simp[lB,hd]
     ·rw[if_neg hdc]
      simp[lB,hd,hc,hdc]
theorem HN(y c d:Nat)(r:List Nat)(hd:d≠c):∀(n x:Nat),lM y x (List.replicate (n+1) c++d::r)=(c,x,y,n+1)::lM y (x+(n+1)) (d::r)
 | 0,x=>by
  show lM y x (c::d::r)=_
  obtain⟨n,l,e,hl⟩:=zW y r d (x+1)
  rw[strs_cons,e]
  dsimp only
  rw[if_neg hd]
 | n+1,x=>by
  rw[List.replicate_succ,List.cons_append,strs_cons,HN y c d r hd n (x+1)]
  simp only[if_true]
  congr 2
  omega
theorem zX(y c:Nat):∀(n x:Nat),lM y x (List.replicate (n+1) c)= [(c,x,y,n+1)]
 | 0,x=>rfl
 | n+1,x=>by
  rw[List.replicate_succ,strs_cons,zX y c n (x+1)]
  simp only[if_true]
noncomputable def spread(l:List Sg):List Nat:=l.flatMap fun t=>List.replicate t.2.2.2 t.1
theorem Ba(y:Nat):∀(row:List Nat)(x:Nat),spread (lM y x row)=row
 | [],_=>rfl
 | c::r,x=>by
  have ih:=Ba y r (x+1)
  rw[strs_cons]
  split
  ·rename_i d a b n l e
   rw[e]at ih
   split
   ·rename_i hd
    subst hd
    unfold spread at *
    rw[List.flatMap_cons]at *
    simp only[List.replicate_succ,List.cons_append]at *
    rw[ih]
   ·unfold spread at *
    rw[List.flatMap_cons,ih]
    rfl
  ·rename_i e
   rw[e]at ih
   simp[spread]at ih ⊢
   exact ih
noncomputable def allStrs:Nat→List (List Nat)→List Sg
 | _,[]=> []
 | y,row::rows=>lM y 0 row++allStrs (y+1) rows
theorem Gv(a b:List Sg):spread (a++b)=spread a++spread b:=by simp[spread]
theorem ni:∀(rows:List (List Nat))(y:Nat),spread (allStrs y rows)=rows.flatten
 | [],_=>rfl
 | row::rows,y=>by rw[allStrs,Gv,Ba,ni rows,List.flatten_cons]
theorem yp:∀(rows:List (List Nat))(y:Nat),∀t ∈ allStrs y rows,1≤t.2.2.2
 | [],_,t,h=>by simp[allStrs]at h
 | row::rows,y,t,h=>by
  rw[allStrs,List.mem_append]at h
  rcases h with h | h
  ·exact(OD y row 0 t h).2.1
  ·exact yp rows (y+1) t h
theorem yq(bg:Nat):∀(n k:Nat)(F:Nat→List Nat),((List.range n).flatMap fun j=>runsIn bg (k+j) 0 (F j))=((allStrs k ((List.range n).map F)).filter fun t=>decide (t.1≠bg)).map lB
 | 0,_,_=>rfl
 | n+1,k,F=>by
  rw[List.range_succ_eq_map,List.flatMap_cons,List.map_cons,allStrs,List.filter_append,List.map_append,←HJ,List.flatMap_map,List.map_map]
  have:=yq bg n (k+1) (fun j=>F (j+1))
  have e:(fun j=>runsIn bg (k+1+j) 0 (F (j+1)))=fun j=>runsIn bg (k+Nat.succ j) 0 (F (Nat.succ j)):=by
   funext j
   have:k+1+j=k+Nat.succ j:=by omega
   rw[this]
  rw[e]at this
  rw[this]
  rfl
theorem Ly(s:Screen)(r:Rect)(bg:Nat):runs s r bg=((allStrs 0 (rowsOf s r)).filter fun t=>decide (t.1≠bg)).map lB:=by
 have:=yq bg r.h 0 (fun j=>(List.range r.w).map fun i=>s.at_ (r.x+i,r.y+j))
 simp only[Nat.zero_add]at this
 unfold runs rowsOf
 exact this
noncomputable def fm(cnt:Nat→Nat)(g:Nat)(l:List Nat):Nat:=l.foldl (fun c x=>if cnt c<cnt x then x else c) g
theorem U7(cnt:Nat→Nat)(g:Nat):fm cnt g []=g:=rfl
theorem kO(cnt:Nat→Nat)(g x:Nat)(l:List Nat):fm cnt g (x::l)=fm cnt (if cnt g<cnt x then x else g) l:=rfl
theorem uZ(cnt:Nat→Nat)(g:Nat)(l m:List Nat):fm cnt g (l++m)=fm cnt (fm cnt g l) m:=List.foldl_append
theorem R7{cnt:Nat→Nat}{g x:Nat}(h:cnt x≤cnt g)(l:List Nat):fm cnt g (x::l)=fm cnt g l:=by rw[kO,if_neg (by omega)]
theorem YF(cnt:Nat→Nat):∀(l:List Nat)(g:Nat),cnt g≤cnt (fm cnt g l)∧∀x ∈ l,cnt x≤cnt (fm cnt g l)
 | [],g=>⟨Nat.le_refl _,by simp⟩
 | x::l,g=>by
  rw[kO]
  have ih:=YF cnt l (if cnt g<cnt x then x else g)
  have hx:cnt g≤cnt (if cnt g<cnt x then x else g)∧cnt x≤cnt (if cnt g<cnt x then x else g):=by split<;>omega
  refine⟨by omega,fun y hy=> ?_⟩
  rcases List.mem_cons.mp hy with rfl | hy
  ·omega
  ·exact ih.2 y hy
theorem OJ(cnt:Nat→Nat):∀(l:List Nat)(g:Nat),fm cnt g l=g∨fm cnt g l ∈ l
 | [],g=> .inl rfl
 | x::l,g=>by
  rw[kO]
  rcases OJ cnt l (if cnt g<cnt x then x else g)with h | h
  ·rw[h];split
   ·exact .inr (by simp)
   ·exact .inl rfl
  ·exact .inr (by simp[h])
theorem U8(cnt:Nat→Nat)(c:Nat):∀(n g:Nat)(l:List Nat),fm cnt g (List.replicate (n+1) c++l)=fm cnt g (c::l)
 | 0,g,l=>rfl
 | n+1,g,l=>by
  rw[List.replicate_succ,List.cons_append,kO,U8 cnt c n,kO,kO]
  congr 1
  by_cases h:cnt g<cnt c
  ·rw[if_pos h,if_neg (by omega)]
  ·rw[if_neg h,if_neg h]
theorem HQ(cnt:Nat→Nat):∀(ss:List Sg)(g:Nat),(∀t ∈ ss,1≤t.2.2.2)→fm cnt g (spread ss)=fm cnt g (ss.map (·.1))
 | [],_,_=>rfl
 | t::ss,g,h=>by
  obtain⟨n,hn⟩:∃n,t.2.2.2=n+1:=⟨t.2.2.2-1,by have:=h t (by simp);omega⟩
  unfold spread
  rw[List.flatMap_cons,hn,U8,List.map_cons,kO,kO]
  exact HQ cnt ss _ (fun q hq=>h q (by simp[hq]))
noncomputable def yr(cd:List (Nat × Nat))(c n:Nat):List (Nat × Nat):=if (cd.any fun p=>decide (p.1=c))=true then cd.map (fun p=>if p.1=c then (p.1,p.2+n)else p)else cd ++ [(c,n)]
noncomputable def jL(cd:List (Nat × Nat))(c:Nat):Nat:=((cd.find? fun p=>decide (p.1=c)).map (·.2)).getD 0
theorem yt(cd:List (Nat × Nat))(c:Nat):(cd.any fun p=>decide (p.1=c))=true↔c ∈ cd.map (·.1):=by
 simp[List.any_eq_true,List.mem_map]
theorem zY(cd:List (Nat × Nat))(c n:Nat):(yr cd c n).map (·.1)=if c ∈ cd.map (·.1)then cd.map (·.1)else cd.map (·.1) ++ [c]:=by
 unfold yr
 by_cases h:c ∈ cd.map (·.1)
 ·rw[if_pos ((yt cd c).mpr h),if_pos h,List.map_map]
  apply List.map_congr_left
  intro p _
  simp only[Function.comp]
  split<;>rfl
 ·rw[if_neg (fun q=>h ((yt cd c).mp q)),if_neg h];simp
theorem dU(p:Nat × Nat)(cd:List (Nat × Nat))(c:Nat):jL (p::cd) c=if p.1=c then p.2 else jL cd c:=by
 unfold jL
 rw[List.find?_cons]
 by_cases h:p.1=c
 ·simp[h]
 ·simp[h]
theorem DX:∀(cd:List (Nat × Nat))(c:Nat),c ∉ cd.map (·.1)→jL cd c=0
 | [],_,_=>rfl
 | p::cd,c,h=>by
  rw[dU,if_neg (fun e=>h (by simp[e])),DX cd c (fun q=>h (by simp at q ⊢;exact .inr q))]
theorem U9(cd:List (Nat × Nat))(c n d:Nat):jL (yr cd c n) d=if d=c then jL cd c+n else jL cd d:=by
 unfold yr
 by_cases h:c ∈ cd.map (·.1)
 ·rw[if_pos ((yt cd c).mpr h)]
  induction cd with
  | nil=>simp at h
  | cons p cd ih=>
   rw[List.map_cons,dU,dU,dU]
   by_cases hp:p.1=c
   ·simp only[hp,if_true]
    by_cases hd:d=c
    ·simp[hd]
    ·rw[if_neg (fun e=>hd e.symm),if_neg hd,if_neg (fun e=>hd e.symm)]
     clear ih h
     induction cd with
     | nil=>rfl
     | cons q cd ih=>
      rw[List.map_cons,dU,dU,ih]
      by_cases hq:q.1=c
      ·have hcd:¬c=d:=fun e=>hd e.symm
       simp[hq,hcd]
      ·simp[hq]
   ·have h':c ∈ cd.map (·.1):=by
     rw[List.map_cons]at h
     rcases List.mem_cons.mp h with e | e
     ·exact absurd e.symm hp
     ·exact e
    simp only[hp,if_false]
    rw[ih h']
    by_cases hd:d=c
    ·subst hd;simp[hp]
    ·simp[hd]
 ·rw[if_neg (fun q=>h ((yt cd c).mp q))]
  have e:∀(cd:List (Nat × Nat)),c ∉ cd.map (·.1)→jL (cd ++ [(c,n)]) d=if d=c then n else jL cd d:=by
   intro cd
   induction cd with
   | nil=>
        intro _;rw[List.nil_append,dU];by_cases hd:d=c
        ·simp[hd]
        ·rw[if_neg (fun e=>hd (Eq.symm e)),if_neg hd]
   | cons p cd ih=>
    intro hn
    have hp:p.1≠c:=fun e=>hn (by simp[e])
    rw[List.cons_append,dU,dU,ih (fun q=>hn (by simp at q ⊢;exact .inr q))]
    by_cases hd:d=c
    ·subst hd;simp[hp]
    ·simp[hd]
  rw[e cd h,DX cd c h]
  simp
noncomputable def fP(cd:List (Nat × Nat))(ss:List Sg):List (Nat × Nat):=ss.foldl (fun cd t=>yr cd t.1 t.2.2.2) cd
theorem DY:∀(ss:List Sg)(cd:List (Nat × Nat))(c:Nat),jL (fP cd ss) c=jL cd c+(spread ss).count c
 | [],cd,c=>by simp[fP,spread]
 | t::ss,cd,c=>by
  show jL (fP (yr cd t.1 t.2.2.2) ss) c=_
  rw[DY ss,U9]
  unfold spread
  rw[List.flatMap_cons,List.count_append,List.count_replicate]
  by_cases h:c=t.1
  ·subst h;simp;omega
  ·rw[if_neg h,if_neg (by simp;exact fun e=>h e.symm)];simp
theorem Q8(cnt:Nat→Nat)(g:Nat):∀(ss:List Sg)(cd:List (Nat × Nat)),fm cnt g ((fP cd ss).map (·.1))=fm cnt g (cd.map (·.1)++ss.map (·.1))
 | [],cd=>by simp[fP]
 | t::ss,cd=>by
  show fm cnt g ((fP (yr cd t.1 t.2.2.2) ss).map (·.1))=_
  rw[Q8 cnt g ss,zY,List.map_cons]
  by_cases h:t.1 ∈ cd.map (·.1)
  ·rw[if_pos h,uZ,uZ,R7 ((YF cnt _ g).2 _ h)]
  ·rw[if_neg h,List.append_assoc];rfl
noncomputable def bH(ss:List Sg):Nat:=fm (jL (fP [] ss)) ((ss.map (·.1)).headD 0) ((fP [] ss).map (·.1))
theorem Lz:∀(ss:List Sg),(∀t ∈ ss,1≤t.2.2.2)→(spread ss).headD 0=(ss.map (·.1)).headD 0
 | [],_=>rfl
 | t::ss,h=>by
  obtain⟨n,hn⟩:∃n,t.2.2.2=n+1:=⟨t.2.2.2-1,by have:=h t (by simp);omega⟩
  unfold spread
  rw[List.flatMap_cons,hn,List.replicate_succ]
  rfl
theorem R8(ss:List Sg)(h:∀t ∈ ss,1≤t.2.2.2):bH ss=common (spread ss):=by
 have e1:jL (fP [] ss)=fun c=>(spread ss).count c:=by
  funext c
  rw[DY]
  simp[jL]
 unfold bH
 rw[Q8,e1,List.map_nil,List.nil_append,←Lz ss h,←HQ _ ss _ h]
 rfl
theorem xg{l:List Nat}(h:l≠ []):common l ∈ l:=by
 obtain⟨a,r,rfl⟩:=List.exists_cons_of_ne_nil h
 rcases OJ (fun c=>(a::r).count c) (a::r) a with e | e
 ·have:common (a::r)=a:=e
  rw[this];simp
 ·exact e
theorem lC(rows:List (List Nat)):common rows.flatten=bH (allStrs 0 rows):=by
 rw[R8 _ (yp rows 0),ni]
end Fs
end
section
namespace Fs
open Sw32
theorem bW(n x:Nat):(be n x).length=n:=by simp[be]
theorem u6(f:Form)(c:Nat):(f.bytes c).length=f.size:=by
 unfold Form.bytes
 dsimp only
 split<;>simp[bW]
theorem jD(f:Form):∀l:List Nat,(l.flatMap f.bytes).length=f.size*l.length
 | []=>by simp
 | c::l=>by rw[List.flatMap_cons,List.length_append,u6,jD f l,List.length_cons,Nat.mul_add];omega
noncomputable def du(ss:List Sg)(bg:Nat):List Sg:=ss.filter fun t=>decide (t.1≠bg)
noncomputable def qJ(f:Form)(rows:List (List Nat)):B:=
 be 4 (du (allStrs 0 rows) (bH (allStrs 0 rows))).length++(f.bytes (bH (allStrs 0 rows)) ++
  (du (allStrs 0 rows) (bH (allStrs 0 rows))).flatMap fun t=>f.bytes t.1++(be 2 t.2.1++(be 2 t.2.2.1++(be 2 t.2.2.2++be 2 1))))
theorem HR(f:Form)(s:Screen)(r:Rect):byRuns f s r=qJ f (rowsOf s r):=by
 unfold byRuns qJ du
 dsimp only
 rw[xf,lC,Ly,List.length_map,List.flatMap_map]
 rfl
noncomputable def gm:List Sg→Option Nat
 | []=>none
 | t::r=>if (r.all fun u=>decide (u.1=t.1))=true then some t.1 else none
theorem Gw(a:Nat)(r:List Nat):((a::r).eraseDups.length==1)=r.all fun b=>decide (b=a):=by
 rw[List.eraseDups_cons]
 cases h:r.filter fun b=> !b==a with
 | nil=>
  have:(r.all fun b=>decide (b=a))=true:=by
   rw[List.all_eq_true]
   intro b hb
   have:=List.filter_eq_nil_iff.mp h b hb
   simpa using this
  rw[this];rfl
 | cons b q=>
  have hb:b ∈ r.filter fun b=> !b==a:=by rw[h];simp
  have h2:=List.mem_filter.mp hb
  have:(r.all fun b=>decide (b=a))=false:=by
   rw[List.all_eq_false]
   exact⟨b,h2.1,by simpa using h2.2⟩
  rw[this,List.eraseDups_cons]
  simp
theorem Ea(a:Nat)(r:List Nat):(a::r).eraseDups.headD 0=a:=by rw[List.eraseDups_cons];rfl
noncomputable def aZ(f:Form)(last:Option Nat)(bg:Nat):Nat × B:=if last=some bg then (0,[])else (2,f.bytes bg)
noncomputable def dB(f:Form)(last:Option Nat)(col:Option Nat):Nat × B:=match col with
 | none=>(16,[])
 | some c=>if last=some c then (0,[])else (4,f.bytes c)
noncomputable def kW(f:Form)(col:Option Nat)(t:Sg):B:=(match col with | none=>f.bytes t.1 | some _=> []) ++ [16*t.2.1+t.2.2.1,16*(t.2.2.2-1)]
noncomputable def ie(f:Form)(last:Option Nat × Option Nat)(bg:Nat)(rs:List Sg):B:=
 (8+((aZ f last.1 bg).1+(dB f last.2 (gm rs)).1))::((aZ f last.1 bg).2++((dB f last.2 (gm rs)).2++(rs.length::rs.flatMap (kW f (gm rs)))))
noncomputable def pQ(f:Form)(last:Option Nat × Option Nat)(rows:List (List Nat)):B × (Option Nat × Option Nat):=
 if du (allStrs 0 rows) (bH (allStrs 0 rows))= []then
  ((aZ f last.1 (bH (allStrs 0 rows))).1::(aZ f last.1 (bH (allStrs 0 rows))).2,(some (bH (allStrs 0 rows)),last.2))
 else if (1::rows.flatten.flatMap f.bytes).length≤(ie f last (bH (allStrs 0 rows)) (du (allStrs 0 rows) (bH (allStrs 0 rows)))).length then (1::rows.flatten.flatMap f.bytes,(none,none))
 else (ie f last (bH (allStrs 0 rows)) (du (allStrs 0 rows) (bH (allStrs 0 rows))),(some (bH (allStrs 0 rows)),gm (du (allStrs 0 rows) (bH (allStrs 0 rows)))))
theorem LC(bg:Nat):∀ss:List Sg,(∀t ∈ ss,1≤t.2.2.2)→(du ss bg).length+(spread ss).count bg≤(spread ss).length
 | [],_=>by simp[du,spread]
 | t::ss,h=>by
  have ih:=LC bg ss (fun q hq=>h q (by simp[hq]))
  have h1:=h t (by simp)
  unfold du spread at *
  rw[List.flatMap_cons,List.count_append,List.length_append,List.count_replicate,List.length_replicate]
  by_cases e:t.1=bg
  ·have:(t::ss).filter (fun t:Sg=>decide (t.1≠bg))=ss.filter fun t=>decide (t.1≠bg):=by simp[e]
   rw[this,if_pos (by simp[e])];omega
  ·have:(t::ss).filter (fun t:Sg=>decide (t.1≠bg))=t::ss.filter fun t=>decide (t.1≠bg):=by simp[e]
   rw[this,if_neg (by simpa using e),List.length_cons];omega
theorem Xi(rows:List (List Nat))(h:rows.flatten≠ []):(du (allStrs 0 rows) (bH (allStrs 0 rows))).length+1≤rows.flatten.length:=by
 have h1:=LC (bH (allStrs 0 rows)) (allStrs 0 rows) (yp rows 0)
 rw[ni]at h1
 have h2:bH (allStrs 0 rows) ∈ rows.flatten:=by rw[←lC];exact xg h
 have:=List.count_pos_iff.mpr h2
 omega
theorem Xj(f:Form)(s:Screen)(last:Option Nat × Option Nat)(t:Rect)(h0:(rowsOf s t).flatten≠ [])(h1:(rowsOf s t).flatten.length≤256):tile f s last t=pQ f last (rowsOf s t):=by
 unfold tile pQ
 dsimp only
 rw[xf,lC,Ly]
 have hfew:=Xi (rowsOf s t) h0
 show (if List.map lB (du (allStrs 0 (rowsOf s t)) (bH (allStrs 0 (rowsOf s t))))= []then _ else _)=_
 change _=(if du (allStrs 0 (rowsOf s t)) (bH (allStrs 0 (rowsOf s t)))= []then _ else _)
 have ef:((allStrs 0 (rowsOf s t)).filter fun t_1=>decide (t_1.1≠bH (allStrs 0 (rowsOf s t))))=du (allStrs 0 (rowsOf s t)) (bH (allStrs 0 (rowsOf s t))):=rfl
 rw[ef]
 generalize hrs:du (allStrs 0 (rowsOf s t)) (bH (allStrs 0 (rowsOf s t)))=rs at *
 generalize bH (allStrs 0 (rowsOf s t))=bg at *
 by_cases hn:rs= []
 ·subst hn
  simp only[List.map_nil,if_true,aZ]
 ·have hn':¬List.map lB rs= []:=by simpa using hn
  rw[if_neg hn',if_neg hn]
  obtain⟨u,q,rfl⟩:=List.exists_cons_of_ne_nil hn
  have e1:((List.map lB (u::q)).map fun x=>x.2.2.2)=u.1::q.map (·.1):=by
   simp[lB]
  have e2:((u.1::q.map (·.1)).eraseDups.length==1)=(q.all fun v=>decide (v.1=u.1)):=by
   rw[Gw,List.all_map];rfl
  rw[e1,e2,Ea]
  have hb:((8+((if last.1=some bg then ((0 :Nat),([]:B))else (2,f.bytes bg)).1+(if (q.all fun v=>decide (v.1=u.1))=false then ((16 :Nat),([]:B))else if last.2=some u.1 then (0,[])else (4,f.bytes u.1)).1)) ::
    ((if last.1=some bg then ((0 :Nat),([]:B))else (2,f.bytes bg)).2++((if (q.all fun v=>decide (v.1=u.1))=false then ((16 :Nat),([]:B))else if last.2=some u.1 then (0,[])else (4,f.bytes u.1)).2 ++
     ((List.map lB (u::q)).length::(List.map lB (u::q)).flatMap fun x=>(if (q.all fun v=>decide (v.1=u.1))=true then []else f.bytes x.2.2.2) ++ [16*x.1+x.2.1,16*(x.2.2.1-1)]))))=ie f last bg (u::q):=by
   unfold ie aZ dB gm
   rw[List.length_map,List.flatMap_map]
   dsimp only
   cases hq:q.all fun v=>decide (v.1=u.1)
   ·simp only[hq,Bool.false_eq_true,if_false,if_true]
    rfl
   ·simp only[hq,Bool.true_eq_false,if_true,if_false]
    rfl
  rw[hb]
  have hl:(1::(rowsOf s t).flatten.flatMap f.bytes).length=1+f.size*(rowsOf s t).flatten.length:=by rw[List.length_cons,jD];omega
  have hc:(255<(List.map lB (u::q)).length∨1+f.size*(rowsOf s t).flatten.length≤(ie f last bg (u::q)).length)↔(1::(rowsOf s t).flatten.flatMap f.bytes).length≤(ie f last bg (u::q)).length:=by
   rw[hl,List.length_map]
   constructor
   ·rintro(h | h)
    ·omega
    ·exact h
   ·exact .inr
  by_cases hcc:(1::(rowsOf s t).flatten.flatMap f.bytes).length≤(ie f last bg (u::q)).length
  ·rw[if_pos (hc.mpr hcc),if_pos hcc,Oz]
  ·rw[if_neg (fun h=>hcc (hc.mp h)),if_neg hcc]
   rfl
noncomputable def qK(rows:List (List Nat))(w:Nat):List (List (List Nat)):=(List.range ((rows.length+15) / 16)).flatMap fun j=>(List.range ((w+15) / 16)).map fun i=>cut rows (16*i) (16*j) 16 16
noncomputable def Eb(f:Form)(x:B × (Option Nat × Option Nat))(rows:List (List Nat)):B × (Option Nat × Option Nat):=(x.1++(pQ f x.2 rows).1,(pQ f x.2 rows).2)
noncomputable def nj(f:Form)(rows:List (List Nat))(w:Nat):B:=((qK rows w).foldl (Eb f) ([],(none,none))).1
theorem xj(s:Screen)(r:Rect):(rowsOf s r).length=r.h:=by simp[rowsOf]
theorem LK(s:Screen)(r:Rect):∀q ∈ rowsOf s r,q.length=r.w:=by
 intro q hq
 simp only[rowsOf,List.mem_map]at hq
 obtain⟨j,_,rfl⟩:=hq
 simp
theorem tY(s:Screen)(r:Rect):(rowsOf s r).flatten.length=r.w*r.h:=by
 rw[Lw _ (LK s r),xj]
theorem HS{α β:Type}{f g:β→α→β}:∀(l:List α)(b:β),(∀b a,a ∈ l→f b a=g b a)→l.foldl f b=l.foldl g b
 | [],_,_=>rfl
 | a::l,b,h=>by
  rw[List.foldl_cons,List.foldl_cons,h b a (by simp)]
  exact HS l _ (fun b c hc=>h b c (by simp[hc]))
theorem Va{r t:Rect}(h:t ∈ tiles r):1≤t.w∧t.w≤16∧1≤t.h∧t.h≤16:=by
 simp only[tiles,List.mem_flatMap,List.mem_map,List.mem_range]at h
 obtain⟨j,hj,i,hi,rfl⟩:=h
 dsimp only
 omega
theorem Ec(f:Form)(s:Screen)(r:Rect):byTiles f s r=nj f (rowsOf s r) r.w:=by
 unfold byTiles nj
 have e:qK (rowsOf s r) r.w=(tiles r).map (rowsOf s):=by
  unfold qK tiles
  rw[xj,List.map_flatMap]
  congr 1
  funext j
  rw[List.map_map]
  apply List.map_congr_left
  intro i _
  exact(Lx s r i j).symm
 rw[e,List.foldl_map]
 congr 1
 apply HS
 intro x t ht
 have ok:=Va ht
 have hl:=tY s t
 have h16:t.w*t.h≤16*16:=Nat.mul_le_mul (by omega) (by omega)
 have h11:1*1≤t.w*t.h:=Nat.mul_le_mul (by omega) (by omega)
 have:=Xj f s x.2 t (fun q=>by rw[q]at hl;simp at hl;omega) (by omega)
 unfold Eb
 rw[this]
theorem LQ(y:Nat):∀(row:List Nat)(x:Nat),(lM y x row).length≤row.length
 | [],_=>by simp[lM]
 | c::r,x=>by
  have ih:=LQ y r (x+1)
  rw[strs_cons]
  split
  ·rename_i e
   rw[e]at ih
   split<;>simp at * <;> omega
  ·simp
theorem yu:∀(rows:List (List Nat))(y:Nat),(allStrs y rows).length≤rows.flatten.length
 | [],_=>by simp[allStrs]
 | row::rows,y=>by
  have h1:=LQ y row 0
  have h2:=yu rows (y+1)
  rw[allStrs,List.length_append,List.flatten_cons,List.length_append];omega
theorem u9(ss:List Sg)(bg:Nat):(du ss bg).length≤ss.length:=List.length_filter_le _ _
theorem tZ(f:Form):∀l:List Sg,(l.flatMap fun t=>f.bytes t.1++(be 2 t.2.1++(be 2 t.2.2.1++(be 2 t.2.2.2++be 2 1)))).length=(f.size+8)*l.length
 | []=>by simp
 | t::l=>by
  rw[List.flatMap_cons,List.length_append,tZ f l]
  simp only[List.length_append,u6,bW,List.length_cons,Nat.mul_add];omega
theorem LR(f:Form)(rows:List (List Nat))(hf:f.size≤4)(hn:rows.flatten.length≤307200):(qJ f rows).length≤3700000:=by
 unfold qJ
 have h1:=yu rows 0
 have h2:=u9 (allStrs 0 rows) (bH (allStrs 0 rows))
 simp only[List.length_append,bW,u6,tZ]
 have h3:(f.size+8)*(du (allStrs 0 rows) (bH (allStrs 0 rows))).length≤12*307200:=Nat.mul_le_mul (by omega) (by omega)
 omega
theorem jE(f:Form)(hf:f.size≤4)(last:Option Nat)(bg:Nat):(aZ f last bg).2.length≤4:=by
 unfold aZ;split<;>simp[u6,hf]
theorem HW(f:Form)(hf:f.size≤4)(last:Option Nat × Option Nat)(rows:List (List Nat))(hn:rows.flatten.length≤256):(pQ f last rows).1.length≤1025:=by
 have hl:(1::rows.flatten.flatMap f.bytes).length≤1025:=by
  rw[List.length_cons,jD]
  have:f.size*rows.flatten.length≤4*256:=Nat.mul_le_mul hf hn
  omega
 unfold pQ
 split
 ·have:=jE f hf last.1 (bH (allStrs 0 rows));simp;omega
 ·split
  ·exact hl
  ·dsimp only;omega
theorem HX(f:Form)(hf:f.size≤4):∀(l:List (List (List Nat)))(x:B × (Option Nat × Option Nat)),(∀t ∈ l,t.flatten.length≤256)→(l.foldl (Eb f) x).1.length≤x.1.length+1025*l.length
 | [],x,_=>by simp
 | t::l,x,h=>by
  have ih:=HX f hf l (Eb f x t) (fun q hq=>h q (by simp[hq]))
  have h1:=HW f hf x.2 t (h t (by simp))
  have h2:(Eb f x t).1.length=x.1.length+(pQ f x.2 t).1.length:=by simp[Eb]
  rw[List.foldl_cons,List.length_cons,Nat.mul_add];omega
theorem JC{α:Type}(rs:List (List α))(x y w h:Nat):(cut rs x y w h).flatten.length≤w*h:=by
 have:∀(l:List (List α)),(∀r ∈ l,r.length≤w)→l.flatten.length≤w*l.length:=by
  intro l
  induction l with
  | nil=>simp
  | cons r l ih=>
   intro hr
   have h1:=hr r (by simp)
   have h2:=ih (fun q hq=>hr q (by simp[hq]))
   rw[List.flatten_cons,List.length_append,List.length_cons,Nat.mul_add];omega
 refine Nat.le_trans (this _ ?_) (Nat.mul_le_mul (Nat.le_refl _) ?_)
 ·intro r hr
  simp only[cut,List.mem_map]at hr
  obtain⟨q,_,rfl⟩:=hr
  simp;omega
 ·simp[cut];omega
theorem O1(rows:List (List Nat))(w:Nat):(qK rows w).length=((rows.length+15) / 16)*((w+15) / 16):=by
 unfold qK
 have:∀(l:List Nat),(l.flatMap fun j=>(List.range ((w+15) / 16)).map fun i=>cut rows (16*i) (16*j) 16 16).length=l.length*((w+15) / 16):=by
  intro l
  induction l with
  | nil=>simp
  | cons a l ih=>rw[List.flatMap_cons,List.length_append,ih,List.length_map,List.length_range,List.length_cons,Nat.add_mul];omega
 rw[this,List.length_range]
theorem JD(rows:List (List Nat))(w:Nat):∀t ∈ qK rows w,t.flatten.length≤256:=by
 intro t ht
 simp only[qK,List.mem_flatMap,List.mem_map]at ht
 obtain⟨j,_,i,_,rfl⟩:=ht
 exact JC _ _ _ _ _
theorem JF(f:Form)(hf:f.size≤4)(rows:List (List Nat))(w:Nat)(h1:rows.length≤480)(h2:w≤640):(nj f rows w).length≤1230000:=by
 have:=HX f hf (qK rows w) ([],(none,none)) (JD rows w)
 rw[O1]at this
 have h3:((rows.length+15) / 16)*((w+15) / 16)≤30*40:=Nat.mul_le_mul (by omega) (by omega)
 unfold nj
 simp at this
 omega
end Fs
end
section
namespace Fs
open Sw32
noncomputable def pR{α:Type}(row:List α)(x:Nat)(cols:List α):List α:=row.take x++cols++row.drop (x+cols.length)
theorem Ed{α:Type}{row cols:List α}{x:Nat}(h:x+cols.length≤row.length)(i:Nat):(pR row x cols)[i]? =if x≤i∧i<x+cols.length then cols[i-x]? else row[i]? :=by
 have h1:(row.take x).length=x:=by simp;omega
 unfold pR
 by_cases c1:i<x
 ·rw[List.append_assoc,List.getElem?_append_left (by omega),List.getElem?_take_of_lt c1,if_neg (by omega)]
 ·by_cases c2:i<x+cols.length
  ·rw[List.append_assoc,List.getElem?_append_right (by omega),h1,List.getElem?_append_left (by omega),if_pos (by omega)]
  ·rw[List.getElem?_append_right (by simp;omega),List.getElem?_drop,if_neg (by omega)]
   congr 1
   simp;omega
theorem uc{α:Type}{row cols:List α}{x:Nat}(h:x+cols.length≤row.length):(pR row x cols).length=row.length:=by
 simp[pR];omega
noncomputable def j4{α:Type}(rs:List (List α))(y k:Nat)(F:Nat→List α→List α):List (List α):=rs.mapIdx fun j r=>if y≤j∧j<y+k then F (j-y) r else r
theorem qL{α:Type}(rs:List (List α))(y k:Nat)(F:Nat→List α→List α):(j4 rs y k F).length=rs.length:=by simp[j4]
theorem jg{α:Type}(rs:List (List α))(y k:Nat)(F:Nat→List α→List α)(j:Nat):(j4 rs y k F)[j]? =(rs[j]?).map fun r=>if y≤j∧j<y+k then F (j-y) r else r:=by simp[j4]
theorem lD{α:Type}(rs:List (List α))(y:Nat)(F:Nat→List α→List α):j4 rs y 0 F=rs:=by
 apply List.ext_getElem?
 intro j
 rw[jg]
 cases rs[j]? with
 | none=>rfl
 | some r=>simp;intro h1 h2;omega
theorem zZ{α:Type}(rs:List (List α))(y k:Nat)(F:Nat→List α→List α):(j4 rs y k F)[y+k]? =rs[y+k]? :=by
 rw[jg]
 cases rs[y+k]? with
 | none=>rfl
 | some r=>simp
theorem ud{α:Type}{rs:List (List α)}{y k:Nat}(F:Nat→List α→List α){r:List α}(h:rs[y+k]? =some r):(j4 rs y k F).set (y+k) (F k r)=j4 rs y (k+1) F:=by
 apply List.ext_getElem?
 intro j
 have hl:=(List.getElem?_eq_some_iff.mp h).1
 rw[jg]
 by_cases e:j=y+k
 ·subst e
  rw[List.getElem?_set_self (by rw[qL];exact hl),h]
  simp
 ·rw[List.getElem?_set_ne (fun q=>e q.symm),jg]
  cases rs[j]? with
  | none=>rfl
  | some q=>
   simp only[Option.map_some]
   by_cases c:y≤j∧j<y+k
   ·rw[if_pos c,if_pos (by omega)]
   ·rw[if_neg c,if_neg (by omega)]
theorem n8{α:Type}{rs:List (List α)}{w:Nat}(h:∀r ∈ rs,r.length=w){y k:Nat}{F:Nat→List α→List α}(hF:∀b r,b<k→r ∈ rs→(F b r).length=w):∀r ∈ j4 rs y k F,r.length=w:=by
 intro r hr
 obtain⟨j,hj⟩:=List.mem_iff_getElem?.mp hr
 rw[jg]at hj
 cases e:rs[j]? with
 | none=>rw[e]at hj;cases hj
 | some q=>
  rw[e]at hj
  simp only[Option.map_some,Option.some.injEq]at hj
  have hq:q ∈ rs:=List.mem_iff_getElem?.mpr ⟨j,e⟩
  subst hj
  split
  ·exact hF _ _ (by omega) hq
  ·exact h _ hq
theorem ue{α:Type}{rs:List (List α)}{w:Nat}(hw:0<w)(h:∀r ∈ rs,r.length=w){y k:Nat}{F:Nat→List α→List α}(hF:∀b r,b<k→r ∈ rs→(F b r).length=w)(i:Nat):
  (j4 rs y k F).flatten[i]? =(rs[i / w]?).bind fun r=>(if y≤i / w∧i / w<y+k then F (i / w-y) r else r)[i % w]? :=by
 rw[m9 hw _ (n8 h hF),jg]
 cases rs[i / w]? <;> rfl
theorem nq{α β:Type}(l:List α)(g:α × Nat→β)(i:Nat):(l.zipIdx.map g)[i]? =(l[i]?).map fun a=>g (a,i):=by
 rw[List.getElem?_map,List.getElem?_zipIdx]
 cases l[i]? <;> simp
noncomputable def iM:List Bool→List Nat→List Nat→List Bool
 | m::ms,a::as,b::bs=>(if a=b then m else true)::iM ms as bs
 | _,_,_=> []
theorem pU:∀(ms:List Bool)(as bs:List Nat),ms.length=as.length→as.length=bs.length→(iM ms as bs).length=ms.length
 | [],_,_,_,_=>by simp[iM]
 | m::ms,[],_,h,_=>by simp at h
 | m::ms,a::as,[],_,h=>by simp at h
 | m::ms,a::as,b::bs,h1,h2=>by
  simp only[iM,List.length_cons]
  rw[pU ms as bs (by simpa using h1) (by simpa using h2)]
theorem z6:∀(ms:List Bool)(as bs:List Nat)(i:Nat)(m:Bool)(a b:Nat),ms[i]? =some m→as[i]? =some a→bs[i]? =some b→(iM ms as bs)[i]? =some (if a=b then m else true)
 | [],_,_,i,m,a,b,h,_,_=>by simp at h
 | _::ms,[],_,i,m,a,b,_,h,_=>by simp at h
 | _::ms,_::as,[],i,m,a,b,_,_,h=>by simp at h
 | m'::ms,a'::as,b'::bs,0,m,a,b,h1,h2,h3=>by
  simp at h1 h2 h3;subst h1;subst h2;subst h3;rfl
 | m'::ms,a'::as,b'::bs,i+1,m,a,b,h1,h2,h3=>by
  simp only[iM,List.getElem?_cons_succ]at *
  exact z6 ms as bs i m a b h1 h2 h3
theorem Ef:∀(ms:List Bool)(as:List Nat),ms.length=as.length→iM ms as as=ms
 | [],[],_=>rfl
 | [],_::_,h=>by simp at h
 | _::_,[],h=>by simp at h
 | m::ms,a::as,h=>by simp only[iM,if_true];rw[Ef ms as (by simpa using h)]
theorem Eg:∀(ms:List Bool)(as bs:List Nat),ms.length=as.length→as.length=bs.length→(∀m ∈ ms,m=true)→iM ms as bs=ms
 | [],_,_,_,_,_=>by simp[iM]
 | m::ms,[],_,h,_,_=>by simp at h
 | m::ms,a::as,[],_,h,_=>by simp at h
 | m::ms,a::as,b::bs,h1,h2,h=>by
  have hm:=h m (by simp)
  subst hm
  simp only[iM]
  rw[Eg ms as bs (by simpa using h1) (by simpa using h2) (fun q hq=>h q (by simp[hq]))]
  simp
noncomputable def lE(m:List Bool)(row:List Nat)(x:Nat)(cols:List Nat):List Bool:=pR m x (iM ((m.drop x).take cols.length) ((row.drop x).take cols.length) cols)
theorem cO{α:Type}{row:List α}{x n:Nat}(h:x+n≤row.length):((row.drop x).take n).length=n:=by simp;omega
theorem HY{m:List Bool}{row:List Nat}{x:Nat}{cols:List Nat}(h:x+cols.length≤m.length)(h2:m.length=row.length):(lE m row x cols).length=m.length:=by
 unfold lE
 rw[uc]
 rw[pU _ _ _ (by rw[cO h,cO (by omega)]) (by rw[cO (by omega)]),cO h];exact h
theorem R9{m:List Bool}{row:List Nat}{x:Nat}{cols:List Nat}(h:x+cols.length≤m.length)(h2:m.length=row.length){i:Nat}{b:Bool}{a:Nat}(hb:m[i]? =some b)(ha:row[i]? =some a):
  (lE m row x cols)[i]? =some (if x≤i∧i<x+cols.length then (b||(cols[i-x]?.any fun c=>c != a))else b):=by
 have hl:(iM ((m.drop x).take cols.length) ((row.drop x).take cols.length) cols).length=cols.length:=by
  rw[pU _ _ _ (by rw[cO h,cO (by omega)]) (by rw[cO (by omega)]),cO h]
 unfold lE
 rw[Ed (by rw[hl];exact h),hl]
 by_cases c:x≤i∧i<x+cols.length
 ·rw[if_pos c,if_pos c]
  have hc:i-x<cols.length:=by omega
  have e1:((m.drop x).take cols.length)[i-x]? =some b:=by
   rw[List.getElem?_take_of_lt hc,List.getElem?_drop]
   have:x+(i-x)=i:=by omega
   rw[this];exact hb
  have e2:((row.drop x).take cols.length)[i-x]? =some a:=by
   rw[List.getElem?_take_of_lt hc,List.getElem?_drop]
   have:x+(i-x)=i:=by omega
   rw[this];exact ha
  rw[z6 _ _ _ _ b a cols[i-x] e1 e2 (List.getElem?_eq_getElem hc),List.getElem?_eq_getElem hc]
  simp only[Option.any_some]
  by_cases e:a=cols[i-x]
  ·simp[e]
  ·have e':¬cols[i-x]=a:=fun q=>e q.symm
   simp[e,e']
 ·rw[if_neg c,if_neg c];exact hb
theorem O2{m:List Bool}{row:List Nat}{x:Nat}{cols:List Nat}(h:x+cols.length≤m.length)(h2:m.length=row.length)(ht:∀b ∈ (m.drop x).take cols.length,b=true):lE m row x cols=m:=by
 unfold lE
 rw[Eg _ _ _ (by rw[cO h,cO (by omega)]) (by rw[cO (by omega)]) ht]
 unfold pR
 rw[cO h]
 have:m.drop (x+cols.length)=(m.drop x).drop cols.length:=by rw[List.drop_drop]
 rw[this,List.append_assoc,List.take_append_drop,List.take_append_drop]
section
variable{s:Screen}{cs:List (List Nat)}{ms:List (List Bool)}{r:Rect}{color:Nat→Nat}{chunk:Nat→List Nat}
structure BW(s:Screen)(cs:List (List Nat))(ms:List (List Bool)):Prop where
 w0:0<s.w
 ec:s.colors=cs.flatten
 em:s.changed=ms.flatten
 wc:∀q ∈ cs,q.length=s.w
 wm:∀q ∈ ms,q.length=s.w
 lc:cs.length=s.h
 lm:ms.length=s.h
noncomputable def putAll(cs:List (List Nat))(x y k:Nat)(chunk:Nat→List Nat):List (List Nat):=j4 cs y k fun b row=>pR row x (chunk b)
noncomputable def jc(ms:List (List Bool))(cs:List (List Nat))(x y k:Nat)(chunk:Nat→List Nat):List (List Bool):=j4 ms y k fun b m=>lE m (cs.getD (y+b) []) x (chunk b)
theorem yw(hd:BW s cs ms)(hx:r.x+r.w≤s.w)(hy:r.y+r.h≤s.h)(hl:∀b,b<r.h→(chunk b).length=r.w)
  (hc:∀b a,b<r.h→a<r.w→(chunk b)[a]? =some (color (r.w*b+a) % 2 ^ 24)):BW (painted s r color) (putAll cs r.x r.y r.h chunk) (jc ms cs r.x r.y r.h chunk):=by
 obtain⟨w0,ec,em,wc,wm,lc,lm⟩:=hd
 have F1:∀b row,b<r.h→row ∈ cs→(pR row r.x (chunk b)).length=s.w:=fun b row hb hr=>by rw[uc (by rw[hl b hb,wc row hr];exact hx),wc row hr]
 have aan:∀b,b<r.h→(cs.getD (r.y+b) []).length=s.w:=fun b hb=>by
  have:r.y+b<cs.length:=by omega
  rw[List.getD_eq_getElem?_getD,List.getElem?_eq_getElem this]
  exact wc _ (List.getElem_mem this)
 have F2:∀b m,b<r.h→m ∈ ms→(lE m (cs.getD (r.y+b) []) r.x (chunk b)).length=s.w:=fun b m hb hm=>by rw[HY (by rw[hl b hb,wm m hm];exact hx) (by rw[wm m hm,aan b hb]),wm m hm]
 refine⟨w0,?_,?_,n8 wc F1,n8 wm F2,by rw[putAll,qL];exact lc,by rw[jc,qL];exact lm⟩
 ·unfold painted
  dsimp only
  apply List.ext_getElem?
  intro k
  rw[nq,putAll,ue w0 wc F1,ec,m9 w0 cs wc]
  cases e:cs[k / s.w]? with
  | none=>rfl
  | some row=>
   have hr:row.length=s.w:=wc _ (List.mem_iff_getElem?.mpr ⟨_,e⟩)
   have hk:k % s.w<s.w:=Nat.mod_lt _ w0
   simp only[Option.bind_some]
   have e2:row[k % s.w]? =some row[k % s.w]:=List.getElem?_eq_getElem (by omega)
   rw[e2]
   simp only[Option.map_some,Rect.has,Bool.and_eq_true,decide_eq_true_eq]
   by_cases c:r.y≤k / s.w∧k / s.w<r.y+r.h
   ·rw[if_pos c,Ed (by rw[hl _ (by omega),hr];exact hx),hl _ (by omega)]
    by_cases c2:r.x≤k % s.w∧k % s.w<r.x+r.w
    ·rw[if_pos ⟨c2.1,c2.2,c⟩,if_pos c2,hc _ _ (by omega) (by omega)]
     rfl
    ·rw[if_neg (fun q=>c2 ⟨q.1,q.2.1⟩),if_neg c2,e2];rfl
   ·rw[if_neg c,if_neg (fun q=>c q.2.2),e2];rfl
 ·unfold painted
  dsimp only
  apply List.ext_getElem?
  intro k
  rw[nq,jc,ue w0 wm F2,em,m9 w0 ms wm]
  cases e:ms[k / s.w]? with
  | none=>rfl
  | some m=>
   have hm:m.length=s.w:=wm _ (List.mem_iff_getElem?.mpr ⟨_,e⟩)
   have hj:k / s.w<ms.length:=(List.getElem?_eq_some_iff.mp e).1
   have hj2:k / s.w<cs.length:=by omega
   have hk:k % s.w<s.w:=Nat.mod_lt _ w0
   have hrl:cs[k / s.w].length=s.w:=wc _ (List.getElem_mem hj2)
   have e3:s.colors.getD k 0=cs[k / s.w][k % s.w]:=by
    rw[ec,List.getD_eq_getElem?_getD,m9 w0 cs wc,List.getElem?_eq_getElem hj2]
    simp only[Option.bind_some]
    rw[List.getElem?_eq_getElem (by omega)]
    rfl
   simp only[Option.bind_some]
   have e2:m[k % s.w]? =some m[k % s.w]:=List.getElem?_eq_getElem (by omega)
   rw[e2]
   simp only[Option.map_some,Rect.has,Bool.and_eq_true,decide_eq_true_eq]
   rw[e3]
   by_cases c:r.y≤k / s.w∧k / s.w<r.y+r.h
   ·rw[if_pos c]
    have eb:r.y+(k / s.w-r.y)=k / s.w:=by omega
    have er:cs.getD (r.y+(k / s.w-r.y)) []=cs[k / s.w]:=by
     rw[eb,List.getD_eq_getElem?_getD,List.getElem?_eq_getElem hj2];rfl
    rw[er,R9 (by rw[hl _ (by omega),hm];exact hx) (by rw[hm,hrl]) e2 (List.getElem?_eq_getElem (by omega)),hl _ (by omega)]
    by_cases c2:r.x≤k % s.w∧k % s.w<r.x+r.w
    ·rw[if_pos ⟨c2.1,c2.2,c⟩,if_pos c2,hc _ _ (by omega) (by omega)]
    ·rw[if_neg (fun q=>c2 ⟨q.1,q.2.1⟩),if_neg c2];simp
   ·rw[if_neg c,if_neg (fun q=>c q.2.2),e2];simp
noncomputable def d9(ms:List (List Bool))(x y w k:Nat):List (List Bool):=j4 ms y k fun _ m=>pR m x (List.replicate w false)
theorem Ma(hd:BW s cs ms)(hx:r.x+r.w≤s.w)(hy:r.y+r.h≤s.h):
  BW {s with changed:=s.changed.zipIdx.map fun x=>x.1 && !r.has (x.2 % s.w) (x.2 / s.w)} cs (d9 ms r.x r.y r.w r.h):=by
 obtain⟨w0,ec,em,wc,wm,lc,lm⟩:=hd
 have F2:∀b m,b<r.h→m ∈ ms→(pR m r.x (List.replicate r.w false)).length=s.w:=fun b m hb hm=>by rw[uc (by rw[List.length_replicate,wm m hm];exact hx),wm m hm]
 refine⟨w0,ec,?_,wc,n8 wm F2,lc,by rw[d9,qL];exact lm⟩
 dsimp only
 apply List.ext_getElem?
 intro k
 rw[nq,d9,ue w0 wm F2,em,m9 w0 ms wm]
 cases e:ms[k / s.w]? with
 | none=>rfl
 | some m=>
  have hm:m.length=s.w:=wm _ (List.mem_iff_getElem?.mpr ⟨_,e⟩)
  have hk:k % s.w<s.w:=Nat.mod_lt _ w0
  simp only[Option.bind_some]
  have e2:m[k % s.w]? =some m[k % s.w]:=List.getElem?_eq_getElem (by omega)
  rw[e2]
  simp only[Option.map_some]
  by_cases c:r.y≤k / s.w∧k / s.w<r.y+r.h
  ·rw[if_pos c,Ed (by rw[List.length_replicate,hm];exact hx),List.length_replicate]
   by_cases c2:r.x≤k % s.w∧k % s.w<r.x+r.w
   ·have:r.has (k % s.w) (k / s.w)=true:=by simp[Rect.has,c,c2]
    rw[if_pos c2,this,List.getElem?_replicate,if_pos (by omega)];simp
   ·have:r.has (k % s.w) (k / s.w)=false:=by
     cases h:r.has (k % s.w) (k / s.w)with
     | false=>rfl
     | true=>simp[Rect.has]at h;omega
    rw[if_neg c2,this,e2];simp
  ·have:r.has (k % s.w) (k / s.w)=false:=by
    cases h:r.has (k % s.w) (k / s.w)with
    | false=>rfl
    | true=>simp[Rect.has]at h;omega
   rw[if_neg c,this,e2];simp
theorem O3(hd:BW s cs ms):(s.changed.filter id).length=(ms.map fun m=>(m.filter id).length).sum:=by
 rw[hd.em,List.filter_flatten,List.length_flatten,List.map_map];rfl
theorem aao(hd:BW s cs ms){a b:Nat}(ha:a<s.w):s.new (a,b)=((ms[b]?).bind fun m=>m[a]?).getD false:=by
 unfold Screen.new
 rw[hd.em,List.getD_eq_getElem?_getD,Ji hd.wm ha]
end
theorem foldl_min(f:Nat × Nat→Nat):∀(l:List (Nat × Nat))(m:Nat),(l.foldl (fun m q=>min m (f q)) m≤m∧∀q ∈ l,l.foldl (fun m q=>min m (f q)) m≤f q)∧(l.foldl (fun m q=>min m (f q)) m=m∨∃q ∈ l,f q=l.foldl (fun m q=>min m (f q)) m)
 | [],m=>⟨⟨Nat.le_refl _,by simp⟩,.inl rfl⟩
 | p::l,m=>by
  rw[List.foldl_cons]
  obtain⟨⟨h1,h2⟩,h3⟩:=foldl_min f l (min m (f p))
  refine⟨⟨by omega,fun q hq=> ?_⟩,?_⟩
  ·rcases List.mem_cons.mp hq with rfl | hq
   ·omega
   ·exact h2 q hq
  ·rcases h3 with h3 | ⟨q,hq,e⟩
   ·rw[h3]
    by_cases c:m≤f p
    ·exact .inl (by omega)
    ·exact .inr ⟨p,by simp,by omega⟩
   ·exact .inr ⟨q,by simp[hq],e⟩
theorem foldl_max(f:Nat × Nat→Nat):∀(l:List (Nat × Nat))(m:Nat),(m≤l.foldl (fun m q=>max m (f q)) m∧∀q ∈ l,f q≤l.foldl (fun m q=>max m (f q)) m)∧(l.foldl (fun m q=>max m (f q)) m=m∨∃q ∈ l,f q=l.foldl (fun m q=>max m (f q)) m)
 | [],m=>⟨⟨Nat.le_refl _,by simp⟩,.inl rfl⟩
 | p::l,m=>by
  rw[List.foldl_cons]
  obtain⟨⟨h1,h2⟩,h3⟩:=foldl_max f l (max m (f p))
  refine⟨⟨by omega,fun q hq=> ?_⟩,?_⟩
  ·rcases List.mem_cons.mp hq with rfl | hq
   ·omega
   ·exact h2 q hq
  ·rcases h3 with h3 | ⟨q,hq,e⟩
   ·rw[h3]
    by_cases c:f p≤m
    ·exact .inl (by omega)
    ·exact .inr ⟨p,by simp,by omega⟩
   ·exact .inr ⟨q,by simp[hq],e⟩
theorem Vb{f:Nat × Nat→Nat}{p:Nat × Nat}{r:List (Nat × Nat)}{x:Nat}(h1:∀q ∈ p::r,x≤f q)(h2:∃q ∈ p::r,f q=x):r.foldl (fun m q=>min m (f q)) (f p)=x:=by
 obtain⟨⟨a1,a2⟩,a3⟩:=foldl_min f r (f p)
 obtain⟨q,hq,e⟩:=h2
 have h3:r.foldl (fun m q=>min m (f q)) (f p)≤x:=by
  rcases List.mem_cons.mp hq with rfl | hq
  ·omega
  ·have:=a2 q hq;omega
 have h4:x≤r.foldl (fun m q=>min m (f q)) (f p):=by
  rcases a3 with a3 | ⟨q',hq',e'⟩
  ·rw[a3];exact h1 p (by simp)
  ·rw[←e'];exact h1 q' (by simp[hq'])
 omega
theorem Vc{f:Nat × Nat→Nat}{p:Nat × Nat}{r:List (Nat × Nat)}{x:Nat}(h1:∀q ∈ p::r,f q≤x)(h2:∃q ∈ p::r,f q=x):r.foldl (fun m q=>max m (f q)) (f p)=x:=by
 obtain⟨⟨a1,a2⟩,a3⟩:=foldl_max f r (f p)
 obtain⟨q,hq,e⟩:=h2
 have h3:x≤r.foldl (fun m q=>max m (f q)) (f p):=by
  rcases List.mem_cons.mp hq with rfl | hq
  ·omega
  ·have:=a2 q hq;omega
 have h4:r.foldl (fun m q=>max m (f q)) (f p)≤x:=by
  rcases a3 with a3 | ⟨q',hq',e'⟩
  ·rw[a3];exact h1 p (by simp)
  ·rw[←e'];exact h1 q' (by simp[hq'])
 omega
theorem Sd{l:List (Nat × Nat)}{x0 x1 y0 y1:Nat}(h:∀q ∈ l,x0≤q.1∧q.1≤x1∧y0≤q.2∧q.2≤y1)(hx0:∃q ∈ l,q.1=x0)(hx1:∃q ∈ l,q.1=x1)(hy0:∃q ∈ l,q.2=y0)(hy1:∃q ∈ l,q.2=y1):
  around l=some ⟨x0,y0,x1-x0+1,y1-y0+1⟩:=by
 cases l with
 | nil=>obtain⟨q,hq,_⟩:=hx0;simp at hq
 | cons p r=>
  have e1:r.foldl (fun m q=>min m q.1) p.1=x0:=Vb (f:=fun q=>q.1) (fun q hq=>(h q hq).1) hx0
  have e2:r.foldl (fun m q=>max m q.1) p.1=x1:=Vc (f:=fun q=>q.1) (fun q hq=>(h q hq).2.1) hx1
  have e3:r.foldl (fun m q=>min m q.2) p.2=y0:=Vb (f:=fun q=>q.2) (fun q hq=>(h q hq).2.2.1) hy0
  have e4:r.foldl (fun m q=>max m q.2) p.2=y1:=Vc (f:=fun q=>q.2) (fun q hq=>(h q hq).2.2.2) hy1
  unfold around
  dsimp only
  rw[e1,e2,e3,e4]
theorem xm{r:Rect}{a b:Nat}:(a,b) ∈ r.points↔r.x≤a∧a<r.x+r.w∧r.y≤b∧b<r.y+r.h:=by
 simp only[Rect.points,List.mem_flatMap,List.mem_map,List.mem_range,Prod.mk.injEq]
 constructor
 ·rintro⟨j,hj,i,hi,e1,e2⟩;omega
 ·rintro⟨h1,h2,h3,h4⟩;exact⟨b-r.y,by omega,a-r.x,by omega,by omega,by omega⟩
theorem Xk(L:List Nat)(hup:L.Pairwise (· < ·))(hne:L≠ [])(b:Nat)(hb:b ∈ L):b≤L.getLast hne:=by
 have e:=List.dropLast_concat_getLast hne
 have hb':b ∈ L.dropLast ++ [L.getLast hne]:=by rw[e];exact hb
 have aem:(L.dropLast ++ [L.getLast hne]).Pairwise (· < ·):=by rw[e];exact hup
 rcases List.mem_append.mp hb' with h | h
 ·exact Nat.le_of_lt ((List.pairwise_append.mp aem).2.2 b h _ (by simp))
 ·simp at h;omega
structure Found(N:Nat→Nat→Prop)(x y w k left right:Nat)(rows:List Nat):Prop where
 all:∀a b,x≤a→a<x+w→y≤b→b<y+k→N a b→left≤a∧a<right∧b ∈ rows
 lr:rows≠ []→(∃a b,x≤a∧a<x+w∧y≤b∧b<y+k∧N a b∧a=left)∧∃a b,x≤a∧a<x+w∧y≤b∧b<y+k∧N a b∧a+1=right
 at_:∀b ∈ rows,y≤b∧b<y+k∧∃a,x≤a∧a<x+w∧N a b
 up:rows.Pairwise (· < ·)
theorem Found.start (N:Nat→Nat→Prop) (x y w left right:Nat):Found N x y w 0 left right []:=
 ⟨fun a b _ _ _ _=>by omega,fun h=>absurd rfl h,fun b hb=>by simp at hb,List.Pairwise.nil⟩
theorem Found.skip {N:Nat→Nat→Prop} {x y w k left right:Nat} {rows:List Nat} (F:Found N x y w k left right rows) (h:∀a,x≤a→a<x+w→¬N a (y+k)):Found N x y w (k+1) left right rows:=by
 refine⟨fun a b h1 h2 h3 h4 n=> ?_,fun hr=> ?_,fun b hb=> ?_,F.up⟩
 ·by_cases e:b=y+k
  ·subst e;exact absurd n (h a h1 h2)
  ·exact F.all a b h1 h2 h3 (by omega) n
 ·obtain⟨⟨a,b,h1,h2,h3,h4,h5⟩,⟨a',b',g1,g2,g3,g4,g5⟩⟩:=F.lr hr
  exact⟨⟨a,b,h1,h2,h3,by omega,h5⟩,⟨a',b',g1,g2,g3,by omega,g5⟩⟩
 ·obtain⟨h1,h2,h3⟩:=F.at_ b hb;exact⟨h1,by omega,h3⟩
theorem Found.hit {N:Nat→Nat→Prop} {x y w k left right p q:Nat} {rows:List Nat} (F:Found N x y w k left right rows) (h0:rows= []→x+w≤left∧right=0)
  (hp:x≤p∧p<x+w∧N p (y+k)) (hp2:∀a,x≤a→a<p→¬N a (y+k)) (hq:x≤q∧q<x+w∧N q (y+k)) (hq2:∀a,q<a→a<x+w→¬N a (y+k)):
  Found N x y w (k+1) (min left p) (max right (q+1)) (rows ++ [y+k]):=by
 refine⟨fun a b h1 h2 h3 h4 n=> ?_,fun _=>⟨?_,?_⟩,fun b hb=> ?_,?_⟩
 ·by_cases e:b=y+k
  ·subst e
   have c1:p≤a:=Nat.le_of_not_lt fun c=>hp2 a h1 c n
   have c2:a≤q:=Nat.le_of_not_lt fun c=>hq2 a c h2 n
   exact⟨by omega,by omega,by simp⟩
  ·obtain⟨g1,g2,g3⟩:=F.all a b h1 h2 h3 (by omega) n
   exact⟨by omega,by omega,by simp[g3]⟩
 ·by_cases c:p≤left
  ·exact⟨p,y+k,hp.1,hp.2.1,by omega,by omega,hp.2.2,by omega⟩
  ·by_cases e:rows= []
   ·have:=h0 e;omega
   ·obtain⟨⟨a,b,h1,h2,h3,h4,h5,h6⟩,_⟩:=F.lr e
    exact⟨a,b,h1,h2,h3,by omega,h5,by omega⟩
 ·by_cases c:right≤q+1
  ·exact⟨q,y+k,hq.1,hq.2.1,by omega,by omega,hq.2.2,by omega⟩
  ·by_cases e:rows= []
   ·have:=h0 e;omega
   ·obtain⟨_,⟨a,b,h1,h2,h3,h4,h5,h6⟩⟩:=F.lr e
    exact⟨a,b,h1,h2,h3,by omega,h5,by omega⟩
 ·rcases List.mem_append.mp hb with hb | hb
  ·obtain⟨h1,h2,h3⟩:=F.at_ b hb;exact⟨h1,by omega,h3⟩
  ·simp at hb;subst hb;exact⟨by omega,by omega,p,hp⟩
 ·rw[List.pairwise_append]
  refine⟨F.up,by simp,fun a ha b hb=> ?_⟩
  simp at hb;subst hb
  exact(F.at_ a ha).2.1
theorem Found.none {s:Screen} {r:Rect} {left right:Nat} (F:Found (fun a b=>s.new (a,b)=true) r.x r.y r.w r.h left right []):around (r.points.filter s.new)=Option.none:=by
 have:r.points.filter s.new= []:=by
  rw[List.filter_eq_nil_iff]
  rintro⟨a,b⟩ hq n
  obtain⟨h1,h2,h3,h4⟩:=xm.mp hq
  have:=(F.all a b h1 h2 h3 h4 n).2.2
  simp at this
 rw[this];rfl
theorem Found.some {s:Screen} {r:Rect} {left right:Nat} {t:Nat} {rows:List Nat} (F:Found (fun a b=>s.new (a,b)=true) r.x r.y r.w r.h left right (t::rows)):
  around (r.points.filter s.new)=Option.some ⟨left,t,right-left,(t::rows).getLast (List.cons_ne_nil _ _)+1-t⟩∧left<right∧r.x≤left∧right≤r.x+r.w∧r.y≤t∧t≤(t::rows).getLast (List.cons_ne_nil _ _)∧(t::rows).getLast (List.cons_ne_nil _ _)<r.y+r.h:=by
 have hm:∀a b,(a,b) ∈ r.points.filter s.new↔(r.x≤a∧a<r.x+r.w∧r.y≤b∧b<r.y+r.h)∧s.new (a,b)=true:=fun a b=>by rw[List.mem_filter,xm]
 have hlast:(t::rows).getLast (List.cons_ne_nil _ _) ∈ t::rows:=by
  exact List.getLast_mem _
 have hle:∀b ∈ t::rows,b≤(t::rows).getLast (List.cons_ne_nil _ _):=by
  intro b hb
  exact Xk _ F.up _ b hb
 have hge:∀b ∈ t::rows,t≤b:=by
  intro b hb
  rcases List.mem_cons.mp hb with rfl | hb
  ·exact Nat.le_refl _
  ·exact Nat.le_of_lt ((List.pairwise_cons.mp F.up).1 b hb)
 obtain⟨⟨a0,b0,p1,p2,p3,p4,p5,p6⟩,⟨a1,b1,q1,q2,q3,q4,q5,q6⟩⟩:=F.lr (by simp)
 obtain⟨t1,t2,at_,t3,t4,t5⟩:=F.at_ t (by simp)
 obtain⟨l1,l2,al,l3,l4,l5⟩:=F.at_ _ hlast
 have hlr:=F.all a0 b0 p1 p2 p3 p4 p5
 refine⟨?_,by omega,by omega,by omega,by omega,hle t (by simp),by omega⟩
 rw[Sd (x0:=left) (x1:=right-1) (y0:=t) (y1:=(t::rows).getLast (List.cons_ne_nil _ _))]
 ·congr 2
  ·omega
  ·have:=hle t (by simp);omega
 ·rintro⟨a,b⟩ hq
  obtain⟨⟨h1,h2,h3,h4⟩,n⟩:=(hm a b).mp hq
  obtain⟨g1,g2,g3⟩:=F.all a b h1 h2 h3 h4 n
  exact⟨g1,by dsimp only;omega,hge b g3,hle b g3⟩
 ·exact⟨(a0,b0),(hm _ _).mpr ⟨⟨p1,p2,p3,p4⟩,p5⟩,p6⟩
 ·exact⟨(a1,b1),(hm _ _).mpr ⟨⟨q1,q2,q3,q4⟩,q5⟩,by dsimp only;omega⟩
 ·exact⟨(at_,t),(hm _ _).mpr ⟨⟨t3,t4,t1,t2⟩,t5⟩,rfl⟩
 ·exact⟨(al,_),(hm _ _).mpr ⟨⟨l3,l4,l1,l2⟩,l5⟩,rfl⟩
end Fs
end
section
namespace Fs
open Sw32
structure FD where
 bits:Nat
 depth:Nat
 hf:Nat
 tc:Nat
 g0:Nat
 g1:Nat
 g2:Nat
 s0:Nat
 s1:Nat
 s2:Nat
noncomputable def fdOf(b:B):FD:=⟨b.getD 0 0,b.getD 1 0,b.getD 2 0,b.getD 3 0,field b 4 2,field b 6 2,field b 8 2,b.getD 10 0,b.getD 11 0,b.getD 12 0⟩
noncomputable def aL(d:FD):Form:=⟨d.bits / 8,d.hf==1,(d.g0,d.s0),(d.g1,d.s1),(d.g2,d.s2)⟩
noncomputable def allOnes(n:Nat):Bool:=decide (0<n)&&((n &&& (n+1))==0)
noncomputable def fD(bits:Nat):Nat→List (Nat × Nat)→Bool
 | taken,[]=>decide (taken<2 ^ bits)
 | taken,(g,s)::r=>if (g*2 ^ s) &&& taken=0 then fD bits (taken ||| (g*2 ^ s)) r else false
noncomputable def nA(d:FD):Bool:=if (d.bits=8∨d.bits=16∨d.bits=32)∧d.depth≤d.bits∧d.hf≤1∧d.tc=1 then (allOnes d.g0&&(allOnes d.g1&&allOnes d.g2))&&fD d.bits 0 [(d.g0,d.s0),(d.g1,d.s1),(d.g2,d.s2)]else false
theorem Vd:∀(n:Nat),0<n→n &&& (n+1)=0→∃k,n+1=2 ^ (k+1):=by
 intro n
 induction n using Nat.strongRecOn with
 | _ n ih=>
  intro h0 h
  have h2:(n &&& (n+1)) / 2=0:=by rw[h]
  rw[Nat.and_div_two]at h2
  by_cases e:n % 2=1
  ·have e2:(n+1) / 2=n / 2+1:=by omega
   rw[e2]at h2
   by_cases c:n / 2=0
   ·exact⟨0,by omega⟩
   ·obtain⟨k,hk⟩:=ih (n / 2) (by omega) (by omega) h2
    refine⟨k+1,?_⟩
    rw[Nat.pow_succ,←hk];omega
  ·have e2:(n+1) / 2=n / 2:=by omega
   rw[e2,Nat.and_self]at h2
   omega
theorem Ve(k:Nat):(2 ^ k-1) &&& (2 ^ k-1+1)=0:=by
 have:2 ^ k-1+1=2 ^ k:=by have:=Nat.two_pow_pos k;omega
 rw[this,Nat.and_comm,Nat.and_two_pow_sub_one_eq_mod,Nat.mod_self]
theorem z7{n:Nat}(hn:n<65536):(allOnes n=true↔∃k,bitsOf n=some k):=by
 unfold allOnes bitsOf
 rw[Bool.and_eq_true,decide_eq_true_eq,beq_iff_eq]
 constructor
 ·rintro⟨h0,h⟩
  obtain⟨k,hk⟩:=Vd n h0 h
  have ahe:k<16:=by
   apply Nat.lt_of_not_le
   intro c
   have:2 ^ 17≤2 ^ (k+1):=Nat.pow_le_pow_right (by decide) (by omega)
   omega
  cases e:((List.range 16).map fun k=>k+1).find? fun k=>2 ^ k==n+1 with
  | some j=>exact⟨j,rfl⟩
  | none=>
   have:=List.find?_eq_none.mp e (k+1) (by simp;omega)
   simp[hk]at this
 ·rintro⟨k,hk⟩
  have h1:=List.find?_some hk
  have h2:=List.mem_of_find?_eq_some hk
  simp at h1 h2
  obtain⟨j,hj,rfl⟩:=h2
  have h3:2≤2 ^ (j+1):=by rw[Nat.pow_succ];have:=Nat.two_pow_pos j;omega
  refine⟨by omega,?_⟩
  have e:n=2 ^ (j+1)-1:=by omega
  rw[e];exact Ve _
theorem Vf{n k:Nat}(h:bitsOf n=some k):1≤k∧n+1=2 ^ k:=by
 have h1:=List.find?_some h
 have h2:=List.mem_of_find?_eq_some h
 simp at h1 h2
 obtain⟨j,hj,rfl⟩:=h2
 exact⟨by omega,by omega⟩
theorem Xl{g k s bits:Nat}(hk:1≤k)(e:g+1=2 ^ k):g*2 ^ s<2 ^ bits↔k+s≤bits:=by
 constructor
 ·intro h
  apply Nat.le_of_not_lt
  intro c
  obtain⟨j,rfl⟩:∃j,k=j+1:=⟨k-1,by omega⟩
  have h1:2 ^ j≤g:=by rw[Nat.pow_succ]at e;have:=Nat.two_pow_pos j;omega
  have h2:2 ^ (j+s)≤g*2 ^ s:=by rw[Nat.pow_add];exact Nat.mul_le_mul_right _ h1
  have h3:2 ^ bits≤2 ^ (j+s):=Nat.pow_le_pow_right (by decide) (by omega)
  omega
 ·intro h
  have h1:g*2 ^ s<2 ^ k*2 ^ s:=Nat.mul_lt_mul_of_pos_right (by omega) (Nat.two_pow_pos s)
  rw[←Nat.pow_add]at h1
  exact Nat.lt_of_lt_of_le h1 (Nat.pow_le_pow_right (by decide) h)
theorem YG{a b n:Nat}:(a ||| b)<2 ^ n↔a<2 ^ n∧b<2 ^ n:=
 ⟨fun h=>⟨Nat.lt_of_le_of_lt Nat.left_le_or h,Nat.lt_of_le_of_lt Nat.right_le_or h⟩,fun h=>Nat.or_lt_two_pow h.1 h.2⟩
theorem Bb{a b c:Nat}:c &&& (a ||| b)=0↔c &&& a=0∧c &&& b=0:=by
 rw[Nat.and_or_distrib_left,Nat.or_eq_zero_iff]
theorem Mf{g0 g1 g2 s0 s1 s2 size:Nat}(h0:g0<65536)(h1:g1<65536)(h2:g2<65536):
  apart size [(g0,s0),(g1,s1),(g2,s2)]=((allOnes g0&&(allOnes g1&&allOnes g2))&&fD (8*size) 0 [(g0,s0),(g1,s1),(g2,s2)]):=by
 rw[Bool.eq_iff_iff]
 have pairs:([(g0,s0),(g1,s1),(g2,s2)].zipIdx.all fun x=> [(g0,s0),(g1,s1),(g2,s2)].zipIdx.all fun y=>x.2==y.2||(x.1.1*2 ^ x.1.2) &&& (y.1.1*2 ^ y.1.2)==0)=true↔
   (g1*2 ^ s1) &&& (g0*2 ^ s0)=0∧(g2*2 ^ s2) &&& (g0*2 ^ s0)=0∧(g2*2 ^ s2) &&& (g1*2 ^ s1)=0:=by
  simp[List.zipIdx]
  rw[Nat.and_comm (g0*2 ^ s0) (g1*2 ^ s1),Nat.and_comm (g0*2 ^ s0) (g2*2 ^ s2),Nat.and_comm (g1*2 ^ s1) (g2*2 ^ s2)]
  constructor
  ·rintro⟨⟨a,b⟩,⟨c,d⟩,e,f⟩;exact⟨a,b,d⟩
  ·rintro⟨a,b,c⟩;exact⟨⟨a,b⟩,⟨a,c⟩,b,c⟩
 have go:fD (8*size) 0 [(g0,s0),(g1,s1),(g2,s2)]=true↔((g1*2 ^ s1) &&& (g0*2 ^ s0)=0∧(g2*2 ^ s2) &&& (g0*2 ^ s0)=0∧(g2*2 ^ s2) &&& (g1*2 ^ s1)=0)∧
   g0*2 ^ s0<2 ^ (8*size)∧g1*2 ^ s1<2 ^ (8*size)∧g2*2 ^ s2<2 ^ (8*size):=by
  unfold fD fD fD fD
  rw[Nat.and_zero,if_pos rfl,Nat.zero_or]
  by_cases c1:(g1*2 ^ s1) &&& (g0*2 ^ s0)=0
  ·rw[if_pos c1]
   by_cases c2:(g2*2 ^ s2) &&& (g0*2 ^ s0 ||| g1*2 ^ s1)=0
   ·rw[if_pos c2,decide_eq_true_eq,YG,YG]
    have c3:=Bb.mp c2
    constructor
    ·rintro⟨⟨a,b⟩,c⟩;exact⟨⟨c1,c3.1,c3.2⟩,a,b,c⟩
    ·rintro⟨_,a,b,c⟩;exact⟨⟨a,b⟩,c⟩
   ·rw[if_neg c2]
    constructor
    ·intro h;cases h
    ·rintro⟨⟨_,a,b⟩,_⟩;exact absurd (Bb.mpr ⟨a,b⟩) c2
  ·rw[if_neg c1]
   constructor
   ·intro h;cases h
   ·rintro⟨⟨a,_⟩,_⟩;exact absurd a c1
 unfold apart
 rw[Bool.and_eq_true,pairs,Bool.and_eq_true,Bool.and_eq_true,Bool.and_eq_true,go,z7 h0,z7 h1,z7 h2]
 have one:∀(g s:Nat),((match bitsOf g with
   | some k=>decide (k+s≤8*size)
   | none=>false)=true)↔(∃k,bitsOf g=some k)∧g*2 ^ s<2 ^ (8*size):=by
  intro g s
  cases e:bitsOf g with
  | none=>simp
  | some k=>
   obtain⟨k1,k2⟩:=Vf e
   simp only[decide_eq_true_eq]
   rw[Xl k1 k2]
   exact⟨fun h=>⟨⟨k,rfl⟩,h⟩,fun h=>h.2⟩
 have abS:([(g0,s0),(g1,s1),(g2,s2)].all fun x=>match bitsOf x.1 with
   | some k=>decide (k+x.2≤8*size)
   | none=>false)=true↔((∃k,bitsOf g0=some k)∧g0*2 ^ s0<2 ^ (8*size))∧((∃k,bitsOf g1=some k)∧g1*2 ^ s1<2 ^ (8*size))∧((∃k,bitsOf g2=some k)∧g2*2 ^ s2<2 ^ (8*size)):=by
  simp only[List.all_cons,List.all_nil,Bool.and_true,Bool.and_eq_true]
  rw[one,one,one]
 constructor
 ·rintro⟨h,p⟩
  obtain⟨⟨a,b⟩,⟨c,d⟩,⟨e,f⟩⟩:=abS.mp h
  exact⟨⟨a,c,e⟩,p,b,d,f⟩
 ·rintro⟨⟨a,c,e⟩,p,b,d,f⟩
  exact⟨abS.mpr ⟨⟨a,b⟩,⟨c,d⟩,⟨e,f⟩⟩,p⟩
theorem oh{b:B}(h:∀x ∈ b,x<256)(i:Nat):field b i 2<65536:=by
 unfold field num
 have:∀x ∈ (b.drop i).take 2,x<256:=fun x hx=>h x (List.mem_of_mem_drop (List.mem_of_mem_take hx))
 match e:(b.drop i).take 2,this with
 | [],_=>simp
 | [a],h=>have:=h a (by simp);simp;omega
 | [a,c],h=>have h1:=h a (by simp);have h2:=h c (by simp);simp;omega
 | _::_::_::_,_=>have:=congrArg List.length e;simp at this;omega
theorem Ia{b:B}(h:∀x ∈ b,x<256):formOf b=if nA (fdOf b)=true then some (aL (fdOf b))else none:=by
 unfold formOf nA fdOf aL
 dsimp only
 generalize hs:b.getD 0 0=s
 by_cases c:(s=8∨s=16∨s=32)∧b.getD 1 0≤s∧b.getD 2 0≤1∧b.getD 3 0=1
 ·have e8:8*(s / 8)=s:=by omega
  have ea:=Mf (s0:=b.getD 10 0) (s1:=b.getD 11 0) (s2:=b.getD 12 0) (size:=s / 8) (oh h 4) (oh h 6) (oh h 8)
  rw[e8]at ea
  rw[if_pos c,←ea]
  by_cases ap:apart (s / 8) [(field b 4 2,b.getD 10 0),(field b 6 2,b.getD 11 0),(field b 8 2,b.getD 12 0)]=true
  ·rw[if_pos ⟨c.1,c.2.2.2,c.2.1,c.2.2.1,ap⟩,if_pos ap];rfl
  ·rw[if_neg (fun q=>ap q.2.2.2.2),if_neg ap]
 ·rw[if_neg c,if_neg (fun q=>c ⟨q.1,q.2.2.1,q.2.2.2.1,q.2.1⟩)];simp
noncomputable def qM(d:FD)(c:Nat):Nat:=0+scaled (c / 65536) d.g0*2 ^ d.s0+scaled (c / 256 % 256) d.g1*2 ^ d.s1+scaled (c % 256) d.g2*2 ^ d.s2
noncomputable def qN(n v:Nat):B:=(List.range n).map fun i=>v / 2 ^ (8*i) % 256
noncomputable def jF(d:FD)(c:Nat):B:=if d.hf=1 then (qN (d.bits / 8) (qM d c)).reverse else qN (d.bits / 8) (qM d c)
theorem Vg(i:Nat):256 ^ i=2 ^ (8*i):=by rw[Nat.pow_mul]
theorem Vh(n v:Nat):(be n v).reverse=qN n v:=by
 unfold be qN
 apply List.ext_getElem
 ·simp
 ·intro i h1 h2
  simp at h1 h2
  simp only[List.getElem_reverse,List.getElem_map,List.getElem_range,List.length_map,List.length_range]
  have:n-1-(n-1-i)=i:=by omega
  rw[this,Vg]
theorem fQ(d:FD){c:Nat}(hc:c<16777216):jF d c=(aL d).bytes c:=by
 have e1:c / 65536 % 256=c / 65536:=Nat.mod_eq_of_lt (by omega)
 have e2:qM d c=scaled (c / 65536 % 256) d.g0*2 ^ d.s0+(scaled (c / 256 % 256) d.g1*2 ^ d.s1+scaled (c % 256) d.g2*2 ^ d.s2):=by unfold qM;rw[e1];omega
 unfold jF Form.bytes aL
 dsimp only
 rw[←e2]
 by_cases h:d.hf=1
 ·rw[if_pos h,if_pos (by simp[h]),←Vh,List.reverse_reverse]
 ·rw[if_neg h,if_neg (by simpa using h),Vh]
noncomputable def cZ(h:Nat):Nat:=if h=0 then 20 else if h=2 then 4 else if h=3 then 10 else if h=4 then 8 else if h=5 then 6 else if h=6 then 8 else 1
noncomputable def Mg(h:B):Nat:=if h= []then 1 else
 if h.length<cZ (h.getD 0 0)then cZ (h.getD 0 0)
 else if h.getD 0 0=2 then cZ (h.getD 0 0)+4*field h 2 2
 else if h.getD 0 0=6∧¬4096<field h 4 4 then cZ (h.getD 0 0)+field h 4 4
 else cZ (h.getD 0 0)
noncomputable def cu(state:Nat)(q:B):Nat:=if state=0 then 12 else if state=3 then Mg (q.take 8)else 1
noncomputable def dG(s:St)(b:B):St:=if tooLong s b=true then close s else tells (whole s b)
theorem vd{q:B}{m i:Nat}(h:i<m):(q.take m).getD i 0=q.getD i 0:=by
 rw[List.getD_eq_getElem?_getD,List.getD_eq_getElem?_getD,List.getElem?_take_of_lt h]
theorem fj{q:B}{m i n:Nat}(h:i+n≤m):field (q.take m) i n=field q i n:=by
 unfold field
 rw[List.drop_take,List.take_take]
 congr 2
 omega
theorem Sh(h:Nat):1≤cZ h:=by unfold cZ;(repeat' split)<;>omega
theorem vf(state:Nat)(q:B):1≤cu state q:=by
 unfold cu Mg
 have:=Sh ((q.take 8).getD 0 0)
 repeat' split
 all_goals omega
theorem Vi{q:B}(h:∀x ∈ q,x<256)(state:Nat):cu state q≤262144:=by
 unfold cu Mg
 have h8:∀x ∈ q.take 8,x<256:=fun x hx=>h x (List.mem_of_mem_take hx)
 have h1:=oh h8 2
 have h2:cZ ((q.take 8).getD 0 0)≤20:=by unfold cZ;(repeat' split)<;>omega
 repeat' split
 ·omega
 ·omega
 ·omega
 ·rename_i e
  rw[e]
  have:cZ 2=4:=rfl
  omega
 ·omega
 ·omega
 ·omega
theorem Q9{s:St}{q:B}{m:Nat}(hs:s.state≤3)(h1:1≤m)(hm:m≤q.length):
  (m<cu s.state q→tooLong s (q.take m)=false∧longOf s (q.take m)≠some m)∧(m=cu s.state q→tooLong s (q.take m)=true∨(tooLong s (q.take m)=false∧longOf s (q.take m)=some m)):=by
 have hl:(q.take m).length=m:=by simp;omega
 have e0:(q.take m).getD 0 0=q.getD 0 0:=vd (by omega)
 have e8:(q.take 8).getD 0 0=q.getD 0 0:=vd (by omega)
 have hq8:(q.take 8).length=min 8 q.length:=by simp
 have hne:q.take 8≠ []:=fun e=>by rw[e]at hq8;simp at hq8;omega
 unfold cu Mg tooLong longOf
 rw[e0,e8,hl,hq8]
 by_cases c0:s.state=0
 ·rw[if_pos c0]
  simp only[c0,if_true]
  refine⟨fun h=>⟨by simp,by simp;omega⟩,fun h=> .inr ⟨by simp,by rw[h]⟩⟩
 ·rw[if_neg c0,if_neg c0]
  by_cases c3:s.state=3
  ·rw[if_pos c3,if_neg (by omega:¬s.state<3),if_neg hne]
   generalize hd:q.getD 0 0=d
   by_cases d0:d=0
   ·subst d0
    have:min 8 q.length<cZ 0:=by show _<20;omega
    rw[if_pos this]
    refine⟨fun h=>⟨by simp,by have:cZ 0=20:=rfl;simp;omega⟩,fun h=> .inr ⟨by simp,by rw[h];rfl⟩⟩
   ·by_cases d2:d=2
    ·subst d2
     have z:cZ 2=4:=rfl
     rw[z]
     by_cases l4:min 8 q.length<4
     ·rw[if_pos l4]
      refine⟨fun h=>⟨by simp,?_⟩,fun h=>by omega⟩
      simp only
      rw[if_pos (by omega)];simp
     ·rw[if_neg l4,if_pos rfl]
      simp only
      have ef:field (q.take 8) 2 2=field q 2 2:=fj (by omega)
      rw[ef]
      refine⟨fun h=>⟨by simp,?_⟩,fun h=> .inr ⟨by simp,?_⟩⟩
      ·by_cases m4:m<4
       ·rw[if_pos m4];simp
       ·rw[if_neg m4,fj (by omega)]
        simp;omega
      ·rw[if_neg (by omega),fj (by omega),h]
    ·by_cases d6:d=6
     ·subst d6
      have z:cZ 6=8:=rfl
      rw[z]
      by_cases l8:min 8 q.length<8
      ·rw[if_pos l8]
       refine⟨fun h=>⟨by simp;omega,?_⟩,fun h=>by omega⟩
       simp only
       rw[if_pos (by omega)];simp
      ·rw[if_neg l8,if_neg (by decide)]
       have ef:field (q.take 8) 4 4=field q 4 4:=fj (by omega)
       rw[ef]
       by_cases t:4096<field q 4 4
       ·rw[if_neg (fun h=>h.2 t)]
        refine⟨fun h=>⟨by simp;omega,?_⟩,fun h=> .inl ?_⟩
        ·simp only
         rw[if_pos (by omega)];simp
        ·have:field (q.take m) 4 4=field q 4 4:=fj (by omega)
         rw[this]
         simp only[c3,TEXT]
         simp[t];omega
       ·rw[if_pos ⟨rfl,t⟩]
        have tl:∀m,8≤m→field (q.take m) 4 4=field q 4 4:=fun m hm=>fj (by omega)
        refine⟨fun h=>⟨?_,?_⟩,fun h=> .inr ⟨?_,?_⟩⟩
        ·by_cases m8:8≤m
         ·rw[tl m m8,(decide_eq_false t:decide (TEXT<field q 4 4)=false)];simp
         ·rw[(decide_eq_false m8:decide (8≤m)=false)];simp
        ·simp only
         by_cases m8:m<8
         ·rw[if_pos m8];simp
         ·rw[if_neg m8,tl m (by omega)];simp;omega
        ·rw[tl m (by omega),(decide_eq_false t:decide (TEXT<field q 4 4)=false)];simp
        ·simp only
         rw[if_neg (by omega),tl m (by omega),h]
     ·have nt:(d==6)=false:=by simpa using d6
      rw[nt]
      by_cases d3:d=3
      ·subst d3
       rw[if_pos (by show _<10;omega)]
       refine⟨fun h=>⟨by simp,by have:cZ 3=10:=rfl;simp;omega⟩,fun h=> .inr ⟨by simp,by rw[h];rfl⟩⟩
      ·by_cases d4:d=4
       ·subst d4
        have z:cZ 4=8:=rfl
        rw[z]
        have:(if min 8 q.length<8 then 8 else if (4 :Nat)=2 then 8+4*field (q.take 8) 2 2 else if (4 :Nat)=6∧¬4096<field (q.take 8) 4 4 then 8+field (q.take 8) 4 4 else 8)=8:=by simp
        rw[this]
        refine⟨fun h=>⟨by simp,by simp;omega⟩,fun h=> .inr ⟨by simp,by rw[h];rfl⟩⟩
       ·by_cases d5:d=5
        ·subst d5
         have z:cZ 5=6:=rfl
         rw[z]
         have:(if min 8 q.length<6 then 6 else if (5 :Nat)=2 then 6+4*field (q.take 8) 2 2 else if (5 :Nat)=6∧¬4096<field (q.take 8) 4 4 then 6+field (q.take 8) 4 4 else 6)=6:=by simp
         rw[this]
         refine⟨fun h=>⟨by simp,by simp;omega⟩,fun h=> .inr ⟨by simp,by rw[h];rfl⟩⟩
        ·have z:cZ d=1:=by unfold cZ;simp[d0,d2,d3,d4,d5,d6]
         rw[z]
         have:(if min 8 q.length<1 then 1 else if d=2 then 1+4*field (q.take 8) 2 2 else if d=6∧¬4096<field (q.take 8) 4 4 then 1+field (q.take 8) 4 4 else 1)=1:=by simp[d2,d6]
         rw[this]
         refine⟨fun h=>by omega,fun h=> .inr ⟨by simp,?_⟩⟩
         split
         ·exact absurd rfl d0
         ·exact absurd rfl d2
         ·exact absurd rfl d3
         ·exact absurd rfl d4
         ·exact absurd rfl d5
         ·exact absurd rfl d6
         ·rw[h]
  ·have c12:s.state<3:=by omega
   rw[if_neg c3,if_pos c12]
   have c3':(s.state==3)=false:=by simpa using c3
   rw[c3']
   refine⟨fun h=>by omega,fun h=> .inr ⟨by simp,by rw[h]⟩⟩
theorem qO{q:B}{k:Nat}(h:k<q.length):q.take (k+1)=q.take k ++ [q[k]]:=by rw[List.take_succ,List.getElem?_eq_getElem h];rfl
theorem yx(s:St)(p b:B):tooLong {s with pending:=p} b=tooLong s b:=rfl
theorem Bc(s:St)(p b:B):longOf {s with pending:=p} b=longOf s b:=rfl
theorem Eh{s:St}{q:B}(hs:s.state≤3):∀k,k<cu s.state q→k≤q.length→(q.take k).foldl byte {s with pending:= []}= {s with pending:=q.take k}
 | 0,_,_=>by simp
 | k+1,h,hk=>by
  have hlt:k<q.length:=by omega
  rw[qO hlt,List.foldl_append,Eh hs k (by omega) (by omega)]
  have ha:=(Q9 hs (by omega:1≤k+1) hk).1 h
  rw[qO hlt]at ha
  show byte {s with pending:=q.take k} q[k]=_
  unfold byte
  rw[if_neg (by dsimp only;omega)]
  dsimp only
  rw[yx,Bc,ha.1,if_neg (by simp)]
  have hl:(q.take k ++ [q[k]]).length=k+1:=by simp;omega
  rw[hl,if_neg]
  intro hany
  cases e:longOf s (q.take k ++ [q[k]])with
  | none=>rw[e]at hany;simp at hany
  | some n=>
   rw[e]at hany
   simp at hany
   exact ha.2 (by rw[e,hany])
theorem Ra{s:St}{q:B}(hs:s.state≤3)(h:q.length<cu s.state q):q.foldl byte {s with pending:= []}= {s with pending:=q}:=by
 have:=Eh hs q.length h (Nat.le_refl _)
 rwa [List.take_length]at this
theorem Vj{s:St}{q:B}(hs:s.state≤3)(hp:s.pending= [])(h:cu s.state q≤q.length):
  q.foldl byte s=(q.drop (cu s.state q)).foldl byte (dG s (q.take (cu s.state q))):=by
 have hpos:=vf s.state q
 obtain⟨k,hk⟩:∃k,cu s.state q=k+1:=⟨cu s.state q-1,by omega⟩
 have hlt:k<q.length:=by omega
 have es: {s with pending:= []}=s:=by rw[←hp]
 have h1:=Eh hs k (by omega) (by omega:k≤q.length)
 rw[es]at h1
 have h2:=(Q9 hs hpos h).2 rfl
 rw[hk]at h2 ⊢
 rw[qO hlt]at h2 ⊢
 have eq:q=q.take k ++ [q[k]] ++ q.drop (k+1):=by rw[←qO hlt,List.take_append_drop]
 conv=>lhs;rw[eq]
 rw[List.foldl_append,List.foldl_append,h1]
 congr 1
 show byte {s with pending:=q.take k} q[k]=_
 unfold byte dG
 rw[if_neg (by dsimp only;omega)]
 dsimp only
 rw[yx,Bc]
 have hl:(q.take k ++ [q[k]]).length=k+1:=by simp;omega
 rcases h2 with h2 | ⟨h2,h3⟩
 ·rw[if_pos h2,if_pos h2];rfl
 ·have hany:((some (k+1)).any fun n=>n==k+1)=true:=by simp
  rw[h2,h3,hl,hany,if_neg Bool.false_ne_true,if_neg Bool.false_ne_true,if_pos rfl,es]
theorem xn{s:St}(h:s.state=4):∀q:B,q.foldl byte s=s
 | []=>rfl
 | c::q=>by
  rw[List.foldl_cons]
  have:byte s c=s:=by unfold byte;rw[if_pos h]
  rw[this];exact xn h q
theorem Xm{s:St}(hs:s.state≤3)(h:s.pending.length<cu s.state s.pending)(b:B):b.foldl byte s=(s.pending++b).foldl byte {s with pending:= []}:=by
 rw[List.foldl_append,Ra hs h]
end Fs
end
section
namespace Fs
open Sw32
noncomputable def Ei(s:Screen)(r:Rect):Prop:=1≤r.w∧1≤r.h∧r.x+r.w≤s.w∧r.y+r.h≤s.h
structure Ok(s:St):Prop where
 w1:1≤s.screen.w
 w2:s.screen.w≤640
 h1:1≤s.screen.h
 h2:s.screen.h≤480
 st:s.state≤4
 nm:s.name.length≤64
 way:s.way=0∨s.way=2∨s.way=5
 out:s.out.length≤4000000
 out2:s.state≤2→s.out.length≤12+4*s.state
 asked:∀b r,s.asked=some (b,r)→Ei s.screen r
 early:s.state≤2→s.asked=none
 evs:s.events.length≤64
 pend:s.state≤3→s.pending.length<cu s.state s.pending
 size:s.form.size≤4
theorem Rb{s:Screen}(h2:s.w≤640)(h4:s.h≤480){r:Rect}(i:Ei s r):r.w≤640∧r.h≤480∧r.w*r.h≤307200:=by
 obtain⟨a,b,c,d⟩:=i
 have:r.w*r.h≤640*480:=Nat.mul_le_mul (by omega) (by omega)
 exact⟨by omega,by omega,this⟩
theorem Xn(f:Form)(s:Screen)(r:Rect):(raw f s r).length=f.size*(r.w*r.h):=by rw[Oz,jD,tY]
theorem Ej{f:Form}{s:Screen}{way:Nat}{r:Rect}(hf:f.size≤4)(hw:r.w≤640)(hh:r.h≤480)(ha:r.w*r.h≤307200):(told f s way r).length≤3800000:=by
 have h1:(raw f s r).length≤4*307200:=by rw[Xn];exact Nat.mul_le_mul hf ha
 have h2:(byRuns f s r).length≤3700000:=by rw[HR];exact LR f _ hf (by rw[tY];exact ha)
 have h3:(byTiles f s r).length≤1230000:=by rw[Ec];exact JF f hf _ _ (by rw[xj];exact hh) hw
 unfold told
 simp only[List.length_append,bW,List.length_cons,List.length_nil]
 split
 ·omega
 ·split<;>omega
theorem Ek{s:St}(ok:Ok s){r:Rect}(h:due s=some r):Ei s.screen r:=by
 unfold due at h
 cases ha:s.asked with
 | none=>rw[ha]at h;cases h
 | some a=>
  obtain⟨b,q⟩:=a
  have hi:=ok.asked b q ha
  rw[ha]at h
  simp only[Option.bind_some]at h
  by_cases c:b=false
  ·rw[if_pos c]at h
   cases h;exact hi
  ·rw[if_neg c]at h
   cases hl:q.points.filter s.screen.new with
   | nil=>rw[hl]at h;cases h
   | cons p l=>
    rw[hl]at h
    have hm:∀z ∈ p::l,q.x≤z.1∧z.1<q.x+q.w∧q.y≤z.2∧z.2<q.y+q.h:=fun z hz=>by
     have:z ∈ q.points.filter s.screen.new:=by rw[hl];exact hz
     exact xm.mp (List.mem_filter.mp this).1
    unfold around at h
    simp only[Option.some.injEq]at h
    subst h
    obtain⟨⟨a1,a2⟩,a3⟩:=foldl_min (fun z=>z.1) l p.1
    obtain⟨⟨b1,b2⟩,b3⟩:=foldl_max (fun z=>z.1) l p.1
    obtain⟨⟨c1,c2⟩,c3⟩:=foldl_min (fun z=>z.2) l p.2
    obtain⟨⟨d1,d2⟩,d3⟩:=foldl_max (fun z=>z.2) l p.2
    have hb:l.foldl (fun m z=>max m z.1) p.1<q.x+q.w:=by
     rcases b3 with e | ⟨z,hz,e⟩
     ·have:=hm p (by simp);omega
     ·have:=hm z (by simp[hz]);omega
    have hd:l.foldl (fun m z=>max m z.2) p.2<q.y+q.h:=by
     rcases d3 with e | ⟨z,hz,e⟩
     ·have:=hm p (by simp);omega
     ·have:=hm z (by simp[hz]);omega
    obtain⟨i1,i2,i3,i4⟩:=hi
    refine⟨by dsimp only;omega,by dsimp only;omega,?_,?_⟩
    ·dsimp only;omega
    ·dsimp only;omega
theorem yz{s:St}(ok:Ok s):Ok (tells s):=by
 unfold tells
 split
 ·exact ok
 ·rename_i hc
  have h3:s.state=3:=Classical.byContradiction fun e=>hc (.inl e)
  cases hd:due s with
  | none=>exact ok
  | some r=>
   have hi:=Ek ok hd
   obtain⟨a1,a2,a3⟩:=Rb ok.w2 ok.h2 hi
   have:=Ej (s:=s.screen) (way:=s.way) ok.size a1 a2 a3
   exact⟨ok.w1,ok.w2,ok.h1,ok.h2,ok.st,ok.nm,ok.way,by dsimp only;omega,fun h=>by dsimp only at h;omega,fun b q e=>(by cases e),fun _=>rfl,ok.evs,ok.pend,ok.size⟩
theorem nD{s:St}(ok:Ok s):Ok (close s):=
 ⟨ok.w1,ok.w2,ok.h1,ok.h2,(Nat.le_refl 4),ok.nm,ok.way,ok.out,fun h=>by simp[close]at h,fun b q e=>(by cases e),fun _=>rfl,ok.evs,fun h=>by simp[close]at h,ok.size⟩
theorem El{s:St}(ok:Ok s)(e:Event):Ok (event s e):=by
 unfold event
 split
 ·exact ok
 ·rename_i h
  exact⟨ok.w1,ok.w2,ok.h1,ok.h2,ok.st,ok.nm,ok.way,ok.out,ok.out2,ok.asked,ok.early,by simp[EVENTS]at h ⊢;omega,ok.pend,ok.size⟩
theorem Vk(b:B):wayOf b=0∨wayOf b=2∨wayOf b=5:=by
 unfold wayOf
 cases h:((List.range (field b 2 2)).map fun i=>field b (4+4*i) 4).find? fun x=>x==0||(x==2||x==5)with
 | none=>exact .inl rfl
 | some x=>
  have:=List.find?_some h
  simpa using this
theorem z8(n:Nat):([]:B).length<cu n []:=by have:=vf n [];simp;omega
theorem Mh{s:St}(ok:Ok s)(hs:s.state≤3)(hp:s.pending= [])(b:B):Ok (whole s b):=by
 have hpe:∀n:Nat,s.pending.length<cu n s.pending:=fun n=>by rw[hp];exact z8 n
 unfold whole
 split
 ·rename_i h0
  have ho:=ok.out2 (by omega)
  split
  ·exact nD ok
  ·split
   ·exact⟨ok.w1,ok.w2,ok.h1,ok.h2,(by dsimp only;omega),ok.nm,ok.way,by simp[bW];omega,fun _=>by simp[bW];omega,ok.asked,fun _=>ok.early (by omega),ok.evs,fun _=>hpe _,ok.size⟩
   ·exact⟨ok.w1,ok.w2,ok.h1,ok.h2,(by dsimp only;omega),ok.nm,ok.way,by simp;omega,fun _=>by simp;omega,ok.asked,fun _=>ok.early (by omega),ok.evs,fun _=>hpe _,ok.size⟩
 ·split
  ·rename_i h1
   have ho:=ok.out2 (by omega)
   split
   ·have hl:(if s.version=8 then be 4 0 else []).length≤4:=by split<;>simp[bW]
    exact⟨ok.w1,ok.w2,ok.h1,ok.h2,(by dsimp only;omega),ok.nm,ok.way,by simp;omega,fun _=>by simp;omega,ok.asked,fun _=>ok.early (by omega),ok.evs,fun _=>hpe _,ok.size⟩
   ·split
    ·have hl:(be 4 1++(be 4 7++ascii "unknown")).length=15:=by simp[bW];decide
     exact⟨ok.w1,ok.w2,ok.h1,ok.h2,(Nat.le_refl 4),ok.nm,ok.way,by simp only[close,List.length_append];simp only[List.length_append]at hl;omega,fun h=>by simp[close]at h,fun b q e=>(by cases e),fun _=>rfl,ok.evs,fun h=>by simp[close]at h,ok.size⟩
    ·exact nD ok
  ·split
   ·rename_i h2
    have ho:=ok.out2 (by omega)
    have hn:=ok.nm
    have hu:usualBytes.length=16:=rfl
    exact⟨ok.w1,ok.w2,ok.h1,ok.h2,(by dsimp only;omega),ok.nm,ok.way,by simp only[List.length_append,bW];omega,fun h=>by dsimp only at h;omega,ok.asked,fun h=>by dsimp only at h;omega,ok.evs,fun _=>hpe _,ok.size⟩
   ·have h3:s.state=3:=by omega
    split
    ·cases hf:formOf (b.drop 4)with
     | none=>exact nD ok
     | some f=>
      have hsz:f.size≤4:=by
       unfold formOf at hf
       dsimp only at hf
       split at hf
       ·rename_i hc
        cases hf
        dsimp only
        omega
       ·cases hf
      exact⟨ok.w1,ok.w2,ok.h1,ok.h2,ok.st,ok.nm,ok.way,ok.out,ok.out2,ok.asked,ok.early,ok.evs,ok.pend,hsz⟩
    ·exact⟨ok.w1,ok.w2,ok.h1,ok.h2,ok.st,ok.nm,Vk b,ok.out,ok.out2,ok.asked,ok.early,ok.evs,ok.pend,ok.size⟩
    ·dsimp only
     split
     ·exact nD ok
     ·rename_i hc
      refine⟨ok.w1,ok.w2,ok.h1,ok.h2,ok.st,ok.nm,ok.way,ok.out,ok.out2,fun b' q e=> ?_,fun h=>by dsimp only at h;omega,ok.evs,ok.pend,ok.size⟩
      dsimp only at e
      simp only[Option.some.injEq,Prod.mk.injEq]at e
      obtain⟨_,rfl⟩:=e
      refine⟨?_,?_,?_,?_⟩<;>dsimp only <;> omega
    ·split
     ·exact nD ok
     ·exact El ok _
    ·exact El ok _
    ·exact El ok _
    ·exact nD ok
theorem Xo{s:St}(ok:Ok s)(hs:s.state≤3)(hp:s.pending= [])(b:B):Ok (dG s b):=by
 unfold dG
 split
 ·exact nD ok
 ·exact yz (Mh ok hs hp b)
theorem jh(s:St):(tells s).pending=s.pending:=by
 unfold tells
 split
 ·rfl
 ·cases due s<;>rfl
theorem O4{s:St}(hp:s.pending= [])(b:B):(whole s b).pending= []:=by
 unfold whole event close
 dsimp only
 repeat' split
 all_goals first | exact hp | rfl
theorem Ss{s:St}(hp:s.pending= [])(b:B):(dG s b).pending= []:=by
 unfold dG
 split
 ·rfl
 ·rw[jh];exact O4 hp b
theorem O5{s:St}(ok:Ok s){q:B}(h:q.length<cu s.state q):Ok {s with pending:=q}:=
 ⟨ok.w1,ok.w2,ok.h1,ok.h2,ok.st,ok.nm,ok.way,ok.out,ok.out2,ok.asked,ok.early,ok.evs,fun _=>h,ok.size⟩
theorem Gx{s:St}(ok:Ok s):Ok {s with pending:= []}:=
 ⟨ok.w1,ok.w2,ok.h1,ok.h2,ok.st,ok.nm,ok.way,ok.out,ok.out2,ok.asked,ok.early,ok.evs,fun _=>z8 _,ok.size⟩
theorem Vl{w h:Nat}{name:B}(w1:1≤w)(w2:w≤640)(h1:1≤h)(h2:h≤480)(hn:name.length≤64):Ok (first w h name):=
 ⟨w1,w2,h1,h2,Nat.zero_le 4,hn,.inl rfl,by show (ascii "RFB 003.008\n").length≤4000000;decide,fun _=>by show (ascii "RFB 003.008\n").length≤12+4*0;decide,fun b q e=>(by cases e),fun _=>rfl,Nat.zero_le _,fun _=>z8 _,Nat.le_refl 4⟩
theorem qP{s:St}(ok:Ok s)(r:Rect)(color:Nat→Nat):Ok {s with screen:=painted s.screen r color}:=
 ⟨ok.w1,ok.w2,ok.h1,ok.h2,ok.st,ok.nm,ok.way,ok.out,ok.out2,ok.asked,ok.early,ok.evs,ok.pend,ok.size⟩
theorem Vm{s:St}(ok:Ok s)(n:Nat):Ok {s with out:=s.out.drop n}:=
 ⟨ok.w1,ok.w2,ok.h1,ok.h2,ok.st,ok.nm,ok.way,by have:=ok.out;simp;omega,fun h=>by have:=ok.out2 h;simp;omega,ok.asked,ok.early,ok.evs,ok.pend,ok.size⟩
theorem Su{s:St}(ok:Ok s){e:Event}{r:List Event}(h:s.events=e::r):Ok {s with events:=r}:=
 ⟨ok.w1,ok.w2,ok.h1,ok.h2,ok.st,ok.nm,ok.way,ok.out,ok.out2,ok.asked,ok.early,by have:=ok.evs;rw[h]at this;simp at this;dsimp only;omega,ok.pend,ok.size⟩
theorem O6(w h:Nat)(name:B)(hw:1≤w):BW (first w h name).screen (List.replicate h (List.replicate w 0)) (List.replicate h (List.replicate w true)):=by
 have e:∀ {α:Type}(a:α),(List.replicate h (List.replicate w a)).flatten=List.replicate (w*h) a:=by
  intro α a
  rw[List.flatten_replicate_replicate,Nat.mul_comm]
 exact⟨hw,(e 0).symm,(e true).symm,fun q hq=>by rw[List.eq_of_mem_replicate hq];simp[first],fun q hq=>by rw[List.eq_of_mem_replicate hq];simp[first],by simp[first],by simp[first]⟩
open PySw32
theorem row_inv{l:List Int}{x t:List Int}(h:PyFlat.row l=some (x,t)):l=(x.length:Int)::(x++t):=by
 cases l with
 | nil=>cases h
 | cons n r=>
  have h':(if 0≤n∧n.toNat≤r.length then some (r.take n.toNat,r.drop n.toNat)else none)=some (x,t):=h
  by_cases hc:0≤n∧n.toNat≤r.length
  ·rw[if_pos hc]at h'
   simp only[Option.some.injEq,Prod.mk.injEq]at h'
   obtain⟨rfl,rfl⟩:=h'
   rw[List.take_append_drop,List.length_take,Nat.min_eq_left hc.2]
   congr 1
   omega
  ·rw[if_neg hc]at h'
   cases h'
theorem z9{l:List Int}{xs:List (List Int)}{t:List Int}(h:PyFlat.rows 1 l=some (xs,t)):∃x,xs= [x]∧l=(x.length:Int)::(x++t):=by
 unfold PyFlat.rows at h
 cases hr:PyFlat.row l with
 | none=>rw[hr]at h;cases h
 | some p=>
  obtain⟨x,s⟩:=p
  rw[hr]at h
  unfold PyFlat.rows at h
  simp only[Option.some.injEq,Prod.mk.injEq]at h
  obtain⟨rfl,rfl⟩:=h
  exact⟨x,rfl,row_inv hr⟩
theorem vg{l:List Int}{xs:List (List Int)}{t:List Int}(h:PyFlat.rows 0 l=some (xs,t)):xs= []∧l=t:=by
 unfold PyFlat.rows at h
 simp only[Option.some.injEq,Prod.mk.injEq]at h
 exact⟨h.1.symm,h.2⟩
theorem take1{r:List Int}(h:¬r.length<1):∃a q,r=a::q:=by
 match r,h with
 | a::q,_=>exact⟨a,q,rfl⟩
 | [],h=>simp at h
theorem take2{r:List Int}(h:¬r.length<2):∃a b q,r=a::b::q:=by
 match r,h with
 | a::b::q,_=>exact⟨a,b,q,rfl⟩
 | [],h=>simp at h
 | [_],h=>simp at h
theorem abT{r:List Int}(h:¬r.length<4):∃a b c d q,r=a::b::c::d::q:=by
 match r,h with
 | a::b::c::d::q,_=>exact⟨a,b,c,d,q,rfl⟩
 | [],h=>simp at h
 | [_],h=>simp at h
 | [_,_],h=>simp at h
 | [_,_,_],h=>simp at h
theorem abU{r:List Int}(h:¬r.length<5):∃a b c d e q,r=a::b::c::d::e::q:=by
 match r,h with
 | a::b::c::d::e::q,_=>exact⟨a,b,c,d,e,q,rfl⟩
 | [],h=>simp at h
 | [_],h=>simp at h
 | [_,_],h=>simp at h
 | [_,_,_],h=>simp at h
 | [_,_,_,_],h=>simp at h
inductive nG:List Int→List (List Int)→List Int→Prop
 | begin_ (w h:Int) (x t:List Int):nG (1::w::h::(x.length:Int)::(x++t)) [[1,w,h],x] t
 | fill (x y w h c:Int) (t:List Int):nG (2::x::y::w::h::c::t) [[2,x,y,w,h,c]] t
 | put (x y w h:Int) (cs t:List Int):nG (3::x::y::w::h::(cs.length:Int)::(cs++t)) [[3,x,y,w,h],cs] t
 | input (b t:List Int):nG (4::(b.length:Int)::(b++t)) [[4],b] t
 | output (m:Int) (t:List Int):nG (5::m::t) [[5,m]] t
 | event (m:Int) (t:List Int):nG (6::m::t) [[6,m]] t
 | told (t:List Int):nG (7::t) [[7]] t
theorem Xp{l:List Int}{c:List (List Int)}{t:List Int}(h:PyFlat.call shape l=some (c,t)):nG l c t:=by
 cases l with
 | nil=>cases h
 | cons p r=>
  replace h:(match shape p with
   | none=>none
   | some (n,k)=>if r.length<n then none else match PyFlat.rows k (r.drop n)with
    | none=>none
    | some (xs,t)=>some ((p::r.take n)::xs,t))=some (c,t):=h
  have key:∀(n k:Nat),shape p=some (n,k)→(if r.length<n then none else match PyFlat.rows k (r.drop n)with
    | none=>none
    | some (xs,t)=>some ((p::r.take n)::xs,t))=some (c,t)→¬r.length<n∧∃xs,PyFlat.rows k (r.drop n)=some (xs,t)∧c=(p::r.take n)::xs:=by
   intro n k _ h
   split at h
   ·cases h
   ·rename_i hn
    cases hr:PyFlat.rows k (r.drop n)with
    | none=>rw[hr]at h;cases h
    | some q=>
     obtain⟨xs,t'⟩:=q
     rw[hr]at h
     simp only[Option.some.injEq,Prod.mk.injEq]at h
     obtain⟨rfl,rfl⟩:=h
     exact⟨hn,xs,rfl,rfl⟩
  cases hs:shape p with
  | none=>rw[hs]at h;cases h
  | some nk=>
   obtain⟨n,k⟩:=nk
   rw[hs]at h
   obtain⟨hn,xs,hr,rfl⟩:=key n k hs h
   unfold shape at hs
   by_cases p1:p=1
   ·subst p1
    simp at hs;obtain⟨rfl,rfl⟩:=hs
    obtain⟨a,b,q,rfl⟩:=take2 hn
    obtain⟨x,rfl,e⟩:=z9 hr
    simp at e;subst e
    exact .begin_ a b x t
   ·by_cases p2:p=2
    ·subst p2
     simp at hs;obtain⟨rfl,rfl⟩:=hs
     obtain⟨a,b,c,d,e,q,rfl⟩:=abU hn
     obtain⟨rfl,e⟩:=vg hr
     simp at e;subst e
     exact .fill a b c d e _
    ·by_cases p3:p=3
     ·subst p3
      simp at hs;obtain⟨rfl,rfl⟩:=hs
      obtain⟨a,b,c,d,q,rfl⟩:=abT hn
      obtain⟨x,rfl,e⟩:=z9 hr
      simp at e;subst e
      exact .put a b c d x t
     ·by_cases p4:p=4
      ·subst p4
       simp at hs;obtain⟨rfl,rfl⟩:=hs
       obtain⟨x,rfl,e⟩:=z9 hr
       simp at e;subst e
       exact .input x t
      ·by_cases p5:p=5
       ·subst p5
        simp at hs;obtain⟨rfl,rfl⟩:=hs
        obtain⟨a,q,rfl⟩:=take1 hn
        obtain⟨rfl,e⟩:=vg hr
        simp at e;subst e
        exact .output a _
       ·by_cases p6:p=6
        ·subst p6
         simp at hs;obtain⟨rfl,rfl⟩:=hs
         obtain⟨a,q,rfl⟩:=take1 hn
         obtain⟨rfl,e⟩:=vg hr
         simp at e;subst e
         exact .event a _
        ·by_cases p7:p=7
         ·subst p7
          simp at hs;obtain⟨rfl,rfl⟩:=hs
          obtain⟨rfl,e⟩:=vg hr
          simp at e;subst e
          exact .told _
         ·simp[p1,p2,p3,p4,p5,p6,p7]at hs
theorem xq{f:Nat}{l:List Int}{cs:List (List (List Int))}(hl:l≠ [])(h:PyFlat.calls shape f l=some cs):∃f' c t cs',nG l c t∧PyFlat.calls shape f' t=some cs'∧cs=c::cs':=by
 obtain⟨p,r,rfl⟩:=List.exists_cons_of_ne_nil hl
 cases f with
 | zero=>cases h
 | succ f=>
  unfold PyFlat.calls at h
  cases hc:PyFlat.call shape (p::r)with
  | none=>rw[hc]at h;cases h
  | some q=>
   obtain⟨c,t⟩:=q
   rw[hc]at h
   dsimp only at h
   cases hk:PyFlat.calls shape f t with
   | none=>rw[hk]at h;cases h
   | some cs'=>
    rw[hk]at h
    simp only[Option.some.injEq]at h
    exact⟨f,c,t,cs',Xp hc,hk,h.symm⟩
theorem Ib{f:Nat}{cs:List (List (List Int))}(h:PyFlat.calls shape f []=some cs):cs= []:=by
 cases f<;>(unfold PyFlat.calls at h;simpa using h.symm)
end Fs
end
section
set_option maxHeartbeats 4000000
namespace Fs
open PySem PySem.Spec PyProof.Rows L2
noncomputable def nv(l:List Nat):List V:=l.map fun(n:Nat)=>V.int (n:Int)
theorem aD(l:List Nat):(nv l).length=l.length:=by simp[nv]
theorem bG(l m:List Nat):nv (l++m)=nv l++nv m:=by simp[nv]
theorem fG(l:List Nat)(k:Nat):(nv l).take k=nv (l.take k):=by simp[nv]
theorem dY(l:List Nat)(k:Nat):(nv l).drop k=nv (l.drop k):=by simp[nv]
theorem jG{l:List Nat}{i n:Nat}(h:l[i]? =some n):(nv l)[i]? =some (V.int (n:Int)):=by simp[nv,h]
theorem vh{l:List Nat}{i:Nat}(h:i<l.length):(nv l)[i]? =some (V.int ((l.getD i 0 :Nat):Int)):=jG (by rw[List.getD_eq_getElem?_getD,List.getElem?_eq_getElem h];rfl)
theorem uf{l:List Nat}{i:Nat}{x:V}(h:(nv l)[i]? =some x):∃n,l[i]? =some n∧x=V.int (n:Int):=by
 simp only[nv,List.getElem?_map]at h
 cases e:l[i]? with
 | none=>rw[e]at h;cases h
 | some n=>rw[e]at h;exact⟨n,rfl,(Option.some.inj h).symm⟩
theorem YH(l:List Nat):nv l=(l.map fun(n:Nat)=>(n:Int)).map V.int:=by simp[nv]
theorem mC(n d k:Nat):HT.fB n d (some (k:Int))=min k n:=HT.Wz n d k
theorem dg(xs:List V)(a b:Nat):BR xs (some (a:Int)) (some (b:Int))=(xs.drop a).take (b-a):=by
 unfold BR
 rw[mC,mC]
 by_cases h:a≤xs.length
 ·rw[Nat.min_eq_left h]
  by_cases h2:b≤xs.length
  ·rw[Nat.min_eq_left h2]
  ·rw[Nat.min_eq_right (by omega),List.take_of_length_le (by simp),List.take_of_length_le (by simp;omega)]
 ·rw[List.drop_eq_nil_of_le (by omega:xs.length≤a),List.drop_eq_nil_of_le (by omega)];simp
theorem Xq(xs:List V)(b:Nat):BR xs none (some (b:Int))=xs.take b:=by
 unfold BR
 rw[mC]
 show (xs.drop 0).take (min b xs.length-0)=_
 rw[List.drop_zero,Nat.sub_zero]
 by_cases h:b≤xs.length
 ·rw[Nat.min_eq_left h]
 ·rw[Nat.min_eq_right (by omega),List.take_of_length_le (by omega),List.take_of_length_le (by omega)]
theorem Aa(xs:List V)(a:Nat):BR xs (some (a:Int)) none=xs.drop a:=by
 unfold BR
 rw[mC]
 show (xs.drop (min a xs.length)).take (xs.length-min a xs.length)=_
 rw[List.take_of_length_le (by simp)]
 by_cases h:a≤xs.length
 ·rw[Nat.min_eq_left h]
 ·rw[List.drop_eq_nil_of_le (by omega:xs.length≤a),List.drop_eq_nil_of_le (by omega)]
noncomputable abbrev Kp(W:List Addr)(H H':Hp):Prop:=∀b o,H b=some o→b ∉ W→H' b=some o
theorem Kp.refl (W:List Addr) (H:Hp):Kp W H H:=fun _ _ e _=>e
theorem Kp.trans {W:List Addr} {H H1 H2:Hp} (a:Kp W H H1) (b:Kp W H1 H2):Kp W H H2:=fun x o e n=>b x o (a x o e n) n
theorem Kp.more {W W':List Addr} {H H1:Hp} (a:Kp W H H1) (h:∀b ∈ W,b ∈ W'):Kp W' H H1:=fun x o e n=>a x o e fun q=>n (h x q)
theorem Kp.one {W:List Addr} {z:Addr} {H H1:Hp} (a:Kp [z] H H1) (h:z ∈ W):Kp W H H1:=a.more fun b hb=>by simp at hb;rw[hb];exact h
theorem Kp.nil {H H1:Hp} (a:Kp [] H H1):bu H H1:=fun b o e=>a b o e (by simp)
theorem _root_.L2.bu.kp {H H1:Hp} (a:bu H H1) (W:List Addr):Kp W H H1:=fun b o e _=>a b o e
theorem old{H:Hp}{b p:Addr}{o q:HO}(n:H p=none)(h:H b=some o):upd H p q b=some o:=by rw[bF (ao h n)];exact h
theorem oth{H:Hp}{b p:Addr}{o q:HO}(n:b≠p)(h:H b=some o):upd H p q b=some o:=by rw[bF n];exact h
theorem az{H:Hp}{p:Addr}{q:HO}(n:H p=none):bu H (upd H p q):=fun b o e=>old n e
theorem cH{H:Hp}{p:Addr}{q:HO}:Kp [p] H (upd H p q):=fun b o e n=>oth (by simpa using n) e
theorem aU{H:Hp}{b p:Addr}{q:HO}(h:upd H p q b=none):H b=none∧b≠p:=by
 have hne:b≠p:=fun e=>by rw[e,aj]at h;cases h
 rw[bF hne]at h
 exact⟨h,hne⟩
theorem Kp.free {W:List Addr} {H H':Hp} (a:Kp W H H') {l:Addr} (h:H' l=none) (hw:∀z ∈ W,∃o,H' z=some o):H l=none:=by
 cases e:H l with
 | none=>rfl
 | some o=>
  by_cases hl:l ∈ W
  ·obtain⟨q,hq⟩:=hw l hl
   rw[h]at hq;cases hq
  ·rw[a l o e hl]at h;cases h
noncomputable def P2{α β:Type}(R:α→β→Prop):List α→List β→Prop
 | [],[]=>True
 | a::as,b::bs=>R a b∧P2 R as bs
 | _,_=>False
section
variable{α β:Type}{R S:α→β→Prop}
theorem P2.imp (h:∀a b,R a b→S a b):∀ {as:List α}{bs:List β},P2 R as bs→P2 S as bs
 | [],[],_=>True.intro
 | _::_,_::_,⟨p,q⟩=>⟨h _ _ p,P2.imp h q⟩
 | [],_::_,h=>h.elim
 | _::_,[],h=>h.elim
theorem P2.len:∀ {as:List α}{bs:List β},P2 R as bs→as.length=bs.length
 | [],[],_=>rfl
 | _::_,_::_,⟨_,q⟩=>by simp[P2.len q]
 | [],_::_,h=>h.elim
 | _::_,[],h=>h.elim
theorem P2.app:∀ {as cs:List α}{bs ds:List β},P2 R as bs→P2 R cs ds→P2 R (as++cs) (bs++ds)
 | [],_,[],_,_,h=>h
 | _::_,_,_::_,_,⟨p,q⟩,h=>⟨p,P2.app q h⟩
 | [],_,_::_,_,h,_=>h.elim
 | _::_,_,[],_,h,_=>h.elim
theorem P2.snoc {as:List α} {bs:List β} {a:α} {b:β} (h:P2 R as bs) (r:R a b):P2 R (as ++ [a]) (bs ++ [b]):=P2.app h ⟨r,True.intro⟩
theorem P2.get:∀ {as:List α}{bs:List β}{i:Nat}{a:α},P2 R as bs→as[i]? =some a→∃b,bs[i]? =some b∧R a b
 | [],[],_,_,_,e=>by simp at e
 | x::_,y::_,0,a,⟨p,_⟩,e=>by simp at e;subst e;exact⟨y,rfl,p⟩
 | _::_,_::_,i+1,a,⟨_,q⟩,e=>by simpa using P2.get (i:=i) q (by simpa using e)
 | [],_::_,_,_,h,_=>h.elim
 | _::_,[],_,_,h,_=>h.elim
theorem P2.get':∀ {as:List α}{bs:List β}{i:Nat}{b:β},P2 R as bs→bs[i]? =some b→∃a,as[i]? =some a∧R a b
 | [],[],_,_,_,e=>by simp at e
 | x::_,y::_,0,a,⟨p,_⟩,e=>by simp at e;subst e;exact⟨x,rfl,p⟩
 | _::_,_::_,i+1,a,⟨_,q⟩,e=>by simpa using P2.get' (i:=i) q (by simpa using e)
 | [],_::_,_,_,h,_=>h.elim
 | _::_,[],_,_,h,_=>h.elim
theorem P2.set:∀ {as:List α}{bs:List β}{a:α}{b:β}(i:Nat),P2 R as bs→R a b→P2 R (as.set i a) (bs.set i b)
 | [],[],_,_,_,_,_=>True.intro
 | _::_,_::_,_,_,0,⟨_,q⟩,r=>⟨r,q⟩
 | _::_,_::_,_,_,i+1,⟨p,q⟩,r=>⟨p,P2.set i q r⟩
 | [],_::_,_,_,_,h,_=>h.elim
 | _::_,[],_,_,_,h,_=>h.elim
theorem P2.take:∀ {as:List α}{bs:List β}(i:Nat),P2 R as bs→P2 R (as.take i) (bs.take i)
 | [],[],i,_=>by simp[P2]
 | _::_,_::_,0,_=>True.intro
 | _::_,_::_,i+1,⟨p,q⟩=>⟨p,P2.take i q⟩
 | [],_::_,_,h=>h.elim
 | _::_,[],_,h=>h.elim
theorem P2.drop:∀ {as:List α}{bs:List β}(i:Nat),P2 R as bs→P2 R (as.drop i) (bs.drop i)
 | [],[],i,_=>by simp[P2]
 | _::_,_::_,0,h=>h
 | _::_,_::_,i+1,⟨_,q⟩=>by simpa using P2.drop i q
 | [],_::_,_,h=>h.elim
 | _::_,[],_,h=>h.elim
end
theorem bJ{c A B:Prop}[Decidable c](h1:c→A)(h2:¬c→B):if decide c=true then A else B:=by
 by_cases h:c
 ·rw[if_pos (decide_eq_true h)];exact h1 h
 ·rw[if_neg (by simpa using h)];exact h2 h
theorem qQ{c A B:Prop}[Decidable c](h1:¬c→A)(h2:c→B):if (!decide c)=true then A else B:=by
 by_cases h:c
 ·rw[if_neg (by simpa using h)];exact h2 h
 ·rw[if_pos (by simpa using h)];exact h1 h
theorem Vn{b:Bool}{A B:Prop}(h1:b=true→A)(h2:b=false→B):if b=true then A else B:=by
 cases b
 ·exact aef (h2 rfl)
 ·exact Dl (h1 rfl)
theorem aH(a b:Int):(V.int a=V.int b)↔a=b:=⟨fun e=>by injection e,fun e=>by rw[e]⟩
theorem dO:sizeLine=16777216:=sizeLine_eq
theorem kY{x:Nat}:Builtin.bitAnd (x:Int) 255=((x % 256 :Nat):Int):=by
 have e:(255 :Int)=2 ^ 8-1:=by decide
 rw[e,sH.K5 8 (by omega)]
 have e2:(2 :Int) ^ 8=256:=by decide
 rw[e2];omega
theorem Cy(x k:Nat):((x:Int) / 2 ^ k)=((x / 2 ^ k:Nat):Int):=by
 have:((2 :Int) ^ k)=((2 ^ k:Nat):Int):=by simp
 rw[this];exact(Int.natCast_ediv x (2 ^ k)).symm
theorem ou{J:It}{g:TG}{tb:TS}{D:Ends}{σ:L2.St}{H:Hp}(n:Nat)(Pv:Nat→L2.St→Hp→Prop)(h0:Pv 0 σ H)(hgo:∀i σ H,i<n→Pv i σ H→J.go i H)(hst:∀σ H,Pv n σ H→J.stop n H)
  (hs:∀i σ H x H',i<n→Pv i σ H→J.T6 i H x H'→g x σ H' fun sG H2=>tb {D with nx:=Pv (i+1),ct:=Pv (i+1),bk:=D.nx} sG H2) (hd:∀σ H,Pv n σ H→D.nx σ H):
  ∃W:Nat→Nat→L2.St→Hp→Prop,(∃m,W 0 m σ H)∧∀i m σ H,W i m σ H→
   (J.stop i H∧D.nx σ H)∨(J.go i H∧∃N:L2.St→Hp→Prop,(∀σ' H',N σ' H'→∃m',m'<m∧W (i+1) m' σ' H')∧∀x H',J.T6 i H x H'→g x σ H' fun sG H2=>tb {D with nx:=N,ct:=N,bk:=D.nx} sG H2):=by
 refine⟨fun i m σ H=>m=n-i∧i≤n∧Pv i σ H,⟨n,by simp,Nat.zero_le _,h0⟩,?_⟩
 rintro i m σ H ⟨rfl,hi,p⟩
 by_cases hlt:i<n
 ·exact .inr ⟨hgo i σ H hlt p,Pv (i+1),fun σ' H' p'=>⟨n-(i+1),by omega,rfl,hlt,p'⟩,fun x H' y=>hs i σ H x H' hlt p y⟩
 ·have e:i=n:=by omega
  subst e
  exact .inl ⟨hst σ H p,hd σ H p⟩
theorem xr{J:It}{g:TG}{tt:TT}{te:TE}{vs:List Nat}{σ:L2.St}{H1:Hp}{D:Addr}{Qd:Hp→Prop}(n:Nat)(Pv:Nat→Hp→Prop)(h0:Pv 0 (upd H1 D (.lst [])))(hgo:∀i H,i<n→Pv i H→J.go i H)(hst:∀H,Pv n H→J.stop n H)
  (hs:∀i H x H',i<n→Pv i H→J.T6 i H x H'→g x (wipe σ vs) H' fun sG H2=>wipe sG vs=wipe σ vs∧tt sG H2 fun b H3=>
   if b=true then te sG H3 fun y H4=>∃acc,H4 D=some (.lst acc)∧acc.length<sizeLine∧Pv (i+1) (upd H4 D (.lst (acc ++ [y])))else Pv (i+1) H3) (hd:∀H,Pv n H→Qd H):
  ∃W:Nat→Nat→Hp→Prop,(∃m,W 0 m (upd H1 D (.lst [])))∧∀i m H,W i m H→
   (J.stop i H∧Qd H)∨(J.go i H∧∃Nx:Hp→Prop,(∀H',Nx H'→∃m',m'<m∧W (i+1) m' H')∧∀x H',J.T6 i H x H'→g x (wipe σ vs) H' fun sG H2=>wipe sG vs=wipe σ vs∧tt sG H2 fun b H3=>
    if b=true then te sG H3 fun y H4=>∃acc,H4 D=some (.lst acc)∧acc.length<sizeLine∧Nx (upd H4 D (.lst (acc ++ [y])))else Nx H3):=by
 refine⟨fun i m H=>m=n-i∧i≤n∧Pv i H,⟨n,by simp,Nat.zero_le _,h0⟩,?_⟩
 rintro i m H ⟨rfl,hi,p⟩
 by_cases hlt:i<n
 ·exact .inr ⟨hgo i H hlt p,Pv (i+1),fun H' p'=>⟨n-(i+1),by omega,rfl,hlt,p'⟩,fun x H' y=>hs i H x H' hlt p y⟩
 ·have e:i=n:=by omega
  subst e
  exact .inl ⟨hst H p,hd H p⟩
theorem j5{α:Type}(f:Nat→α)(n:Nat):(List.range (n+1)).map f=(List.range n).map f ++ [f n]:=by rw[List.range_succ,List.map_append];rfl
theorem take_snoc{α:Type}{l:List α}{i:Nat}{a:α}(h:l[i]? =some a):l.take (i+1)=l.take i ++ [a]:=by rw[List.take_succ,h];rfl
theorem cz{C:Addr}{ns:List Str}{i k:Nat}{σ:L2.St}{H:Hp}{Q:VK}{a dx:Addr}{vs:List V}{v:V}(hob:H a=some (Io C ns dx vs))(hσ:σ[i]? =some (some (V.ref a)))(hi:vs[k]? =some v)(q:Q v H):tF C ns k (CN i) σ H Q:=⟨_,hσ,_,_,_,_,rfl,hob,hi,q⟩
theorem aC{A:Type}{P Q:A→Prop}{a}(h:P a)(r:Q a):∃a,P a∧Q a:=⟨a,h,r⟩
theorem cW{A:Type}{P Q R:A→Prop}{a}(h:P a)(i:Q a)(r:R a):∃a,P a∧Q a∧R a:=⟨a,h,i,r⟩
theorem e13{A:Type}{P Q R S:A→Prop}{a}(h:P a)(i:Q a)(j:R a)(r:S a):∃a,P a∧Q a∧R a∧S a:=⟨a,h,i,j,r⟩
theorem e14{A:Type}{P Q R S T:A→Prop}{a}(h:P a)(i:Q a)(j:R a)(k:S a)(r:T a):∃a,P a∧Q a∧R a∧S a∧T a:=⟨a,h,i,j,k,r⟩
theorem vq{A B:Type}{P Q:A→B→Prop}{a b}(h:P a b)(r:Q a b):∃a b,P a b∧Q a b:=⟨a,b,h,r⟩
theorem cP{A B:Type}{P Q R:A→B→Prop}{a b}(h:P a b)(i:Q a b)(r:R a b):∃a b,P a b∧Q a b∧R a b:=⟨a,b,h,i,r⟩
theorem nR{A B:Type}{P Q R S:A→B→Prop}{a b}(h:P a b)(i:Q a b)(j:R a b)(r:S a b):∃a b,P a b∧Q a b∧R a b∧S a b:=⟨a,b,h,i,j,r⟩
theorem YJ{A B:Type}{P Q R S T:A→B→Prop}{a b}(h:P a b)(i:Q a b)(j:R a b)(k:S a b)(r:T a b):∃a b,P a b∧Q a b∧R a b∧S a b∧T a b:=⟨a,b,h,i,j,k,r⟩
theorem e25{A B:Type}{P Q R S T U:A→B→Prop}{a b}(h:P a b)(i:Q a b)(j:R a b)(k:S a b)(l:T a b)(r:U a b):∃a b,P a b∧Q a b∧R a b∧S a b∧T a b∧U a b:=⟨a,b,h,i,j,k,l,r⟩
theorem vU{A B C:Type}{P Q:A→B→C→Prop}{a b c}(h:P a b c)(r:Q a b c):∃a b c,P a b c∧Q a b c:=⟨a,b,c,h,r⟩
theorem jM{A B C:Type}{P Q R:A→B→C→Prop}{a b c}(h:P a b c)(i:Q a b c)(r:R a b c):∃a b c,P a b c∧Q a b c∧R a b c:=⟨a,b,c,h,i,r⟩
theorem lJ{A B C:Type}{P Q R S:A→B→C→Prop}{a b c}(h:P a b c)(i:Q a b c)(j:R a b c)(r:S a b c):∃a b c,P a b c∧Q a b c∧R a b c∧S a b c:=⟨a,b,c,h,i,j,r⟩
theorem e34{A B C:Type}{P Q R S T:A→B→C→Prop}{a b c}(h:P a b c)(i:Q a b c)(j:R a b c)(k:S a b c)(r:T a b c):∃a b c,P a b c∧Q a b c∧R a b c∧S a b c∧T a b c:=⟨a,b,c,h,i,j,k,r⟩
theorem e36{A B C:Type}{P Q R S T U V:A→B→C→Prop}{a b c}(h:P a b c)(i:Q a b c)(j:R a b c)(k:S a b c)(l:T a b c)(m:U a b c)(r:V a b c):∃a b c,P a b c∧Q a b c∧R a b c∧S a b c∧T a b c∧U a b c∧V a b c:=⟨a,b,c,h,i,j,k,l,m,r⟩
theorem YK{A B C D:Type}{P Q:A→B→C→D→Prop}{a b c d}(h:P a b c d)(r:Q a b c d):∃a b c d,P a b c d∧Q a b c d:=⟨a,b,c,d,h,r⟩
theorem e42{A B C D:Type}{P Q R:A→B→C→D→Prop}{a b c d}(h:P a b c d)(i:Q a b c d)(r:R a b c d):∃a b c d,P a b c d∧Q a b c d∧R a b c d:=⟨a,b,c,d,h,i,r⟩
theorem vy{A B C D:Type}{P Q R S:A→B→C→D→Prop}{a b c d}(h:P a b c d)(i:Q a b c d)(j:R a b c d)(r:S a b c d):∃a b c d,P a b c d∧Q a b c d∧R a b c d∧S a b c d:=⟨a,b,c,d,h,i,j,r⟩
theorem jN{A B C D:Type}{P Q R S T:A→B→C→D→Prop}{a b c d}(h:P a b c d)(i:Q a b c d)(j:R a b c d)(k:S a b c d)(r:T a b c d):∃a b c d,P a b c d∧Q a b c d∧R a b c d∧S a b c d∧T a b c d:=⟨a,b,c,d,h,i,j,k,r⟩
theorem Em{A B C D:Type}{P Q R S T U:A→B→C→D→Prop}{a b c d}(h:P a b c d)(i:Q a b c d)(j:R a b c d)(k:S a b c d)(l:T a b c d)(r:U a b c d):∃a b c d,P a b c d∧Q a b c d∧R a b c d∧S a b c d∧T a b c d∧U a b c d:=⟨a,b,c,d,h,i,j,k,l,r⟩
theorem e47{A B C D:Type}{P Q R S T U V W:A→B→C→D→Prop}{a b c d}(h:P a b c d)(i:Q a b c d)(j:R a b c d)(k:S a b c d)(l:T a b c d)(m:U a b c d)(n:V a b c d)(r:W a b c d):∃a b c d,P a b c d∧Q a b c d∧R a b c d∧S a b c d∧T a b c d∧U a b c d∧V a b c d∧W a b c d:=⟨a,b,c,d,h,i,j,k,l,m,n,r⟩
theorem e51{A B C D E:Type}{P Q:A→B→C→D→E→Prop}{a b c d e}(h:P a b c d e)(r:Q a b c d e):∃a b c d e,P a b c d e∧Q a b c d e:=⟨a,b,c,d,e,h,r⟩
theorem e52{A B C D E:Type}{P Q R:A→B→C→D→E→Prop}{a b c d e}(h:P a b c d e)(i:Q a b c d e)(r:R a b c d e):∃a b c d e,P a b c d e∧Q a b c d e∧R a b c d e:=⟨a,b,c,d,e,h,i,r⟩
theorem e53{A B C D E:Type}{P Q R S:A→B→C→D→E→Prop}{a b c d e}(h:P a b c d e)(i:Q a b c d e)(j:R a b c d e)(r:S a b c d e):∃a b c d e,P a b c d e∧Q a b c d e∧R a b c d e∧S a b c d e:=⟨a,b,c,d,e,h,i,j,r⟩
theorem e54{A B C D E:Type}{P Q R S T:A→B→C→D→E→Prop}{a b c d e}(h:P a b c d e)(i:Q a b c d e)(j:R a b c d e)(k:S a b c d e)(r:T a b c d e):∃a b c d e,P a b c d e∧Q a b c d e∧R a b c d e∧S a b c d e∧T a b c d e:=⟨a,b,c,d,e,h,i,j,k,r⟩
theorem e55{A B C D E:Type}{P Q R S T U:A→B→C→D→E→Prop}{a b c d e}(h:P a b c d e)(i:Q a b c d e)(j:R a b c d e)(k:S a b c d e)(l:T a b c d e)(r:U a b c d e):∃a b c d e,P a b c d e∧Q a b c d e∧R a b c d e∧S a b c d e∧T a b c d e∧U a b c d e:=⟨a,b,c,d,e,h,i,j,k,l,r⟩
theorem e61{A B C D E F:Type}{P Q:A→B→C→D→E→F→Prop}{a b c d e f}(h:P a b c d e f)(r:Q a b c d e f):∃a b c d e f,P a b c d e f∧Q a b c d e f:=⟨a,b,c,d,e,f,h,r⟩
theorem Xr{A B C D E F:Type}{P Q R:A→B→C→D→E→F→Prop}{a b c d e f}(h:P a b c d e f)(i:Q a b c d e f)(r:R a b c d e f):∃a b c d e f,P a b c d e f∧Q a b c d e f∧R a b c d e f:=⟨a,b,c,d,e,f,h,i,r⟩
theorem Sv{A B C D E F:Type}{P Q R S:A→B→C→D→E→F→Prop}{a b c d e f}(h:P a b c d e f)(i:Q a b c d e f)(j:R a b c d e f)(r:S a b c d e f):∃a b c d e f,P a b c d e f∧Q a b c d e f∧R a b c d e f∧S a b c d e f:=⟨a,b,c,d,e,f,h,i,j,r⟩
theorem YL{A B C D E F:Type}{P Q R S T:A→B→C→D→E→F→Prop}{a b c d e f}(h:P a b c d e f)(i:Q a b c d e f)(j:R a b c d e f)(k:S a b c d e f)(r:T a b c d e f):∃a b c d e f,P a b c d e f∧Q a b c d e f∧R a b c d e f∧S a b c d e f∧T a b c d e f:=⟨a,b,c,d,e,f,h,i,j,k,r⟩
theorem e65{A B C D E F:Type}{P Q R S T U:A→B→C→D→E→F→Prop}{a b c d e f}(h:P a b c d e f)(i:Q a b c d e f)(j:R a b c d e f)(k:S a b c d e f)(l:T a b c d e f)(r:U a b c d e f):∃a b c d e f,P a b c d e f∧Q a b c d e f∧R a b c d e f∧S a b c d e f∧T a b c d e f∧U a b c d e f:=⟨a,b,c,d,e,f,h,i,j,k,l,r⟩
theorem e66{A B C D E F:Type}{P Q R S T U V:A→B→C→D→E→F→Prop}{a b c d e f}(h:P a b c d e f)(i:Q a b c d e f)(j:R a b c d e f)(k:S a b c d e f)(l:T a b c d e f)(m:U a b c d e f)(r:V a b c d e f):∃a b c d e f,P a b c d e f∧Q a b c d e f∧R a b c d e f∧S a b c d e f∧T a b c d e f∧U a b c d e f∧V a b c d e f:=⟨a,b,c,d,e,f,h,i,j,k,l,m,r⟩
end Fs
end
section
set_option maxHeartbeats 4000000
namespace Fs
open PySem PySem.Spec PyProof.Rows L2
section
variable{P:Program}{w:World}{K:PySem.W.Frag}{mg:Str→Option Value}{base:Heap}
noncomputable abbrev gh(A:bB)(dx:Addr)(x y w h:Int):HO:=Io A.Lj Lh dx [.int x,.int y,.int w,.int h]
noncomputable def Sw(A:bB):Sp:=fun vs H Q _=>∃p dx x y w h,vs= [.ref p,.int x,.int y,.int w,.int h]∧H p=some (Io A.Lj Lh dx [])∧Q .non (upd H p (gh A dx x y w h))
noncomputable def O7(A:bB):Sp:=fun vs H Q _=>∃p dx x y w h,vs= [.ref p]∧H p=some (gh A dx x y w h)∧Q (.int (x+w)) H
noncomputable def O8(A:bB):Sp:=fun vs H Q _=>∃p dx x y w h,vs= [.ref p]∧H p=some (gh A dx x y w h)∧Q (.int (y+h)) H
noncomputable def BX(A:bB):Sp:=fun vs H Q _=>∃p dx x y w h W G,vs= [.ref p,.int W,.int G]∧H p=some (gh A dx x y w h)∧Q (.bl (decide (0≤x∧0≤y∧1≤w∧1≤h∧x+w≤W∧y+h≤G))) H
theorem En:aF ["self","x","y","w","h"] ["self","x","y","w","h"] (aB Ds):=⟨rfl,rfl,rfl,by decide +kernel,rfl,by decide +kernel,by decide +kernel⟩
theorem nH{A:bB}(T:Txt K mg A):dZ P w K mg base 1 A.pL ["self","x","y","w","h"] (Sw A):=by
 refine T.pL.ok En (fun vs H Q E h=> ?_) (fun cdv Ar outer s H vs Q E hr h=> ?_)
 ·obtain⟨p,dx,x,y,w,h,rfl,_⟩:=h
  rfl
 ·obtain⟨p,dx,x,y,w,h,rfl,hp,k⟩:=h
  have nd:=En.nd
  refine⟨_,(ak (dw T.dD 0 (pv 0) (pv 1))
   (ak (dw T.dD 1 (pv 0) (pv 2))
   (ak (dw T.dD 2 (pv 0) (pv 3))
   (au (dw T.dD 3 (pv 0) (pv 4)))))),?_⟩
  refine⟨_,rfl,_,rfl,_,_,_,rfl,hp,rfl,?_⟩
  refine⟨_,rfl,_,rfl,_,_,_,rfl,aj,rfl,?_⟩
  refine⟨_,rfl,_,rfl,_,_,_,rfl,aj,rfl,?_⟩
  refine⟨_,rfl,_,rfl,_,_,_,rfl,aj,rfl,?_⟩
  simp only[bM]
  exact k
theorem Mi:aF ["self"] ["self"] (aB zH):=⟨rfl,rfl,rfl,by decide +kernel,rfl,by decide +kernel,by decide +kernel⟩
theorem jx{A:bB}(T:Txt K mg A):dZ P w K mg base 1 A.fK ["self"] (O7 A):=by
 refine T.fK.ok Mi (fun vs H Q E h=> ?_) (fun cdv Ar outer s H vs Q E hr h=> ?_)
 ·obtain⟨p,dx,x,y,w,h,rfl,_⟩:=h
  rfl
 ·obtain⟨p,dx,x,y,w,h,rfl,hp,k⟩:=h
  refine⟨_,(au (aG (bf eY (bc T.dD 0 (pv 0)) (bc T.dD 2 (pv 0))))),?_⟩
  exact⟨_,rfl,_,_,_,_,rfl,hp,rfl,_,rfl,_,_,_,_,rfl,hp,rfl,_,_,rfl,rfl,k⟩
theorem Mj:aF ["self"] ["self"] (aB zJ):=⟨rfl,rfl,rfl,by decide +kernel,rfl,by decide +kernel,by decide +kernel⟩
theorem lF{A:bB}(T:Txt K mg A):dZ P w K mg base 1 A.gw ["self"] (O8 A):=by
 refine T.gw.ok Mj (fun vs H Q E h=> ?_) (fun cdv Ar outer s H vs Q E hr h=> ?_)
 ·obtain⟨p,dx,x,y,w,h,rfl,_⟩:=h
  rfl
 ·obtain⟨p,dx,x,y,w,h,rfl,hp,k⟩:=h
  refine⟨_,(au (aG (bf eY (bc T.dD 1 (pv 0)) (bc T.dD 3 (pv 0))))),?_⟩
  exact⟨_,rfl,_,_,_,_,rfl,hp,rfl,_,rfl,_,_,_,_,rfl,hp,rfl,_,_,rfl,rfl,k⟩
theorem pW:aF ["self","w","h"] ["self","w","h"] (aB mX):=⟨rfl,rfl,rfl,by decide +kernel,rfl,by decide +kernel,by decide +kernel⟩
theorem pX{A:bB}(T:Txt K mg A):dZ P w K mg base 2 A.dW ["self","w","h"] (BX A):=by
 refine T.dW.ok pW (fun vs H Q E h=> ?_) (fun cdv Ar outer s H vs Q E hr h=> ?_)
 ·obtain⟨p,dx,x,y,w,h,W,G,rfl,_⟩:=h
  rfl
 ·obtain⟨p,dx,x,y,w,h,W,G,rfl,hp,k⟩:=h
  have nd:=pW.nd
  refine⟨_,(ak (bC (PW.pt (vD (aJ xR (bc T.dD 0 (pv 0)) aA (aP _)) (vD (aJ xR (bc T.dD 1 (pv 0)) aA (aP _)) (vD (aJ xR (bc T.dD 2 (pv 0)) aA (aP _)) (wD (aJ xR (bc T.dD 3 (pv 0)) aA (aP _)))))))
    (au (aG lR)) aM)
   (au (aG (T3 (qg Ym (cY T.dD T.fK (jx T) (hr.mono (by decide)) (pv 0)) (pv 1) (aP _)) (TY (qg Ym (cY T.dD T.gw (lF T) (hr.mono (by decide)) (pv 0)) (pv 2) (aP _))))))),?_⟩
  have no:¬(0≤x∧0≤y∧1≤w∧1≤h∧x+w≤W∧y+h≤G)→Q (.bl false) H:=fun c=>by rw[decide_eq_false c]at k;exact k
  refine⟨_,rfl,_,_,_,_,rfl,hp,rfl,_,_,rfl,rfl,_,rfl,bJ (fun c=>Dl (no (by omega))) fun c1=> ?_⟩
  refine⟨_,rfl,_,_,_,_,rfl,hp,rfl,_,_,rfl,rfl,_,rfl,bJ (fun c=>Dl (no (by omega))) fun c2=> ?_⟩
  refine⟨_,rfl,_,_,_,_,rfl,hp,rfl,_,_,rfl,rfl,_,rfl,bJ (fun c=>Dl (no (by omega))) fun c3=> ?_⟩
  refine⟨_,rfl,_,_,_,_,rfl,hp,rfl,_,_,rfl,rfl,_,rfl,bJ (fun c=>(no (by omega))) fun c4=> ?_⟩
  refine⟨_,rfl,_,_,_,rfl,hp,_,_,_,_,_,_,rfl,hp,_,rfl,_,_,rfl,rfl,_,rfl,bJ (fun c5=> ?_) fun c=>no (by omega)⟩
  refine⟨_,rfl,_,_,_,rfl,hp,_,_,_,_,_,_,rfl,hp,_,rfl,_,_,rfl,rfl,?_⟩
  have e:decide (0≤x∧0≤y∧1≤w∧1≤h∧x+w≤W∧y+h≤G)=decide (y+h≤G):=decide_eq_decide.mpr (by omega)
  rw[e]at k
  exact k
noncomputable abbrev eU(A:bB)(dx l:Addr)(pl:Nat):HO:=Io A.gY gW dx [.ref l,.int (pl:Int)]
noncomputable def O9(A:bB):Sp:=fun vs H Q _=>∃p dx,vs= [.ref p]∧H p=some (Io A.gY gW dx [])∧∀l,H l=none→Q .non (upd (upd H l (.lst [])) p (eU A dx l 0))
theorem Bd:aF ["self"] ["self"] (aB zK):=⟨rfl,rfl,rfl,by decide +kernel,rfl,by decide +kernel,by decide +kernel⟩
theorem ug{A:bB}(T:Txt K mg A):dZ P w K mg base 1 A.mG ["self"] (O9 A):=by
 refine T.mG.ok Bd (fun vs H Q E h=> ?_) (fun cdv Ar outer s H vs Q E hr h=> ?_)
 ·obtain⟨p,dx,rfl,_⟩:=h
  rfl
 ·obtain⟨p,dx,rfl,hp,k⟩:=h
  have nd:=Bd.nd
  refine⟨_,(ak (dw T.gk 0 (pv 0) (cG aq))
   (au (dw T.gk 1 (pv 0) aA))),?_⟩
  refine⟨by decide,fun l hl=> ?_⟩
  refine aC rfl (lJ rfl (old hl hp) rfl ?_)
  refine aC rfl (lJ rfl aj rfl ?_)
  rw[bM]
  exact k l hl
noncomputable def Sx(A:bB):Sp:=fun vs H Q _=>∃p dx l x,∃(pl:Nat)(all bs:List Nat),vs= [.ref p,.ref x]∧H p=some (eU A dx l pl)∧H l=some (.lst (nv all))∧H x=some (.lst (nv bs))∧(all.drop pl).length+bs.length≤16777216∧∀l' H',H l'=none→H' l'=some (.lst (nv (all.drop pl++bs)))→H' p=some (eU A dx l' 0)→Kp [p] H H'→Q .non H'
theorem Eo:aF ["self","octets"] ["self","octets"] (aB Dt):=⟨rfl,rfl,rfl,by decide +kernel,rfl,by decide +kernel,by decide +kernel⟩
theorem Ep{A:bB}(T:Txt K mg A):dZ P w K mg base 1 A.m7 ["self","octets"] (Sx A):=by
 refine T.m7.ok Eo (fun vs H Q E h=> ?_) (fun cdv Ar outer s H vs Q E hr h=> ?_)
 ·obtain⟨p,dx,l,x,pl,all,bs,rfl,_⟩:=h
  rfl
 ·obtain⟨p,dx,l,x,pl,all,bs,rfl,hp,hl,hx,hz,k⟩:=h
  have nd:=Eo.nd
  refine⟨_,(ak (oH T.gk 0 (pv 0) (bf iQ (bQ (cA K) (bc T.gk 0 (pv 0)) (bz (bc T.gk 1 (pv 0))) nT) (pv 1)))
   (au (oH T.gk 1 (pv 0) aA))),?_⟩
  apply cz hp;rfl;rfl
  apply cz hp;rfl;rfl
  refine aC rfl (cP (a:=l) (b:=nv all) rfl (bj.of hl) (fun t ht=> ?_))
  rw[Aa,dY]
  refine aC rfl (Em rfl rfl aj (old ht hx) (by rw[aD,aD,dO];exact hz) (fun t2 ht2=> ?_))
  obtain⟨h2,h2n⟩:=aU ht2
  refine aC rfl (lJ rfl (old ht2 (old ht hp)) (by simp) ?_)
  refine aC rfl (lJ rfl aj (by simp) ?_)
  rw[bM]
  refine k t2 _ h2 ?_ aj fun b o e n=> ?_
  ·rw[bG];exact oth (ao hp h2).symm aj
  ·exact oth (by simpa using n) (old ht2 (old ht e))
noncomputable def Pa(A:bB):Sp:=fun vs H Q _=>∃p dx l,∃(pl:Nat)(all:List Nat),vs= [.ref p]∧H p=some (eU A dx l pl)∧H l=some (.lst (nv all))∧pl≤all.length∧Q (.int ((all.drop pl).length:Nat)) H
theorem Be:aF ["self"] ["self"] (aB zL):=⟨rfl,rfl,rfl,by decide +kernel,rfl,by decide +kernel,by decide +kernel⟩
theorem uh{A:bB}(T:Txt K mg A):dZ P w K mg base 1 A.jm ["self"] (Pa A):=by
 refine T.jm.ok Be (fun vs H Q E h=> ?_) (fun cdv Ar outer s H vs Q E hr h=> ?_)
 ·obtain⟨p,dx,l,pl,all,rfl,_⟩:=h
  rfl
 ·obtain⟨p,dx,l,pl,all,rfl,hp,hl,hz,k⟩:=h
  have nd:=Be.nd
  refine aC (au (aG (bf oG (bO bA rfl T.gM PySem.boot_len (aa (bc T.gk 0 (pv 0)) aq)) (bc T.gk 1 (pv 0))))) ?_
  apply cz hp;rfl;rfl
  refine cP rfl (.inl (bj.of hl)) ?_
  apply cz hp;rfl;rfl
  refine cP rfl rfl ?_
  have e:(((nv all).length:Nat):Int)-(pl:Int)=((all.drop pl).length:Nat):=by rw[aD,List.length_drop];omega
  dsimp only
  rw[e]
  exact k
noncomputable def Ml(A:bB):Sp:=fun vs H Q _=>∃p dx l,∃(pl n:Nat)(all:List Nat),vs= [.ref p,.int (n:Int)]∧H p=some (eU A dx l pl)∧H l=some (.lst (nv all))∧∀l',H l'=none→Q (.ref l') (upd H l' (.lst (nv ((all.drop pl).take n))))
theorem yC:aF ["self","size"] ["self","size"] (aB wO):=⟨rfl,rfl,rfl,by decide +kernel,rfl,by decide +kernel,by decide +kernel⟩
theorem yD{A:bB}(T:Txt K mg A):dZ P w K mg base 1 A.je ["self","size"] (Ml A):=by
 refine T.je.ok yC (fun vs H Q E h=> ?_) (fun cdv Ar outer s H vs Q E hr h=> ?_)
 ·obtain⟨p,dx,l,pl,n,all,rfl,_⟩:=h
  rfl
 ·obtain⟨p,dx,l,pl,n,all,rfl,hp,hl,k⟩:=h
  have nd:=yC.nd
  refine aC (au (aG (bQ (cA K) (bc T.gk 0 (pv 0)) (bz (bc T.gk 1 (pv 0))) (bz (bf eY (bc T.gk 1 (pv 0)) (pv 1)))))) ?_
  apply cz hp;rfl;rfl
  apply cz hp;rfl;rfl
  refine aC rfl ?_
  apply cz hp;rfl;rfl
  refine aC rfl (cP rfl rfl (aC rfl (cP (a:=l) (b:=nv all) rfl (bj.of hl) (fun t ht=> ?_))))
  have e:(pl:Int)+(n:Int)=((pl+n:Nat):Int):=by omega
  rw[e,dg,dY,fG,show pl+n-pl=n by omega]
  exact k t ht
noncomputable def Pb(A:bB):Sp:=fun vs H Q _=>∃p dx l,∃(pl n:Nat)(all:List Nat),vs= [.ref p,.int (n:Int)]∧H p=some (eU A dx l pl)∧H l=some (.lst (nv all))∧∀l' H',H l'=none→H' l'=some (.lst (nv ((all.drop pl).take n)))→H' p=some (eU A dx l (pl+((all.drop pl).take n).length))→Kp [p] H H'→Q (.ref l') H'
theorem Bf:aF ["self","size","octets"] ["self","size"] (aB zM):=⟨rfl,rfl,rfl,by decide +kernel,rfl,by decide +kernel,by decide +kernel⟩
theorem Bg{A:bB}(T:Txt K mg A):dZ P w K mg base 2 A.jT ["self","size"] (Pb A):=by
 refine T.jT.ok Bf (fun vs H Q E h=> ?_) (fun cdv Ar outer s H vs Q E hr h=> ?_)
 ·obtain⟨p,dx,l,pl,n,all,rfl,_⟩:=h
  rfl
 ·obtain⟨p,dx,l,pl,n,all,rfl,hp,hl,k⟩:=h
  have nd:=Bf.nd
  refine⟨_,(ak (aQ (i:=2) nd rfl (Or.inl rfl) (dJ T.gk T.je (yD T) (hr.mono (by decide)) (pv 0) (aa (pv 1) aq)))
   (ak (Uz T.gk 1 (pv 0) (bO bA rfl T.gM PySem.boot_len (aa (pv 2) aq)))
   (au (aG (pv 2))))),?_⟩
  refine aC rfl (jM rfl hp (aC rfl (Sv (a:=p) (b:=dx) (c:=l) (d:=pl) (e:=n) (f:=all) rfl hp hl (fun t ht=> ?_))))
  refine aC rfl (vy rfl (old ht hp) rfl (aC rfl (cP rfl (.inl (bj.of aj)) (cW rfl (old ht hp) ?_))))
  refine aC rfl (k t _ ht ?_ ?_ fun b o e nn=> ?_)
  ·exact oth (ao hp ht).symm aj
  ·rw[aj]
   show some (Io A.gY gW dx [.ref l,.int ((pl:Int)+((nv ((all.drop pl).take n)).length:Nat))])=_
   rw[aD]
   rfl
  ·exact oth (by simpa using nn) (old ht e)
noncomputable def Er(A:bB):Sp:=fun vs H Q _=>∃(n k:Nat),vs= [.int (n:Int),.int (k:Int)]∧k≤8∧∀l,H l=none→Q (.ref l) (upd H l (.lst (nv (Sw32.be k n))))
theorem rE:aF ["number","size","octets","place"] ["number","size"] (aB oN):=⟨rfl,rfl,rfl,by decide +kernel,rfl,by decide +kernel,by decide +kernel⟩
theorem bN{A:bB}(T:Txt K mg A):dZ P w K mg base 1 A.bI ["number","size"] (Er A):=by
 refine T.bI.ok rE (fun vs H Q E h=> ?_) (fun cdv Ar outer s H vs Q E hr h=> ?_)
 ·obtain⟨n,k,rfl,_⟩:=h
  rfl
 ·obtain⟨n,k,rfl,hk,k'⟩:=h
  have nd:=rE.nd
  refine⟨_,(ak (aQ (i:=2) nd rfl (Or.inl rfl) (cG aq))
   (ak (dC PassesOwn.never rfl (uO rfl T.jb (aa (pv 1) aq)) (aX (i:=3) nd rfl (Or.inl rfl) (Or.inl rfl))
    (au (aR (fV PySem.F.plainAttrs_list PySem.F.slot_list_append PySem.F.type_list_append ji (pv 2) (aa (bf zp (bf Ja (pv 0) (bf qe aA (bf oG (bf oG (pv 1) aA) (pv 3)))) aA) aq)))))
   (au (aG (pv 2))))),?_⟩
  refine⟨by decide,fun l hl=> ?_⟩
  refine⟨_,rfl,(k:Int),rfl,by omega,by omega,pH (n:=k) (fun i σ H2=>∃v3,σ= [some (.int (n:Int)),some (.int (k:Int)),some (.ref l),v3]∧H2=upd H l (.lst (nv ((List.range i).map fun j=>n / 256 ^ (k-1-j) % 256))))
   ⟨_,rfl,rfl⟩ ?_ ?_⟩
  ·rintro i σ H2 hi ⟨v3,rfl,rfl⟩
   refine⟨_,rfl,.inl ⟨rfl,_,bj.of aj⟩,_,rfl,_,rfl,_,_,rfl,rfl,_,rfl,_,_,rfl,rfl,_,_,rfl,rfl,.inl ⟨by decide,by decide⟩,_,_,rfl,rfl,?_,_,_,rfl,rfl,l,_,_,rfl,rfl,aj,?_,_,rfl,?_⟩
   ·dsimp only;omega
   ·rw[aD,List.length_map,List.length_range,dO];omega
   ·rw[bM,j5,bG]
    have e:(8*((k:Int)-1-(0+(i:Int)))).toNat=8*(k-1-i):=by omega
    dsimp only
    rw[e,Cy,kY,←Vg]
    rfl
  ·rintro σ H2 ⟨v3,rfl,rfl⟩
   exact aC rfl (k' l hl)
noncomputable def Es(A:bB):Sp:=fun vs H Q _=>∃(a:Addr)(bs:List Nat),vs= [.ref a]∧(H a=some (.lst (nv bs))∨H a=some (.tup (nv bs)))∧Q (.int (Sw32.num bs:Nat)) H
theorem rF:aF ["octets","number","octet"] ["octets"] (aB oO):=⟨rfl,rfl,rfl,by decide +kernel,rfl,by decide +kernel,by decide +kernel⟩
theorem cX{A:bB}(T:Txt K mg A):dZ P w K mg base 1 A.bY ["octets"] (Es A):=by
 refine T.bY.ok rF (fun vs H Q E h=> ?_) (fun cdv Ar outer s H vs Q E hr h=> ?_)
 ·obtain⟨a,bs,rfl,_⟩:=h
  rfl
 ·obtain⟨a,bs,rfl,ha,k⟩:=h
  have nd:=rF.nd
  have fold:∀(i:Nat)(n:Nat),bs[i]? =some n→((Sw32.num (bs.take i):Nat):Int)*256+(n:Int)=((Sw32.num (bs.take (i+1)):Nat):Int):=fun i n e=>by
   rw[take_snoc e]
   unfold Sw32.num
   rw[List.foldl_append]
   simp only[List.foldl_cons,List.foldl_nil]
   omega
  have all:Sw32.num (bs.take (nv bs).length)=Sw32.num bs:=by rw[aD,List.take_length]
  rcases ha with ha | ha
  ·refine⟨_,(ak (aQ (i:=1) nd rfl (Or.inl rfl) aA)
   (ak (dC PassesOwn.never rfl (ik (pv 0)) (aX (i:=2) nd rfl (Or.inl rfl) (Or.inl rfl))
    (au (aQ (i:=1) nd rfl (Or.inl rfl) (bf eY (bf qe (pv 1) aA) (pv 2)))))
   (au (aG (pv 1))))),?_⟩
   refine aC rfl (cW (a:=a) rfl ⟨_,bj.of ha⟩ (lu (K:=K) (xs:=nv bs) (fun i σ H2=>∃v2,σ= [some (.ref a),some (.int (Sw32.num (bs.take i):Nat)),v2]∧H2=H) ⟨_,rfl,rfl⟩ (fun i σ H2 _ ⟨_,_,e⟩=>by rw[e];exact bj.of ha) ?_ ?_))
   ·rintro i x σ H2 hi ⟨v2,rfl,rfl⟩
    obtain⟨n,hn,rfl⟩:=uf hi
    refine aC rfl (nR rfl rfl (.inr ⟨by decide,by decide⟩) (aC rfl (cP rfl rfl (aC (a:=some (V.int (n:Int))) ?_ rfl))))
    dsimp only
    rw[fold i n hn]
    rfl
   ·rintro σ H2 ⟨v2,rfl,rfl⟩
    refine aC rfl ?_
    rw[all]
    exact k
  ·refine⟨_,(ak (aQ (i:=1) nd rfl (Or.inl rfl) aA)
   (ak (dC PassesOwn.never rfl (zg (pv 0)) (aX (i:=2) nd rfl (Or.inl rfl) (Or.inl rfl))
    (au (aQ (i:=1) nd rfl (Or.inl rfl) (bf eY (bf qe (pv 1) aA) (pv 2)))))
   (au (aG (pv 1))))),?_⟩
   refine aC rfl (cW (a:=a) rfl ⟨_,iT.of ha⟩ (Cw (K:=K) (xs:=nv bs) (fun i σ H2=>∃v2,σ= [some (.ref a),some (.int (Sw32.num (bs.take i):Nat)),v2]∧H2=H) ⟨_,rfl,rfl⟩ (fun i σ H2 _ ⟨_,_,e⟩=>by rw[e];exact iT.of ha) ?_ ?_))
   ·rintro i x σ H2 hi ⟨v2,rfl,rfl⟩
    obtain⟨n,hn,rfl⟩:=uf hi
    refine aC rfl (nR rfl rfl (.inr ⟨by decide,by decide⟩) (aC rfl (cP rfl rfl (aC (a:=some (V.int (n:Int))) ?_ rfl))))
    dsimp only
    rw[fold i n hn]
    rfl
   ·rintro σ H2 ⟨v2,rfl,rfl⟩
    refine aC rfl ?_
    rw[all]
    exact k
noncomputable def yE(A:bB):Sp:=fun vs H Q _=>∃(x:Str),vs= [.str x]∧x.cps.size≤100∧∀l,H l=none→Q (.ref l) (upd H l (.lst (nv x.cps.toList)))
theorem vV:aF ["text","sign"] ["text"] (aB nY):=⟨rfl,rfl,rfl,by decide +kernel,rfl,by decide +kernel,by decide +kernel⟩
theorem pA{A:bB}(T:Txt K mg A):dZ P w K mg base 1 A.fW ["text"] (yE A):=by
 refine T.fW.ok vV (fun vs H Q E h=> ?_) (fun cdv Ar outer s H vs Q E hr h=> ?_)
 ·obtain⟨x,rfl,_⟩:=h
  rfl
 ·obtain⟨x,rfl,hx,k⟩:=h
  have nd:=vV.nd
  refine aC (au (aG (xW rfl nd (aaa (pv 0)) (gj (own:= [("sign",1)]) (show xY ["text","sign"] (aB nY) _ _=true by decide +kernel)) (fun _ _ _ _ _=>(aX (i:=1) nd rfl (Or.inl rfl) (Or.inr rfl))) (fun _ _ _ _ _=>jz) (fun _ _ _ _ _=>(bO Ub rfl T.YC PyProof.Rows.boot_ord (aa (pv 1) aq)))))) ?_
  refine aC rfl (aC (a:=x) rfl (fun l hl=>xr x.cps.size (fun i H2=>H2=upd H l (.lst (nv (x.cps.toList.take i)))) rfl (fun i H2 hi _=>hi) (fun H2 _=>Nat.le_refl _) ?_ ?_))
  ·rintro i H2 v H3 hi rfl ⟨rfl,c,hc,rfl⟩
   refine⟨rfl,aC rfl (cW rfl rfl (cW aj ?_ ?_))⟩
   ·rw[aD,List.length_take,dO]
    have:x.cps.toList.length=x.cps.size:=rfl
    omega
   ·have hc':x.cps.toList[i]? =some c:=by rw[Array.getElem?_toList];exact hc
    rw[bM,take_snoc hc',bG]
    rfl
  ·rintro H2 rfl
   have e:x.cps.toList.take x.cps.size=x.cps.toList:=List.take_length
   rw[e]
   exact k l hl
theorem Vo{H:Hp}:∀l:List Nat,De K H (nv l) (l.map fun n:Nat=>PyData.int (n:Int))
 | []=> .nil
 | n::l=> .cons (.int _) (Vo l)
theorem Vp:∀l m:List Nat,PyData.eqvAll (l.map fun n:Nat=>PyData.int (n:Int)) (m.map fun n:Nat=>PyData.int (n:Int))=decide (l=m)
 | [],[]=>rfl
 | [],_::_=>rfl
 | _::_,[]=>rfl
 | a::l,b::m=>by
  rw[List.map_cons,List.map_cons,PyData.eqvAll,Vp l m,PyData.eqv]
  by_cases h:a=b
  ·subst h;simp
  ·have:((a:Int)==(b:Int))=false:=by simpa using fun e:(a:Int)=b=>h (by omega)
   rw[this];simp[h]
theorem Ie(l:List Nat):SeqAt.shaped (.list (l.map fun n:Nat=>PyData.int (n:Int)))=true:=by
 have h1:∀l:List Nat,PyData.canLayAll0 (l.map fun n:Nat=>PyData.int (n:Int))=true:=by
  intro l
  induction l with
  | nil=>rfl
  | cons a l ih=>rw[List.map_cons,PyData.canLayAll0,ih];rfl
 have h2:∀l:List Nat,PyData.depthAll (l.map fun n:Nat=>PyData.int (n:Int))=0:=by
  intro l
  induction l with
  | nil=>rfl
  | cons a l ih=>rw[List.map_cons,PyData.depthAll,ih,PyData.depth];rfl
 unfold SeqAt.shaped
 rw[PyData.canLay0,h1,PyData.depth,h2];rfl
noncomputable def aep:R2:=fun x y H Q=>∃(a b:Addr)(l m:List Nat),x= .ref a∧y= .ref b∧H a=some (.lst (nv l))∧H b=some (.lst (nv m))∧Q (.bl (decide (l=m))) H
theorem Vq{X:Cx}(hu:X.A.units+64<cLine):wH X (compareOp .Eq) aep:=by
 intro pins s σ H x y v u Q I rx ry h
 obtain⟨a,b,l,m,rfl,rfl,ha,hb,q⟩:=h
 refine Z1 hu pins s σ H _ _ v u Q I rx ry ⟨_,_,.lst (bj.of ha) (Vo l),.lst (bj.of hb) (Vo m),Ie l,Ie m,?_⟩
 have e:PyData.eqv (.list (l.map fun n:Nat=>PyData.int (n:Int))) (.list (m.map fun n:Nat=>PyData.int (n:Int)))=decide (l=m):=by rw[PyData.eqv];exact Vp l m
 rw[e]
 exact q
noncomputable def sg(b:Bool):Nat:=if b=true then 49 else 48
noncomputable def dH(m:List Bool):Str:=⟨(m.map sg).toArray⟩
theorem cU(m:List Bool):(dH m).length=m.length:=by simp[dH,Str.length]
theorem eE(m:List Bool):(dH m).cps.toList=m.map sg:=by simp[dH]
theorem yF(m n:List Bool):dH m++dH n=dH (m++n):=TL.wJ (by rw[TL.uT];simp[TL.tl,dH])
theorem Mm(m:List Bool)(i:Nat)(c:Bool):(dH m).cps.toList[i]? =some (sg c)↔m[i]? =some c:=by
 rw[eE,List.getElem?_map]
 cases e:m[i]? with
 | none=>simp
 | some b=>cases b<;>cases c<;>simp[sg]
theorem Ab(z:Str)(lo hi:Option Int):(Dj z lo hi).cps.toList=(z.cps.toList.drop (HT.fB z.length 0 lo)).take (HT.fB z.length z.length hi-HT.fB z.length 0 lo):=by simp[Dj]
theorem Vr(m:List Bool){a b:Nat}(h:b≤m.length):Dj (dH m) (some (a:Int)) (some (b:Int))=dH ((m.drop a).take (b-a)):=by
 refine TL.wJ ?_
 show (Dj _ _ _).cps.toList=(dH _).cps.toList
 rw[Ab,mC,mC,eE,eE,cU,Nat.min_eq_left h,List.map_take,List.map_drop]
 by_cases ha:a≤m.length
 ·rw[Nat.min_eq_left ha]
 ·have e1:b-min a m.length=0:=by omega
  have e2:b-a=0:=by omega
  rw[e1,e2];simp
theorem Rc(m:List Bool){b:Nat}(h:b≤m.length):Dj (dH m) none (some (b:Int))=dH (m.take b):=by
 refine TL.wJ ?_
 show (Dj _ _ _).cps.toList=(dH _).cps.toList
 rw[Ab,mC,eE,eE,cU,Nat.min_eq_left h,List.map_take]
 rfl
theorem Ig(m:List Bool){a:Nat}(h:a≤m.length):Dj (dH m) (some (a:Int)) none=dH (m.drop a):=by
 refine TL.wJ ?_
 show (Dj _ _ _).cps.toList=(dH _).cps.toList
 rw[Ab,mC,eE,eE,cU,Nat.min_eq_left h,List.map_drop]
 show ((m.map sg).drop a).take (m.length-a)=_
 rw[List.take_of_length_le (by simp)]
theorem Et:(Str.ofString "1")=(⟨#[sg true]⟩:Str):=by decide +kernel
theorem Vs:(Str.ofString "0")=(⟨#[sg false]⟩:Str):=by decide +kernel
theorem Mp(k:Nat)(c:Bool):(⟨(List.replicate k (sg c)).toArray⟩:Str)=dH (List.replicate k c):=by simp[dH]
theorem Pg(m:List Bool):(dH m).cps.all (· < 128)=true:=by
 rw[←Array.all_toList,eE,List.all_map,List.all_eq_true]
 intro b _
 cases b<;>rfl
theorem Ph:∀m:List Bool,Txt.join Str.empty (m.map fun b=>(⟨#[sg b]⟩:Str))=dH m:=by
 intro m
 rw[TL.join_eq]
 refine TL.wJ ?_
 rw[TL.QM]
 show TL.Di [] ((m.map fun b=>(⟨#[sg b]⟩:Str)).map TL.tl)=(dH m).cps.toList
 rw[eE,List.map_map]
 have:∀l:List (List Nat),TL.Di [] l=l.flatten:=by
  intro l
  induction l with
  | nil=>rfl
  | cons p l ih=>
   cases l with
   | nil=>simp[TL.Di]
   | cons q r=>rw[TL.Di,ih];simp
 rw[this]
 induction m with
 | nil=>rfl
 | cons b m ih=>rw[List.map_cons,List.flatten_cons,ih];rfl
theorem Vt(m:List Bool):((m.map fun b=>(⟨#[sg b]⟩:Str)).map (·.length)).sum=m.length:=by
 induction m with
 | nil=>rfl
 | cons b m ih=>rw[List.map_cons,List.map_cons,List.sum_cons,ih,List.length_cons];show 1+_=_;omega
noncomputable def JG(A:bB):Sp:=fun vs H Q _=>∃(a b:Addr)(m:List Bool)(l r:List Nat),vs= [.str (dH m),.ref a,.ref b]∧H a=some (.lst (nv l))∧H b=some (.lst (nv r))∧l.length=m.length∧r.length=m.length∧m.length≤640∧∀H',bu H H'→Q (.str (dH (iM m l r))) H'
theorem vW:aF ["marks","before","after","mark","old","new"] ["marks","before","after"] (aB nW):=⟨rfl,rfl,rfl,by decide +kernel,rfl,by decide +kernel,by decide +kernel⟩
theorem Gy{A:bB}(T:Txt K mg A):dZ P w K mg base 1 A.jl ["marks","before","after"] (JG A):=by
 refine T.jl.ok vW (fun vs H Q E h=> ?_) (fun cdv Ar outer s H vs Q E hr h=> ?_)
 ·obtain⟨a,b,m,l,r,rfl,_⟩:=h
  rfl
 ·obtain⟨a,b,m,l,r,rfl,ha,hb,hl,hr2,hz,k⟩:=h
  have nd:=vW.nd
  refine⟨_,(ak (bC (aJ (Vq hr.units) (pv 1) (pv 2) (aP _))
    (au (aG (pv 0))) aM)
   (au (aG (W6 Zn (xW rfl nd (Xc rfl T.Q5 (aa (pv 0) (aa (pv 1) (aa (pv 2) aq)))) (gj (own:= [("mark",3),("old",4),("new",5)]) (show xY ["marks","before","after","mark","old","new"] (aB nW) _ _=true by decide +kernel)) (fun _ _ _ _ _=>(xZ K 3 rfl (bU (aX (i:=3) nd rfl (Or.inl rfl) (Or.inr rfl)) (bU (aX (i:=4) nd rfl (Or.inl rfl) (Or.inr rfl)) (bU (aX (i:=5) nd rfl (Or.inl rfl) (Or.inr rfl)) lW))))) (fun _ _ _ _ _=>jz) (fun _ _ _ _ _=>(Kg (aJ dF (pv 4) (pv 5) (aP _)) (pv 3) (vJ T.mU)))))))),?_⟩
  refine aC rfl (aC rfl (jN (a:=a) (b:=b) (c:=l) (d:=r) rfl rfl ha hb (aC rfl (bJ (fun e=> ?_) fun e=> ?_))))
  ·subst e
   refine aC rfl ?_
   have e:=Ef m l (by omega)
   have:=k H (bu.refl H)
   rw[e]at this
   exact this
  ·refine⟨⟨_,rfl⟩,_,rfl,_,rfl,_,rfl,dH m,a,b,_,_,rfl,Pg m,ha,hb,by rw[aD];simp[dH];exact hl,by rw[aD];simp[dH];exact hr2,fun D hD=> ?_⟩
   have YM:((dH m).cps.toList.map fun c=>V.str ⟨#[c]⟩).length=m.length:=by rw[eE];simp
   refine xr m.length (fun i H2=>bu H H2∧H2 D=some (.lst (((iM m l r).take i).map fun c=>V.str ⟨#[sg c]⟩))) ⟨az hD,aj⟩ (fun i H2 hi ⟨s2,_⟩=>⟨by rw[YM];exact hi,trivial,s2 _ _ ha,s2 _ _ hb⟩) (fun H2 ⟨s2,_⟩=>⟨YM.symm,trivial,s2 _ _ ha,s2 _ _ hb⟩) ?_ ?_
   ·rintro i H2 v H3 hi ⟨s2,hd⟩ ⟨t,x,y,z,rfl,ht,rfl,hx,hy,hz2⟩
    obtain⟨n,hn,rfl⟩:=uf hy
    obtain⟨n2,hn2,rfl⟩:=uf hz2
    obtain⟨c,hc⟩:∃c,m[i]? =some c:=⟨_,List.getElem?_eq_getElem hi⟩
    have ex:x=V.str ⟨#[sg c]⟩:=by
     rw[eE,List.map_map,List.getElem?_map,hc]at hx
     exact(Option.some.inj hx).symm
    subst ex
    have hm3:=z6 m l r i c n n2 hc hn hn2
    have s3:bu H (upd H2 t (.tup [V.str ⟨#[sg c]⟩,V.int (n:Int),V.int (n2:Int)])):=s2.trans (az ht)
    have hd3:upd H2 t (.tup [V.str ⟨#[sg c]⟩,V.int (n:Int),V.int (n2:Int)]) D=some (.lst (((iM m l r).take i).map fun c=>V.str ⟨#[sg c]⟩)):=old ht hd
    have fin:∀q:Bool,(iM m l r)[i]? =some q→bu H (upd (upd H2 t (.tup [V.str ⟨#[sg c]⟩,V.int (n:Int),V.int (n2:Int)])) D (.lst (((iM m l r).take i).map (fun c=>V.str ⟨#[sg c]⟩) ++ [V.str ⟨#[sg q]⟩])))∧
      upd (upd H2 t (.tup [V.str ⟨#[sg c]⟩,V.int (n:Int),V.int (n2:Int)])) D (.lst (((iM m l r).take i).map (fun c=>V.str ⟨#[sg c]⟩) ++ [V.str ⟨#[sg q]⟩])) D=some (.lst (((iM m l r).take (i+1)).map fun c=>V.str ⟨#[sg c]⟩)):=fun q hq=>by
     refine⟨fun x o e=> ?_,?_⟩
     ·have hne:x≠D:=ao e hD
      rw[bF hne]
      exact s3 x o e
     ·rw[aj,take_snoc hq,List.map_append];rfl
    refine nR (a:=t) rfl (iT.of aj) rfl (vq rfl (vq rfl (nR rfl rfl rfl ?_)))
    refine aC rfl (cW rfl rfl (aC rfl (bJ (fun e=> ?_) fun e=> ?_)))
    ·refine aC rfl (cW hd3 (by rw[List.length_map,List.length_take,dO];omega) ?_)
     rw[if_pos (by rw[aH]at e;omega)]at hm3
     exact fin c hm3
    ·refine cW hd3 (by rw[List.length_map,List.length_take,dO];omega) ?_
     rw[if_neg (by rw[aH]at e;omega)]at hm3
     have:=fin true hm3
     rw[Et]
     exact this
   ·rintro H2 ⟨s2,hd⟩
    have hlen:=pU m l r (by omega) (by omega)
    rw[List.take_of_length_le (by omega)]at hd
    refine e34 (a:=Str.empty) (b:=D) (c:=(iM m l r).map fun b=>(⟨#[sg b]⟩:Str)) rfl rfl (.inl (bj.of (by rw[List.map_map];exact hd))) ?_ ?_
    ·rw[Vt,List.length_map,hlen]
     have:Str.empty.length=0:=rfl
     rw[this];omega
    ·rw[Ph]
     exact k H2 s2
structure Can(A:bB)(av:Addr)(H:Hp)(ca dx ra ma:Addr)(w h:Nat)(cs:List (List Nat))(ms:List (List Bool)):Prop where
 ob:H ca=some (Io A.eO eN dx [.int (w:Int),.int (h:Int),.ref ra,.ref ma])
 rows:∃rs:List Addr,H ra=some (.lst (rs.map V.ref))∧P2 (fun r row=>H r=some (.lst (nv row))∧r≠av) rs cs
 yG:H ma=some (.lst (ms.map fun m=>V.str (dH m)))
 wc:∀q ∈ cs,q.length=w
 wm:∀q ∈ ms,q.length=w
 lc:cs.length=h
 lm:ms.length=h
 w1:1≤w
 w2:w≤640
 h1:1≤h
 h2:h≤480
theorem mD{α β:Type}{f:α→β}{l:List α}{i:Nat}{a:α}(h:l[i]? =some a):(l.map f)[i]? =some (f a):=by rw[List.getElem?_map,h];rfl
theorem Eu{rs:List Addr}{l:List Nat}(h:rs≠ []):HO.lst (rs.map V.ref)≠HO.lst (nv l):=by
 intro e
 injection e with e
 cases rs with
 | nil=>exact h rfl
 | cons a r=>cases l with
  | nil=>cases e
  | cons b l=>cases e
theorem Ew{ms:List (List Bool)}{l:List Nat}(h:ms≠ []):HO.lst (ms.map fun m=>V.str (dH m))≠HO.lst (nv l):=by
 intro e
 injection e with e
 cases ms with
 | nil=>exact h rfl
 | cons a r=>cases l with
  | nil=>cases e
  | cons b l=>cases e
theorem JH{rs:List Addr}{ms:List (List Bool)}(h:rs≠ []):HO.lst (rs.map V.ref)≠HO.lst (ms.map fun m=>V.str (dH m)):=by
 intro e
 injection e with e
 cases rs with
 | nil=>exact h rfl
 | cons a r=>cases ms with
  | nil=>cases e
  | cons b l=>cases e
theorem Can.rm {A:bB} {av:Addr} {H:Hp} {ca dx ra ma:Addr} {w h:Nat} {cs:List (List Nat)} {ms:List (List Bool)} (c:Can A av H ca dx ra ma w h cs ms):ra≠ma∧ca≠ra∧ca≠ma:=by
 obtain⟨rs,hr,p⟩:=c.rows
 have hne:rs≠ []:=fun e=>by have:=p.len;have:=c.lc;have:=c.h1;rw[e]at *;simp at *;omega
 exact⟨aN hr c.yG (JH hne),aN c.ob hr (fun e=>nomatch e),aN c.ob c.yG (fun e=>nomatch e)⟩
theorem Can.apart {A:bB} {av:Addr} {H:Hp} {ca dx ra ma:Addr} {w h:Nat} {cs:List (List Nat)} {ms:List (List Bool)} (c:Can A av H ca dx ra ma w h cs ms) {l:Addr} {ns:List Nat} (hl:H l=some (.lst (nv ns))):l≠ra∧l≠ma:=by
 obtain⟨rs,hr,p⟩:=c.rows
 have hne:rs≠ []:=fun e=>by have:=p.len;have:=c.lc;have:=c.h1;rw[e]at *;simp at *;omega
 have abW:ms≠ []:=fun e=>by have:=c.lm;have:=c.h1;rw[e]at *;simp at *;omega
 exact⟨(aN hr hl (Eu hne)).symm,(aN c.yG hl (Ew abW)).symm⟩
theorem Can.mono {A:bB} {av:Addr} {H H':Hp} {ca dx ra ma:Addr} {w h:Nat} {cs:List (List Nat)} {ms:List (List Bool)} (c:Can A av H ca dx ra ma w h cs ms)
  (ho:∀o,H ca=some o→H' ca=some o) (hr:∀o,H ra=some o→H' ra=some o) (hm:∀o,H ma=some o→H' ma=some o) (hl:∀l ns,H l=some (.lst (nv ns))→l≠av→H' l=some (.lst (nv ns))):Can A av H' ca dx ra ma w h cs ms:=by
 obtain⟨rs,h1,p⟩:=c.rows
 exact⟨ho _ c.ob,⟨rs,hr _ h1,p.imp fun a b q=>⟨hl _ _ q.1 q.2,q.2⟩⟩,hm _ c.yG,c.wc,c.wm,c.lc,c.lm,c.w1,c.w2,c.h1,c.h2⟩
theorem Can.same {A:bB} {av:Addr} {H H':Hp} {ca dx ra ma:Addr} {w h:Nat} {cs:List (List Nat)} {ms:List (List Bool)} (c:Can A av H ca dx ra ma w h cs ms) (s:bu H H'):Can A av H' ca dx ra ma w h cs ms:=
 c.mono (fun o e=>s _ _ e) (fun o e=>s _ _ e) (fun o e=>s _ _ e) fun l ns e _=>s _ _ e
noncomputable def Ex(A:bB):Sp:=fun vs H Q _=>∃(av ca dx ra ma l:Addr)(w h x y:Nat)(cs:List (List Nat))(ms:List (List Bool))(cols row:List Nat)(m:List Bool),vs= [.ref ca,.int (x:Int),.int (y:Int),.ref l]∧Can A av H ca dx ra ma w h cs ms∧(∃o,H av=some o)∧H l=some (.lst (nv cols))∧x+cols.length≤w∧cs[y]? =some row∧ms[y]? =some m∧∀H',Kp [ra,ma] H H'→Can A av H' ca dx ra ma w h (cs.set y (pR row x cols)) (ms.set y (lE m row x cols))→Q .non H'
theorem rG:aF ["self","x","y","colors","end","row","marks","marked"] ["self","x","y","colors"] (aB oK):=⟨rfl,rfl,rfl,by decide +kernel,rfl,by decide +kernel,by decide +kernel⟩
theorem rH{A:bB}(T:Txt K mg A):dZ P w K mg base 2 A.eZ ["self","x","y","colors"] (Ex A):=by
 refine T.eZ.ok rG (fun vs H Q E h=> ?_) (fun cdv Ar outer s H vs Q E hr h=> ?_)
 ·obtain⟨av,ca,dx,ra,ma,l,w,h,x,y,cs,ms,cols,row,m,rfl,_⟩:=h
  rfl
 ·obtain⟨av,ca,dx,ra,ma,l,w,h,x,y,cs,ms,cols,row,m,rfl,c,hav,hl,hx,hy,hm,k⟩:=h
  have nd:=rG.nd
  obtain⟨rs,hra,p⟩:=id c.rows
  obtain⟨r,hr1,hr2,hr3⟩:=p.get' hy
  obtain⟨nrm,ncr,ncm⟩:=c.rm
  have hrl:row.length=w:=c.wc _ (List.mem_of_getElem? hy)
  have YM:m.length=w:=c.wm _ (List.mem_of_getElem? hm)
  have hma:=c.yG
  obtain⟨oav,hav⟩:=hav
  have hw2:=c.w2
  have hyl:y<rs.length:=(List.getElem?_eq_some_iff.mp hr1).1
  have hym:y<ms.length:=(List.getElem?_eq_some_iff.mp hm).1
  have aeq:(lE m row x cols).length=w:=by rw[HY (by omega) (by omega)];exact YM
  have fin:∀(v7:Option V)(H1:Hp),Kp [ra,ma] H H1→H1 ra=some (.lst (rs.map V.ref))→H1 ma=some (.lst ((ms.set y (lE m row x cols)).map fun m=>V.str (dH m)))→
    (Ws (tOp ZZ (tOp ZZ (tSl (Uj K) (CN 5) Je (Ug (CN 1))) (CN 3)) (tSl (Uj K) (CN 5) (Ug (CN 4)) Je)) (abj (tF A.eO eN 2 (CN 0)) (CN 2) Yn)) {nx:=fun _ H'=>Q .non H',rt:=Q}
     [some (.ref ca),some (.int (x:Int)),some (.int (y:Int)),some (.ref l),some (.int ((x+cols.length:Nat):Int)),some (.ref r),some (.str (dH m)),v7] H1:=by
   intro v7 H1 kp h1 h2
   have al:∀b o,H b=some o→b≠ra→b≠ma→H1 b=some o:=fun b o e n1 n2=>kp b o e (by simp[n1,n2])
   have nl:∀ {b:Addr}{ns:List Nat},H b=some (.lst (nv ns))→H1 b=some (.lst (nv ns)):=fun e=>al _ _ e (c.apart e).1 (c.apart e).2
   refine aC rfl (aC rfl (aC rfl (cP (a:=r) rfl (bj.of (nl hr2)) (fun t1 ht1=> ?_))))
   rw[Xq,fG]
   refine aC rfl ⟨t1,l,nR rfl rfl aj ⟨old ht1 (nl hl),by rw[aD,aD,List.length_take,dO];omega,fun t2 ht2=> ?_⟩⟩
   refine aC rfl (aC rfl (aC rfl (cP (a:=r) rfl (bj.of (old ht2 (old ht1 (nl hr2)))) (fun t3 ht3=> ?_))))
   rw[Aa,dY]
   refine⟨t2,t3,cP rfl rfl ⟨old ht3 aj,aj,by rw[List.length_append,aD,aD,aD,List.length_take,List.length_drop,dO];omega,fun t4 ht4=> ?_⟩⟩
   have up:∀b o,H1 b=some o→b≠ra→upd (upd (upd (upd (upd H1 t1 (.lst (nv (row.take x)))) t2 (.lst (nv (row.take x)++nv cols))) t3 (.lst (nv (row.drop (x+cols.length))))) t4 (.lst (nv (row.take x)++nv cols++nv (row.drop (x+cols.length))))) ra (.lst ((rs.map V.ref).set y (.ref t4))) b=some o:=fun b o e n=>oth n (old ht4 (old ht3 (old ht2 (old ht1 e))))
   have t4n:H1 t4=none:=(aU (aU (aU ht4).1).1).1
   have t4H:H t4=none:=kp.free t4n (fun z hz=>by simp at hz;rcases hz with rfl | rfl;exact⟨_,h1⟩;exact⟨_,h2⟩)
   have t4r:t4≠ra:=(ao h1 t4n).symm
   refine aC rfl (YK rfl ⟨old ht4 (old ht3 (old ht2 (old ht1 (al _ _ c.ob ncr ncm)))),rfl,aC rfl ⟨ra,⟨_,(y:Int),y,rfl,rfl,old ht4 (old ht3 (old ht2 (old ht1 h1))),?_,?_⟩⟩⟩)
   ·unfold Qy
    rw[if_pos (by omega),if_pos (by rw[List.length_map];omega),Int.toNat_natCast]
   ·refine k _ (fun b o e n=>up b o (kp b o e n) (fun q=>n (by simp[q]))) ⟨up _ _ (al _ _ c.ob ncr ncm) ncr,⟨rs.set y t4,by rw[aj,List.map_set],?_⟩,up _ _ h2 nrm.symm,?_,?_,by rw[List.length_set];exact c.lc,by rw[List.length_set];exact c.lm,c.w1,c.w2,c.h1,c.h2⟩
    ·refine P2.set y (p.imp fun a b q=>⟨up _ _ (nl q.1) (c.apart q.1).1,q.2⟩) ⟨?_,(ao hav t4H).symm⟩
     rw[bF t4r,aj,←bG,←bG]
     rfl
    ·intro q hq
     rcases List.mem_or_eq_of_mem_set hq with hq | rfl
     ·exact c.wc q hq
     ·rw[uc (by omega)];exact hrl
    ·intro q hq
     rcases List.mem_or_eq_of_mem_set hq with hq | rfl
     ·exact c.wm q hq
     ·exact aeq
  refine⟨_,(ak (aQ (i:=4) nd rfl (Or.inl rfl) (bf eY (pv 1) (bO bA rfl T.gM PySem.boot_len (aa (pv 3) aq))))
   (ak (aQ (i:=5) nd rfl (Or.inl rfl) (bL (aO K) (bc T.bV 2 (pv 0)) (pv 2) (fun _ _=>rfl)))
   (ak (aQ (i:=6) nd rfl (Or.inl rfl) (bL (aO K) (bc T.bV 3 (pv 0)) (pv 2) (fun _ _=>rfl)))
   (ak (bC (aJ Ks (fV PySem.F.plainAttrs_str PySem.F.slot_str_find PySem.F.type_str_find Ld (pv 6) (aa (vJ T.Oq) (aa (pv 1) (aa (pv 4) aq)))) aA (aP _))
    (ak (aQ (i:=7) nd rfl (Or.inl rfl) (cC (Gy T) (hr.mono (by decide)) T.jl rfl (aa (bQ Dk (pv 6) (bz (pv 1)) (bz (pv 4))) (aa (bQ (cA K) (pv 5) (bz (pv 1)) (bz (pv 4))) (aa (pv 3) aq)))))
   (au (Nz (bf qi (bf qi (bQ Dk (pv 6) nT (bz (pv 1))) (pv 7)) (bQ Dk (pv 6) (bz (pv 4)) nT)) (Ny (bc T.bV 3 (pv 0)) (pv 2) set_list)))) aM)
   (au (Nz (bf iQ (bf iQ (bQ (cA K) (pv 5) nT (bz (pv 1))) (pv 3)) (bQ (cA K) (pv 5) (bz (pv 4)) nT)) (Ny (bc T.bV 2 (pv 0)) (pv 2) set_list))))))),?_⟩
  refine aC rfl (aC rfl (cP (a:=l) rfl (.inl (bj.of hl)) (cP rfl rfl ?_)))
  have e1:(x:Int)+(((nv cols).length:Nat):Int)=((x+cols.length:Nat):Int):=by rw[aD];omega
  dsimp only
  rw[e1]
  apply cz c.ob;rfl;rfl
  refine aC rfl (jN (a:=ra) (c:=(y:Int)) (d:= .ref r) rfl rfl (bj.of hra) (aV (mD hr1)) ?_)
  apply cz c.ob;rfl;rfl
  refine aC rfl (jN (a:=ma) (c:=(y:Int)) (d:= .str (dH m)) rfl rfl (bj.of hma) (aV (mD hm)) ?_)
  refine cW rfl rfl (aC rfl (aC rfl (jN (a:=dH m) (b:=sg false) (c:=x) (d:=x+cols.length) rfl (by rw[Vs]) (by rw[cU];omega) (fun hno=> ?_) (fun kk k1 k2 k3 k4=> ?_))))
  ·refine cP rfl rfl (aC rfl (bJ (fun e=>absurd e (by decide)) fun _=> ?_))
   have ht:lE m row x cols=m:=O2 (by omega) (by omega) fun b hb=>by
    obtain⟨i,hi⟩:=List.mem_iff_getElem?.mp hb
    rw[List.getElem?_take]at hi
    split at hi
    ·rename_i hi2
     rw[List.getElem?_drop]at hi
     cases b with
     | true=>rfl
     | false=>exact absurd ((Mm m (x+i) false).mpr hi) (hno (x+i) (by omega) (by omega))
    ·cases hi
   have em:ms.set y (lE m row x cols)=ms:=by
    rw[ht]
    apply List.ext_getElem?
    intro i
    by_cases e:i=y
    ·subst e;rw[List.getElem?_set_self hym,hm]
    ·rw[List.getElem?_set_ne (fun q=>e q.symm)]
   exact fin none H (Kp.refl _ _) hra (by rw[em];exact hma)
  ·refine cP rfl rfl (aC rfl (bJ (fun _=> ?_) fun e=>absurd (Int.natCast_nonneg kk) e))
   have ahv:∀ {ns:List Nat},ns.length=w→((ns.drop x).take (x+cols.length-x)).length=cols.length:=fun e=>by rw[List.length_take,List.length_drop];omega
   refine aC rfl (aC rfl (aC rfl (aC rfl (aC rfl (cW (a:=dH m) rfl (by rw[cU,dO];omega) ?_)))))
   rw[Vr m (by omega)]
   refine aC rfl (aC rfl (aC rfl (aC rfl (aC rfl (cP (a:=r) rfl (bj.of hr2) (fun t1 ht1=> ?_))))))
   rw[dg,dY,fG,show x+cols.length-x=cols.length by omega]
   refine⟨_,rfl,t1,l,(m.drop x).take cols.length,(row.drop x).take cols.length,cols,rfl,aj,old ht1 hl,by rw[cO (by omega),cO (by omega)],by rw[cO (by omega)],by rw[cO (by omega)];omega,fun H1 s1=> ?_⟩
   have s01:bu H H1:=(az ht1).trans s1
   refine aC rfl (aC rfl (aC rfl (cW (a:=dH m) rfl (by rw[cU,dO];omega) ?_)))
   rw[Rc m (by omega)]
   have hl3:=pU ((m.drop x).take cols.length) ((row.drop x).take cols.length) cols (by rw[cO (by omega),cO (by omega)]) (by rw[cO (by omega)])
   rw[cO (by omega:x+cols.length≤m.length)]at hl3
   refine aC rfl (nR rfl rfl (by rw[cU,cU,List.length_take,hl3,dO];omega) ?_)
   rw[yF]
   refine aC rfl (aC rfl (aC rfl (cW (a:=dH m) rfl (by rw[cU,dO];omega) ?_)))
   rw[Ig m (by omega)]
   refine nR rfl rfl (by rw[cU,cU,List.length_append,List.length_take,List.length_drop,hl3,dO];omega) ?_
   rw[yF]
   refine aC rfl (YK rfl ⟨s01 _ _ c.ob,rfl,aC rfl ⟨ma,⟨_,(y:Int),y,rfl,rfl,s01 _ _ hma,?_,?_⟩⟩⟩)
   ·unfold Qy
    rw[if_pos (by omega),if_pos (by rw[List.length_map];omega),Int.toNat_natCast]
   ·refine fin _ _ (fun b o e n=>oth (fun q=>n (by simp[q])) (s01 _ _ e)) (oth nrm (s01 _ _ hra)) ?_
    rw[aj,List.map_set]
    have:m.take x++iM ((m.drop x).take cols.length) ((row.drop x).take cols.length) cols++m.drop (x+cols.length)=lE m row x cols:=by
     unfold lE pR
     rw[hl3]
    rw[this]
theorem Mq{cs:List (List Nat)}{x y k:Nat}{chunk:Nat→List Nat}{row:List Nat}(h:cs[y+k]? =some row):
  (putAll cs x y k chunk)[y+k]? =some row∧(putAll cs x y k chunk).set (y+k) (pR row x (chunk k))=putAll cs x y (k+1) chunk:=
 ⟨(zZ cs y k _).trans h,ud (fun b row=>pR row x (chunk b)) h⟩
theorem Ih{ms:List (List Bool)}{cs:List (List Nat)}{x y k:Nat}{chunk:Nat→List Nat}{m:List Bool}{row:List Nat}(h:ms[y+k]? =some m)(hc:cs[y+k]? =some row):
  (jc ms cs x y k chunk)[y+k]? =some m∧(jc ms cs x y k chunk).set (y+k) (lE m row x (chunk k))=jc ms cs x y (k+1) chunk:=by
 refine⟨(zZ ms y k _).trans h,?_⟩
 have:=ud (fun b m=>lE m (cs.getD (y+b) []) x (chunk b)) h
 rw[show cs.getD (y+k) []=row by rw[List.getD_eq_getElem?_getD,hc];rfl]at this
 exact this
theorem Can.alive {A:bB} {av:Addr} {H H':Hp} {ca dx ra ma:Addr} {w h:Nat} {cs:List (List Nat)} {ms:List (List Bool)} (c:Can A av H' ca dx ra ma w h cs ms) (kp:Kp [ra,ma] H H') {b:Addr} (e:∃o,H b=some o):∃o,H' b=some o:=by
 obtain⟨rs,hr,_⟩:=c.rows
 by_cases q:b=ra
 ·exact⟨_,q▸hr⟩
 ·by_cases q2:b=ma
  ·exact⟨_,q2▸c.yG⟩
  ·obtain⟨o,e⟩:=e
   exact⟨o,kp _ _ e (by simp[q,q2])⟩
theorem pB{α:Type}{l:List α}{i:Nat}(h:i<l.length):∃a,l[i]? =some a:=⟨_,List.getElem?_eq_getElem h⟩
theorem Vu(k n:Nat):(List.replicate k [V.int (n:Int)]).flatten=nv (List.replicate k n):=by simp[nv]
noncomputable def JK(A:bB):Sp:=fun vs H Q _=>∃(av ca dx:Addr)(w h:Nat),vs= [.ref ca,.int (w:Int),.int (h:Int)]∧H ca=some (Io A.eO eN dx [])∧(∃o,H av=some o)∧1≤w∧w≤640∧1≤h∧h≤480∧∀ra ma H',H ra=none→H ma=none→ra≠ma→Kp [ca] H H'→Can A av H' ca dx ra ma w h (List.replicate h (List.replicate w 0)) (List.replicate h (List.replicate w true))→Q .non H'
theorem vX:aF ["self","w","h","y"] ["self","w","h"] (aB lz):=⟨rfl,rfl,rfl,by decide +kernel,rfl,by decide +kernel,by decide +kernel⟩
theorem Gz{A:bB}(T:Txt K mg A):dZ P w K mg base 1 A.jj ["self","w","h"] (JK A):=by
 refine T.jj.ok vX (fun vs H Q E h=> ?_) (fun cdv Ar outer s H vs Q E hr h=> ?_)
 ·obtain⟨av,ca,dx,w,h,rfl,_⟩:=h
  rfl
 ·obtain⟨av,ca,dx,w,h,rfl,hp,hav,w1,w2,h1,h2,k⟩:=h
  have nd:=vX.nd
  obtain⟨oav,hav⟩:=hav
  refine⟨_,(ak (dw T.bV 0 (pv 0) (pv 1))
   (ak (dw T.bV 1 (pv 0) (pv 2))
   (ak (dw T.bV 2 (pv 0) (xW rfl nd (uO rfl T.jb (aa (pv 2) aq)) (gj (own:= [("y",3)]) (show xY ["self","w","h","y"] (aB lz) _ _=true by decide +kernel)) (fun _ _ _ _ _=>(aX (i:=3) nd rfl (Or.inl rfl) (Or.inr rfl))) (fun _ _ _ _ _=>jz) (fun _ _ _ _ _=>(bf Uq (cG (aa aA aq)) (pv 1)))))
   (au (dw T.bV 3 (pv 0) (xW rfl nd (uO rfl T.jb (aa (pv 2) aq)) (gj (own:= [("y",3)]) (show xY ["self","w","h","y"] (aB lz) _ _=true by decide +kernel)) (fun _ _ _ _ _=>(aX (i:=3) nd rfl (Or.inl rfl) (Or.inr rfl))) (fun _ _ _ _ _=>jz) (fun _ _ _ _ _=>(bf Dq (vJ T.mU) (pv 1))))))))),?_⟩
  refine aC rfl (aC rfl (lJ rfl hp rfl ?_))
  refine aC rfl (aC rfl (lJ rfl aj rfl ?_))
  rw[bM]
  refine⟨_,rfl,(h:Int),rfl,by omega,by omega,fun D hD=> ?_⟩
  obtain⟨hD1,hD2⟩:=aU hD
  generalize hH1:upd H ca _=H1 at *
  have k1:Kp [ca] H H1:=by rw[←hH1];exact cH
  have o1:H1 ca=some (Io A.eO eN dx [.int (w:Int),.int (h:Int)]):=by rw[←hH1];exact aj
  have av1:H1 av≠none:=by
   rw[←hH1];intro e;exact absurd (aU e).1 (by rw[hav];simp)
  refine xr h (fun i H2=>bu H1 H2∧∃rs:List Addr,H2 D=some (.lst (rs.map V.ref))∧P2 (fun r row=>H2 r=some (.lst (nv row))∧r≠av∧r≠D) rs (List.replicate i (List.replicate w 0))) ⟨az hD,[],aj,trivial⟩ (fun i H2 hi _=>by show i<(h:Int).toNat;omega) (fun H2 _=>by show (h:Int).toNat≤h;omega) ?_ ?_
  ·rintro i H2 v H3 hi ⟨s2,rs,hd,p⟩ ⟨rfl,rfl⟩
   have lr:rs.length=i:=by rw[p.len,List.length_replicate]
   refine⟨rfl,by decide,fun t ht=> ?_⟩
   refine aC rfl (e36 (a:=t) (b:=(w:Int)) rfl rfl aj (by omega) (by omega) (by simp[dO];omega) (fun t2 ht2=> ?_))
   refine⟨_,old ht2 (old ht hd),by rw[List.length_map,dO];omega,?_,rs ++ [t2],?_,?_⟩
   ·intro b o e
    exact oth (ao e hD) (old ht2 (old ht (s2 _ _ e)))
   ·rw[aj,List.map_append];rfl
   ·have e1:(List.replicate (w:Int).toNat [V.int 0]).flatten=nv (List.replicate w 0):=by
     rw[Int.toNat_natCast]
     exact Vu w 0
    rw[List.replicate_succ',e1]
    refine P2.snoc (p.imp fun a b q=>⟨oth q.2.2 (old ht2 (old ht q.1)),q.2⟩) ⟨?_,?_,?_⟩
    ·rw[bF (ao (old ht hd) ht2).symm,aj]
    ·rintro rfl
     obtain⟨o,ho⟩:=Option.ne_none_iff_exists'.mp av1
     exact absurd rfl (ao (old ht (s2 _ _ ho)) ht2)
    ·exact(ao (old ht hd) ht2).symm
  ·rintro H2 ⟨s2,rs,hd,p⟩
   refine aC rfl (vU rfl ⟨s2 _ _ o1,rfl,?_⟩)
   have hDc:D≠ca:=(ao o1 hD).symm
   generalize hH3:upd H2 ca _=H3 at *
   have k3:Kp [ca] H H3:=by rw[←hH3];exact(k1.trans (s2.kp _)).trans cH
   have o3:H3 ca=some (Io A.eO eN dx [.int (w:Int),.int (h:Int),.ref D]):=by rw[←hH3];exact aj
   have d3:H3 D=some (.lst (rs.map V.ref)):=by rw[←hH3];exact oth hDc hd
   have p3:P2 (fun r row=>H3 r=some (.lst (nv row))∧r≠av) rs (List.replicate h (List.replicate w 0)):=p.imp fun a b q=>⟨by rw[←hH3];exact oth (aN q.1 (s2 _ _ o1) (fun e=>nomatch e)) q.1,q.2.1⟩
   refine⟨_,rfl,(h:Int),rfl,by omega,by omega,fun D2 hD2=> ?_⟩
   refine xr h (fun i H4=>bu H3 H4∧H4 D2=some (.lst ((List.replicate i (List.replicate w true)).map fun m=>V.str (dH m)))) ⟨az hD2,aj⟩ (fun i H2 hi _=>by show i<(h:Int).toNat;omega) (fun H2 _=>by show (h:Int).toNat≤h;omega) ?_ ?_
   ·rintro i H4 v H5 hi ⟨s4,hd4⟩ ⟨rfl,rfl⟩
    refine⟨rfl,aC rfl (nR (a:=sg true) (b:=w) (by rw[Et]) rfl (by omega) ?_)⟩
    rw[Mp]
    refine e13 hd4 (by rw[List.length_map,List.length_replicate,dO];omega) (fun b o e=>oth (ao e hD2) (s4 _ _ e)) ?_
    rw[aj,List.replicate_succ',List.map_append];rfl
   ·rintro H4 ⟨s4,hd4⟩
    have hf2:H D2=none:=by
     rw[←hH3]at hD2
     obtain⟨a1,a2⟩:=aU hD2
     by_cases q:H D2=none
     ·exact q
     ·obtain⟨o,ho⟩:=Option.ne_none_iff_exists'.mp q
      exact absurd (s2 _ _ (k1 _ _ ho (by simpa using a2))) (by rw[a1];simp)
    have aer:D2≠ca:=(ao o3 hD2).symm
    have hDD:D≠D2:=ao d3 hD2
    refine aC rfl (vU rfl ⟨s4 _ _ o3,rfl,?_⟩)
    have up:∀b o,b≠ca→H3 b=some o→upd H4 ca (Io A.eO eN dx [.int (w:Int),.int (h:Int),.ref D,.ref D2]) b=some o:=fun b o n e=>oth n (s4 _ _ e)
    refine k D D2 _ hD1 hf2 hDD (fun b o e n=>up b o (by simpa using n) (k3 b o e n)) ⟨aj,⟨rs,up _ _ hDc d3,p3.imp fun a b q=>⟨up _ _ (aN q.1 o3 (fun e=>nomatch e)) q.1,q.2⟩⟩,oth aer hd4,?_,?_,by simp,by simp,w1,w2,h1,h2⟩
    ·intro q hq;rw[List.eq_of_mem_replicate hq,List.length_replicate]
    ·intro q hq;rw[List.eq_of_mem_replicate hq,List.length_replicate]
noncomputable def GC(A:bB):Sp:=fun vs H Q _=>∃(av ca dx ra ma b db:Addr)(w h:Nat)(x y bw bh:Int)(cs:List (List Nat))(ms:List (List Bool)),vs= [.ref ca,.ref b]∧Can A av H ca dx ra ma w h cs ms∧H b=some (gh A db x y bw bh)∧Q (.bl (decide (0≤x∧0≤y∧1≤bw∧1≤bh∧x+bw≤(w:Int)∧y+bh≤(h:Int)))) H
theorem um:aF ["self","box"] ["self","box"] (aB qm):=⟨rfl,rfl,rfl,by decide +kernel,rfl,by decide +kernel,by decide +kernel⟩
theorem nJ{A:bB}(T:Txt K mg A):dZ P w K mg base 3 A.eQ ["self","box"] (GC A):=by
 refine T.eQ.ok um (fun vs H Q E h=> ?_) (fun cdv Ar outer s H vs Q E hr h=> ?_)
 ·obtain⟨av,ca,dx,ra,ma,b,db,w,h,x,y,bw,bh,cs,ms,rfl,_⟩:=h
  rfl
 ·obtain⟨av,ca,dx,ra,ma,b,db,w,h,x,y,bw,bh,cs,ms,rfl,c,hb,k⟩:=h
  have nd:=um.nd
  refine⟨_,(au (aG (dJ T.dD T.dW (pX T) (hr.mono (by decide)) (pv 1) (aa (bc T.bV 0 (pv 0)) (aa (bc T.bV 1 (pv 0)) aq))))),?_⟩
  exact aC rfl (jM rfl hb (aC rfl (vy rfl c.ob rfl (aC rfl (vy rfl c.ob rfl ⟨_,_,Xr rfl hb k⟩)))))
noncomputable def JL(A:bB):Sp:=fun vs H Q _=>∃(av ca dx ra ma b db:Addr)(w h x y bw bh n:Nat)(cs:List (List Nat))(ms:List (List Bool)),vs= [.ref ca,.ref b,.int (n:Int)]∧Can A av H ca dx ra ma w h cs ms∧(∃o,H av=some o)∧H b=some (gh A db x y bw bh)∧x+bw≤w∧y+bh≤h∧∀H',Kp [ra,ma] H H'→Can A av H' ca dx ra ma w h (putAll cs x y bh fun _=>List.replicate bw n) (jc ms cs x y bh fun _=>List.replicate bw n)→Q .non H'
theorem vY:aF ["self","box","color","colors","y"] ["self","box","color"] (aB tE):=⟨rfl,rfl,rfl,by decide +kernel,rfl,by decide +kernel,by decide +kernel⟩
theorem GD{A:bB}(T:Txt K mg A):dZ P w K mg base 3 A.jk ["self","box","color"] (JL A):=by
 refine T.jk.ok vY (fun vs H Q E h=> ?_) (fun cdv Ar outer s H vs Q E hr h=> ?_)
 ·obtain⟨av,ca,dx,ra,ma,b,db,w,h,x,y,bw,bh,n,cs,ms,rfl,_⟩:=h
  rfl
 ·obtain⟨av,ca,dx,ra,ma,b,db,w,h,x,y,bw,bh,n,cs,ms,rfl,c,hav,hb,hx,hy,k⟩:=h
  have nd:=vY.nd
  have hw2:=c.w2
  have hh2:=c.h2
  obtain⟨rs,hra,_⟩:=id c.rows
  refine⟨_,(ak (aQ (i:=3) nd rfl (Or.inl rfl) (bf Uq (cG (aa (pv 2) aq)) (bc T.dD 2 (pv 1))))
   (au (dC PassesOwn.never rfl (zj rfl T.jb (aa (bc T.dD 1 (pv 1)) (aa (cY T.dD T.gw (lF T) (hr.mono (by decide)) (pv 1)) aq))) (aX (i:=4) nd rfl (Or.inl rfl) (Or.inl rfl))
    (au (aR (dJ T.bV T.eZ (rH T) (hr.mono (by decide)) (pv 0) (aa (bc T.dD 0 (pv 1)) (aa (pv 4) (aa (pv 3) aq))))))))),?_⟩
  refine cW rfl (by rw[dO];exact Nat.succ_le_of_lt (by decide:0<16777216)) (fun t ht=> ?_)
  refine⟨_,rfl,_,_,_,_,rfl,old ht hb,rfl,t,(bw:Int),_,rfl,rfl,aj,by omega,by omega,by simp[dO];omega,fun l hl=> ?_⟩
  rw[Int.toNat_natCast,Vu]
  generalize hH1:upd _ l _=H1 at *
  have s1:bu H H1:=by rw[←hH1];exact(az ht).trans (az hl)
  have hl1:H1 l=some (.lst (nv (List.replicate bw n))):=by rw[←hH1];exact aj
  have bra:b≠ra:=aN hb hra (fun e=>nomatch e)
  have bma:b≠ma:=aN hb c.yG (fun e=>nomatch e)
  refine aC rfl (YK rfl ⟨s1 _ _ hb,rfl,aC rfl (vU rfl ⟨s1 _ _ hb,e61 rfl ⟨s1 _ _ hb,(y:Int),(y:Int)+(bh:Int),rfl,by omega,?_⟩⟩)⟩)
  rw[show ((y:Int)+(bh:Int)-(y:Int)).toNat=bh by omega]
  refine pH (n:=bh) (fun i σ H2=>∃v4,σ= [some (.ref ca),some (.ref b),some (.int (n:Int)),some (.ref l),v4]∧Kp [ra,ma] H1 H2∧Can A av H2 ca dx ra ma w h (putAll cs x y i fun _=>List.replicate bw n) (jc ms cs x y i fun _=>List.replicate bw n)) ⟨_,rfl,Kp.refl _ _,?_⟩ ?_ ?_
  ·rw[putAll,lD,jc,lD];exact c.same s1
  ·rintro i σ H2 hi ⟨v4,rfl,kp,c2⟩
   obtain⟨row,hrow⟩:=pB (l:=cs) (i:=y+i) (by rw[c.lc];omega)
   obtain⟨m,hm⟩:=pB (l:=ms) (i:=y+i) (by rw[c.lm];omega)
   obtain⟨p1,p2⟩:=Mq (x:=x) (chunk:=fun _=>List.replicate bw n) hrow
   obtain⟨m1,m2⟩:=Ih (x:=x) (chunk:=fun _=>List.replicate bw n) hm hrow
   have hb2:H2 b=some (gh A db x y bw bh):=kp _ _ (s1 _ _ hb) (by simp[bra,bma])
   have hl2:H2 l=some (.lst (nv (List.replicate bw n))):=kp _ _ hl1 (by have:=(c.same s1).apart hl1;simp[this.1,this.2])
   refine aC rfl (jM rfl c2.ob ?_)
   apply cz hb2;rfl;rfl
   refine⟨_,rfl,_,rfl,av,ca,dx,ra,ma,l,w,h,x,y+i,_,_,List.replicate bw n,row,m,by rw[Int.natCast_add],c2,?_,hl2,by rw[List.length_replicate];exact hx,p1,m1,fun H3 ig c3=> ?_⟩
   ·exact c2.alive kp (hav.imp fun o e=>s1 _ _ e)
   ·rw[p2,m2]at c3
    exact aC rfl ⟨kp.trans ig,c3⟩
  ·rintro σ H2 ⟨v4,rfl,kp,c2⟩
   exact k H2 ((s1.kp _).trans kp) c2
noncomputable def Mr(A:bB):Sp:=fun vs H Q _=>∃(av ca dx ra ma b db l:Addr)(w h x y bw bh:Nat)(cols:List Nat)(cs:List (List Nat))(ms:List (List Bool)),vs= [.ref ca,.ref b,.ref l]∧Can A av H ca dx ra ma w h cs ms∧(∃o,H av=some o)∧H b=some (gh A db x y bw bh)∧x+bw≤w∧y+bh≤h∧H l=some (.lst (nv cols))∧cols.length=bw*bh∧∀H',Kp [ra,ma] H H'→Can A av H' ca dx ra ma w h (putAll cs x y bh fun i=>(cols.drop (i*bw)).take bw) (jc ms cs x y bh fun i=>(cols.drop (i*bw)).take bw)→Q .non H'
theorem yH:aF ["self","box","colors","down"] ["self","box","colors"] (aB wK):=⟨rfl,rfl,rfl,by decide +kernel,rfl,by decide +kernel,by decide +kernel⟩
theorem JM{A:bB}(T:Txt K mg A):dZ P w K mg base 3 A.jQ ["self","box","colors"] (Mr A):=by
 refine T.jQ.ok yH (fun vs H Q E h=> ?_) (fun cdv Ar outer s H vs Q E hr h=> ?_)
 ·obtain⟨av,ca,dx,ra,ma,b,db,l,w,h,x,y,bw,bh,cols,cs,ms,rfl,_⟩:=h
  rfl
 ·obtain⟨av,ca,dx,ra,ma,b,db,l,w,h,x,y,bw,bh,cols,cs,ms,rfl,c,hav,hb,hx,hy,hl1,hlen,k⟩:=h
  have nd:=yH.nd
  have hw2:=c.w2
  have hh2:=c.h2
  obtain⟨rs,hra,_⟩:=id c.rows
  refine⟨_,(au (dC PassesOwn.never rfl (uO rfl T.jb (aa (bc T.dD 3 (pv 1)) aq)) (aX (i:=3) nd rfl (Or.inl rfl) (Or.inl rfl))
    (au (aR (dJ T.bV T.eZ (rH T) (hr.mono (by decide)) (pv 0) (aa (bc T.dD 0 (pv 1)) (aa (bf eY (bc T.dD 1 (pv 1)) (pv 3)) (aa (bQ (cA K) (pv 2) (bz (bf qe (pv 3) (bc T.dD 2 (pv 1)))) (bz (bf qe (bf eY (pv 3) aA) (bc T.dD 2 (pv 1))))) aq)))))))),?_⟩
  have bra:b≠ra:=aN hb hra (fun e=>nomatch e)
  have bma:b≠ma:=aN hb c.yG (fun e=>nomatch e)
  apply cz hb;rfl;rfl
  refine e13 (a:=(bh:Int)) rfl (by omega) (by omega) ?_
  refine pH (n:=bh) (fun i σ H2=>∃v4,σ= [some (.ref ca),some (.ref b),some (.ref l),v4]∧Kp [ra,ma] H H2∧Can A av H2 ca dx ra ma w h (putAll cs x y i fun i=>(cols.drop (i*bw)).take bw) (jc ms cs x y i fun i=>(cols.drop (i*bw)).take bw)) ⟨_,rfl,Kp.refl _ _,?_⟩ ?_ ?_
  ·rw[putAll,lD,jc,lD];exact c
  ·rintro i σ H2 hi ⟨v4,rfl,kp,c2⟩
   obtain⟨row,hrow⟩:=pB (l:=cs) (i:=y+i) (by rw[c.lc];omega)
   obtain⟨m,hm⟩:=pB (l:=ms) (i:=y+i) (by rw[c.lm];omega)
   obtain⟨p1,p2⟩:=Mq (x:=x) (chunk:=fun i=>(cols.drop (i*bw)).take bw) hrow
   obtain⟨m1,m2⟩:=Ih (x:=x) (chunk:=fun i=>(cols.drop (i*bw)).take bw) hm hrow
   have hb2:H2 b=some (gh A db x y bw bh):=kp _ _ hb (by simp[bra,bma])
   have hl2:H2 l=some (.lst (nv cols)):=kp _ _ hl1 (by have:=c.apart hl1;simp[this.1,this.2])
   refine aC rfl (jM rfl c2.ob ?_)
   apply cz hb2;rfl;rfl
   apply cz hb2;rfl;rfl
   refine aC rfl (cP rfl rfl ?_)
   refine aC rfl (aC rfl ?_)
   apply cz hb2;rfl;rfl
   refine nR rfl rfl (.inr ⟨by omega,by omega⟩) (aC rfl (aC rfl (cP rfl rfl ?_)))
   apply cz hb2;rfl;rfl
   refine nR rfl rfl (.inr ⟨by omega,by omega⟩) (aC rfl (cP (a:=l) rfl (bj.of hl2) (fun t ht=> ?_)))
   have e1:(0+(i:Int))*(bw:Int)=((i*bw:Nat):Int):=by rw[Int.zero_add,Int.natCast_mul]
   have e2:(0+(i:Int)+1)*(bw:Int)=((i*bw+bw:Nat):Int):=by rw[Int.zero_add,Int.natCast_add,Int.natCast_mul,Int.add_mul,Int.one_mul]
   dsimp only
   rw[e1,e2,dg,dY,fG,Nat.add_sub_cancel_left]
   have hle:i*bw+bw≤bw*bh:=by
    have:(i+1)*bw≤bh*bw:=Nat.mul_le_mul_right _ hi
    rw[Nat.add_mul,Nat.one_mul,Nat.mul_comm bh bw]at this
    exact this
   refine⟨av,ca,dx,ra,ma,t,w,h,x,y+i,_,_,(cols.drop (i*bw)).take bw,row,m,by rw[Int.natCast_add,Int.zero_add],c2.same (az ht),?_,aj,by rw[List.length_take,List.length_drop];omega,p1,m1,fun H3 ig c3=> ?_⟩
   ·exact(c2.alive kp hav).imp fun o e=>old ht e
   ·rw[p2,m2]at c3
    exact aC rfl ⟨(kp.trans ((az ht).kp _)).trans ig,c3⟩
  ·rintro σ H2 ⟨v4,rfl,kp,c2⟩
   exact k H2 kp c2
theorem Ms{ms:List (List Bool)}{x y w k:Nat}{m:List Bool}(h:ms[y+k]? =some m):
  (d9 ms x y w k)[y+k]? =some m∧(d9 ms x y w k).set (y+k) (pR m x (List.replicate w false))=d9 ms x y w (k+1):=
 ⟨(zZ ms y k _).trans h,ud (fun _ m=>pR m x (List.replicate w false)) h⟩
noncomputable def Ey(A:bB):Sp:=fun vs H Q _=>∃(av ca dx ra ma b db:Addr)(w h x y bw bh:Nat)(cs:List (List Nat))(ms:List (List Bool)),vs= [.ref ca,.ref b]∧Can A av H ca dx ra ma w h cs ms∧H b=some (gh A db x y bw bh)∧x+bw≤w∧y+bh≤h∧∀H',Kp [ma] H H'→Can A av H' ca dx ra ma w h cs (d9 ms x y bw bh)→Q .non H'
theorem rJ:aF ["self","box","y","marks"] ["self","box"] (aB oM):=⟨rfl,rfl,rfl,by decide +kernel,rfl,by decide +kernel,by decide +kernel⟩
theorem BZ{A:bB}(T:Txt K mg A):dZ P w K mg base 2 A.gA ["self","box"] (Ey A):=by
 refine T.gA.ok rJ (fun vs H Q E h=> ?_) (fun cdv Ar outer s H vs Q E hr h=> ?_)
 ·obtain⟨av,ca,dx,ra,ma,b,db,w,h,x,y,bw,bh,cs,ms,rfl,_⟩:=h
  rfl
 ·obtain⟨av,ca,dx,ra,ma,b,db,w,h,x,y,bw,bh,cs,ms,rfl,c,hb,hx,hy,k⟩:=h
  have nd:=rJ.nd
  have hw2:=c.w2
  have hh2:=c.h2
  obtain⟨nrm,ncr,ncm⟩:=c.rm
  refine⟨_,(au (dC PassesOwn.never rfl (zj rfl T.jb (aa (bc T.dD 1 (pv 1)) (aa (cY T.dD T.gw (lF T) (hr.mono (by decide)) (pv 1)) aq))) (aX (i:=2) nd rfl (Or.inl rfl) (Or.inl rfl))
    (ak (aQ (i:=3) nd rfl (Or.inl rfl) (bL (aO K) (bc T.bV 3 (pv 0)) (pv 2) (fun _ _=>rfl)))
   (au (Nz (bf qi (bf qi (bQ Dk (pv 3) nT (bz (bc T.dD 0 (pv 1)))) (bf Dq (vJ T.Oq) (bc T.dD 2 (pv 1)))) (bQ Dk (pv 3) (bz (cY T.dD T.fK (jx T) (hr.mono (by decide)) (pv 1))) nT)) (Ny (bc T.bV 3 (pv 0)) (pv 2) set_list)))))),?_⟩
  have bma:b≠ma:=aN hb c.yG (fun e=>nomatch e)
  apply cz hb;rfl;rfl
  refine aC rfl (jM rfl hb (Xr rfl hb (cP (a:=(y:Int)) (b:=(y:Int)+(bh:Int)) rfl (by omega) ?_)))
  rw[show ((y:Int)+(bh:Int)-(y:Int)).toNat=bh by omega]
  refine pH (n:=bh) (fun i σ H2=>∃v3 v4,σ= [some (.ref ca),some (.ref b),v3,v4]∧Kp [ma] H H2∧Can A av H2 ca dx ra ma w h cs (d9 ms x y bw i)) ⟨_,_,rfl,Kp.refl _ _,?_⟩ ?_ ?_
  ·rw[d9,lD];exact c
  ·rintro i σ H2 hi ⟨v3,v4,rfl,kp,c2⟩
   obtain⟨m,hm⟩:=pB (l:=ms) (i:=y+i) (by rw[c.lm];omega)
   obtain⟨m1,m2⟩:=Ms (x:=x) (w:=bw) hm
   have hb2:H2 b=some (gh A db x y bw bh):=kp _ _ hb (by simp[bma])
   have YM:m.length=w:=c.wm _ (List.mem_of_getElem? hm)
   have hsl:(d9 ms x y bw i).length=h:=c2.lm
   apply cz c2.ob;rfl;rfl
   refine aC rfl (jN (a:=ma) (c:=((y+i:Nat):Int)) (d:= .str (dH m)) rfl (by rw[Int.natCast_add]) (bj.of c2.yG) (aV (mD m1)) ?_)
   refine aC rfl ?_
   apply cz hb2;rfl;rfl
   refine aC rfl (cW (a:=dH m) rfl (by rw[cU,dO];omega) ?_)
   rw[Rc m (by omega)]
   apply cz hb2;rfl;rfl
   refine nR (a:=sg false) (b:=bw) (by rw[Vs]) rfl (by omega) ?_
   rw[Mp]
   refine nR rfl rfl (by rw[cU,cU,List.length_take,List.length_replicate,dO];omega) ?_
   rw[yF]
   refine aC rfl (aC rfl (jM rfl hb2 (Xr rfl hb2 (aC rfl (cW (a:=dH m) rfl (by rw[cU,dO];omega) ?_)))))
   rw[show (x:Int)+(bw:Int)=((x+bw:Nat):Int) by omega,Ig m (by omega)]
   refine nR rfl rfl (by rw[cU,cU,List.length_append,List.length_take,List.length_replicate,List.length_drop,dO];omega) ?_
   rw[yF]
   have em:m.take x++List.replicate bw false++m.drop (x+bw)=pR m x (List.replicate bw false):=by unfold pR;rw[List.length_replicate]
   rw[em]
   apply cz c2.ob;rfl;rfl
   refine aC rfl ⟨ma,⟨_,((y+i:Nat):Int),y+i,rfl,by rw[Int.natCast_add],c2.yG,?_,?_⟩⟩
   ·unfold Qy
    rw[if_pos (by omega),if_pos (by rw[List.length_map];omega),Int.toNat_natCast]
   ·refine vq rfl ⟨kp.trans cH,?_⟩
    obtain⟨rs,hra,p⟩:=c2.rows
    refine⟨oth ncm c2.ob,⟨rs,oth nrm hra,p.imp fun a b q=>⟨oth (c2.apart q.1).2 q.1,q.2⟩⟩,?_,c.wc,?_,c.lc,?_,c.w1,c.w2,c.h1,c.h2⟩
    ·rw[aj,←m2,List.map_set]
    ·rw[←m2]
     intro q hq
     rcases List.mem_or_eq_of_mem_set hq with hq | rfl
     ·exact c2.wm q hq
     ·rw[uc (by rw[List.length_replicate];omega)];exact YM
    ·rw[←m2,List.length_set];exact c2.lm
  ·rintro σ H2 ⟨v3,v4,rfl,kp,c2⟩
   exact k H2 kp c2
theorem aas{X:Cx}{o e:Expr}{es:List Expr}{to:TE}{t:TA}{name:Str}{apos cpos:Pos}{T id:String}{r:V→List V→Hp→VK→Prop}(K:PySem.W.Frag)(pa:PlainAttrs T)(slot:Slot T name id)(hty:typeOf (.builtin id)=pure (.type "method_descriptor"))(hm:Ui X id r)(ho:PE X o to)(ha:PA X (e::es) t)
  (hbase:attributeBase o name X.env (eval o X.env)=eval o X.env:=by rfl)
  (hfew:((backTo cpos (starEach (e::es) X.env)).all (fun x=> !x.1)&&(backToKw cpos (keywordEach [] X.env)).all (fun x=>x.1.isSome)
   && decide ((e::es).length+([]:List Keyword).length+(if ([]:List Keyword).isEmpty then 0 else 1)<30))=true:=by rfl)
  (hline:(apos.endLine==cpos.line)=true:=by rfl) (hs:starEach (e::es) X.env=(false,eval e X.env)::starEach es X.env:=by rfl) (hplain:(backTo cpos (starEach es X.env)).any (·.1)=false:=by rfl) (hK:X.K=K:=by rfl):
  PE X (.Call (.Attribute o name apos) (e::es) [] cpos) (tBM K T r to t):=by
 subst hK
 exact fV pa slot hty hm ho ha hbase hfew hline hs hplain
theorem Sy(m:List Bool):Txt.count (dH m) ⟨#[sg true]⟩=((m.filter id).length:Nat):=by
 rw[count_cnt,eE]
 induction m with
 | nil=>rfl
 | cons b m ih=>
  rw[List.map_cons,cnt_cons,ih]
  cases b with
  | true=>rw[if_pos rfl,List.filter_cons_of_pos (by rfl),List.length_cons];omega
  | false=>rw[if_neg (by decide),List.filter_cons_of_neg (by simp)];omega
theorem sum_nat:∀l:List Nat,(l.map fun(n:Nat)=>(n:Int)).sum=((l.sum:Nat):Int)
 | []=>rfl
 | a::l=>by rw[List.map_cons,List.sum_cons,List.sum_cons,sum_nat l];omega
noncomputable def sI(A:bB):Sp:=fun vs H Q _=>∃(av ca dx ra ma:Addr)(w h:Nat)(cs:List (List Nat))(ms:List (List Bool)),vs= [.ref ca]∧Can A av H ca dx ra ma w h cs ms∧∀H',bu H H'→Q (.int ((ms.map fun m=>(m.filter id).length).sum:Nat)) H'
theorem jH:aF ["self","marks"] ["self"] (aB eG):=⟨rfl,rfl,rfl,by decide +kernel,rfl,by decide +kernel,by decide +kernel⟩
theorem qR{A:bB}(T:Txt K mg A):dZ P w K mg base 1 A.cN ["self"] (sI A):=by
 refine T.cN.ok jH (fun vs H Q E h=> ?_) (fun cdv Ar outer s H vs Q E hr h=> ?_)
 ·obtain⟨av,ca,dx,ra,ma,w,h,cs,ms,rfl,_⟩:=h
  rfl
 ·obtain⟨av,ca,dx,ra,ma,w,h,cs,ms,rfl,c,k⟩:=h
  have nd:=jH.nd
  have hh2:=c.h2
  refine⟨_,(au (aG (bO (Z0 rfl) rfl T.YD PyProof.Rows.boot_sum (aa (xW rfl nd (ik (bc T.bV 3 (pv 0))) (gj (own:= [("marks",1)]) (show xY ["self","marks"] (aB eG) _ _=true by decide +kernel)) (fun _ _ _ _ _=>(aX (i:=1) nd rfl (Or.inl rfl) (Or.inr rfl))) (fun _ _ _ _ _=>jz) (fun _ _ _ _ _=>(aas K PySem.F.plainAttrs_str PySem.F.slot_str_count PySem.F.type_str_count Ux (pv 1) (aa (vJ T.mU) aq)))) aq)))),?_⟩
  apply cz c.ob;rfl;rfl
  refine aC (a:=ma) rfl ⟨⟨_,bj.of c.yG⟩,fun D hD=> ?_⟩
  refine xX (xs:=ms.map fun m=>V.str (dH m)) (fun i H2=>bu H H2∧H2 D=some (.lst (nv ((ms.take i).map fun m=>(m.filter id).length)))) ⟨az hD,aj⟩ (fun i H2 hi ⟨s2,_⟩=>bj.of (s2 _ _ c.yG)) ?_ ?_
  ·rintro i x H2 hi ⟨s2,hd⟩
   rw[List.getElem?_map]at hi
   obtain⟨m,hm,rfl⟩:=Option.map_eq_some_iff.mp hi
   have hil:i<ms.length:=(List.getElem?_eq_some_iff.mp hm).1
   refine⟨rfl,cW rfl rfl (cP rfl (by rw[Et]) ?_)⟩
   rw[Sy]
   refine e13 hd (by rw[aD,List.length_map,List.length_take,dO];have:=c.lm;omega) (fun b o e=>oth (ao e hD) (s2 _ _ e)) ?_
   rw[aj,take_snoc hm,List.map_append,bG];rfl
  ·rintro H2 ⟨s2,hd⟩
   rw[List.length_map,List.take_length]at hd
   refine cP (a:=D) (b:=((ms.map fun m=>(m.filter id).length).map fun(n:Nat)=>(n:Int))) rfl (bj.of (by rw[hd,YH])) ?_
   rw[sum_nat]
   exact k H2 s2
noncomputable def uo(A:bB):Sp:=fun vs H Q _=>∃(av ca dx ra ma b db:Addr)(w h x y bw bh:Nat)(cs:List (List Nat))(ms:List (List Bool)),vs= [.ref ca,.ref b]∧Can A av H ca dx ra ma w h cs ms∧H b=some (gh A db x y bw bh)∧∀l rs H',bu H H'→H' l=some (.lst (rs.map V.ref))→P2 (fun r row=>H' r=some (.lst (nv row))) rs (((cs.drop y).take bh).map fun row=>(row.drop x).take bw)→Q (.ref l) H'
theorem jP:aF ["self","box","row"] ["self","box"] (aB fC):=⟨rfl,rfl,rfl,by decide +kernel,rfl,by decide +kernel,by decide +kernel⟩
theorem sJ{A:bB}(T:Txt K mg A):dZ P w K mg base 2 A.cV ["self","box"] (uo A):=by
 refine T.cV.ok jP (fun vs H Q E h=> ?_) (fun cdv Ar outer s H vs Q E hr h=> ?_)
 ·obtain⟨av,ca,dx,ra,ma,b,db,w,h,x,y,bw,bh,cs,ms,rfl,_⟩:=h
  rfl
 ·obtain⟨av,ca,dx,ra,ma,b,db,w,h,x,y,bw,bh,cs,ms,rfl,c,hb,k⟩:=h
  have nd:=jP.nd
  have hh2:=c.h2
  obtain⟨rs,hra,p⟩:=id c.rows
  refine⟨_,(au (aG (xW rfl nd (ik (bQ (cA K) (bc T.bV 2 (pv 0)) (bz (bc T.dD 1 (pv 1))) (bz (cY T.dD T.gw (lF T) (hr.mono (by decide)) (pv 1))))) (gj (own:= [("row",2)]) (show xY ["self","box","row"] (aB fC) _ _=true by decide +kernel)) (fun _ _ _ _ _=>(aX (i:=2) nd rfl (Or.inl rfl) (Or.inr rfl))) (fun _ _ _ _ _=>jz) (fun _ _ _ _ _=>(bQ (cA K) (pv 2) (bz (bc T.dD 0 (pv 1))) (bz (cY T.dD T.fK (jx T) (hr.mono (by decide)) (pv 1)))))))),?_⟩
  apply cz c.ob;rfl;rfl
  apply cz hb;rfl;rfl
  refine aC rfl (aC rfl (jM rfl hb (Xr rfl hb (aC rfl (cP (a:=ra) rfl (bj.of hra) (fun t ht=> ?_))))))
  rw[show (y:Int)+(bh:Int)=((y+bh:Nat):Int) by omega,dg,←List.map_drop,←List.map_take,Nat.add_sub_cancel_left]
  refine aC (a:=t) rfl ⟨⟨_,bj.of aj⟩,fun D hD=> ?_⟩
  obtain⟨hD1,hD2⟩:=aU hD
  have p2:P2 (fun r row=>H r=some (.lst (nv row))) ((rs.drop y).take bh) ((cs.drop y).take bh):=((p.drop y).take bh).imp fun a b q=>q.1
  refine xX (xs:=((rs.drop y).take bh).map V.ref) (fun i H2=>bu H H2∧H2 t=some (.lst (((rs.drop y).take bh).map V.ref))∧∃qs:List Addr,H2 D=some (.lst (qs.map V.ref))∧P2 (fun r row=>H2 r=some (.lst (nv row))∧r≠D) qs ((((cs.drop y).take bh).take i).map fun row=>(row.drop x).take bw)) ⟨(az ht).trans (az hD),old hD aj,[],aj,trivial⟩ (fun i H2 hi ⟨s2,h2,_⟩=>bj.of h2) ?_ ?_
  ·rintro i v H2 hi ⟨s2,h2,qs,hd,pq⟩
   rw[List.getElem?_map]at hi
   obtain⟨r,hr1,rfl⟩:=Option.map_eq_some_iff.mp hi
   obtain⟨row,hrow,hrr⟩:=p2.get hr1
   have hl:qs.length≤480:=by
    have:=pq.len
    rw[List.length_map,List.length_take,List.length_take,List.length_drop,c.lc]at this
    omega
   refine⟨rfl,aC rfl (aC rfl (YK rfl ⟨s2 _ _ hb,rfl,aC rfl (aC rfl (vU rfl ⟨s2 _ _ hb,e61 rfl ⟨s2 _ _ hb,aC rfl ⟨r,cW rfl (bj.of (s2 _ _ hrr)) (fun t2 ht2=> ?_)⟩⟩⟩))⟩))⟩
   rw[show (x:Int)+(bw:Int)=((x+bw:Nat):Int) by omega,dg,dY,fG,Nat.add_sub_cancel_left]
   have hDt:t2≠D:=(ao hd ht2).symm
   refine⟨_,old ht2 hd,by rw[List.length_map,dO];omega,fun b o e=>oth (ao e hD1) (old ht2 (s2 _ _ e)),oth hD2.symm (old ht2 h2),qs ++ [t2],?_,?_⟩
   ·rw[aj,List.map_append];rfl
   ·rw[take_snoc hrow,List.map_append]
    exact P2.snoc (pq.imp fun a b q=>⟨oth q.2 (old ht2 q.1),q.2⟩) ⟨oth hDt aj,hDt⟩
  ·rintro H2 ⟨s2,h2,qs,hd,pq⟩
   rw[List.length_map,p2.len,List.take_length]at pq
   exact k D qs H2 s2 hd (pq.imp fun a b q=>q.1)
noncomputable def sO(A:bB):Sp:=fun vs H Q _=>∃(av ca dx ra ma b db:Addr)(w h:Nat)(r:Sw32.Rect)(s0:Sw32.Screen)(cs:List (List Nat))(ms:List (List Bool)),vs= [.ref ca,.ref b]∧Can A av H ca dx ra ma w h cs ms∧H b=some (gh A db r.x r.y r.w r.h)∧r.x+r.w≤w∧r.y+r.h≤h∧BW s0 cs ms∧s0.w=w∧(Sw32.around (r.points.filter s0.new)=none→∀H',bu H H'→Q .non H')∧∀q b2 d2 H',Sw32.around (r.points.filter s0.new)=some q→bu H H'→H b2=none→H' b2=some (gh A d2 q.x q.y q.w q.h)→Q (.ref b2) H'
theorem jJ:aF ["self","box","left","right","changed_rows","y","top","first"] ["self","box"] (aB gU):=⟨rfl,rfl,rfl,by decide +kernel,rfl,by decide +kernel,by decide +kernel⟩
theorem qT{A:bB}(T:Txt K mg A):dZ P w K mg base 3 A.cM ["self","box"] (sO A):=by
 refine T.cM.ok jJ (fun vs H Q E h=> ?_) (fun cdv Ar outer s H vs Q E hr h=> ?_)
 ·obtain⟨av,ca,dx,ra,ma,b,db,w,h,r,s0,cs,ms,rfl,_⟩:=h
  rfl
 ·obtain⟨av,ca,dx,ra,ma,b,db,w,h,r,s0,cs,ms,rfl,c,hb,hx,hy,hd,sw,kn,ks⟩:=h
  have nd:=jJ.nd
  have hw2:=c.w2
  have hh2:=c.h2
  have new:∀(i:Nat)(m:List Bool),ms[i]? =some m→∀a,a<w→(s0.new (a,i)=true↔(dH m).cps.toList[a]? =some (sg true)):=fun i m hm a ha=>by
   rw[aao hd (by omega),hm,Mm]
   show (m[a]?).getD false=true↔_
   cases m[a]? with
   | none=>simp
   | some q=>simp
  refine⟨_,(ak (aQ (i:=2) nd rfl (Or.inl rfl) (cY T.dD T.fK (jx T) (hr.mono (by decide)) (pv 1)))
   (ak (aQ (i:=3) nd rfl (Or.inl rfl) (Yl T9 aA))
   (ak (aQ (i:=4) nd rfl (Or.inl rfl) (cG aq))
   (ak (dC PassesOwn.never rfl (zj rfl T.jb (aa (bc T.dD 1 (pv 1)) (aa (cY T.dD T.gw (lF T) (hr.mono (by decide)) (pv 1)) aq))) (aX (i:=5) nd rfl (Or.inl rfl) (Or.inl rfl))
    (ak (aQ (i:=7) nd rfl (Or.inl rfl) (fV PySem.F.plainAttrs_str PySem.F.slot_str_find PySem.F.type_str_find Ld (bL (aO K) (bc T.bV 3 (pv 0)) (pv 5) (fun _ _=>rfl)) (aa (vJ T.mU) (aa (bc T.dD 0 (pv 1)) (aa (cY T.dD T.fK (jx T) (hr.mono (by decide)) (pv 1)) aq)))))
   (au (bC (aJ Ks (pv 7) aA (aP _))
    (ak (aQ (i:=2) nd rfl (Or.inl rfl) (bO (RB rfl) rfl T.YB PyProof.Rows.boot_min (aa (pv 2) (aa (pv 7) aq))))
   (ak (aQ (i:=3) nd rfl (Or.inl rfl) (bO (Rz rfl) rfl T.Yz PyProof.Rows.boot_max (aa (pv 3) (aa (fV PySem.F.plainAttrs_str PySem.F.slot_str_rfind PySem.F.type_str_rfind RW (bL (aO K) (bc T.bV 3 (pv 0)) (pv 5) (fun _ _=>rfl)) (aa (vJ T.mU) (aa (bc T.dD 0 (pv 1)) (aa (cY T.dD T.fK (jx T) (hr.mono (by decide)) (pv 1)) aq)))) aq))))
   (au (aR (fV PySem.F.plainAttrs_list PySem.F.slot_list_append PySem.F.type_list_append ji (pv 4) (aa (pv 5) aq)))))) aM))))
   (ak (bC (mV (pI (pv 4) (fun _=>rfl)))
    (au (aG gP)) aM)
   (ak (aQ (i:=6) nd rfl (Or.inl rfl) (bL (aO K) (pv 4) aA (fun _ _=>rfl)))
   (au (aG (vI T.dD T.Hy (nH T) (hr.mono (by decide)) rfl (aa (pv 2) (aa (pv 6) (aa (bf oG (bf eY (pv 3) aA) (pv 2)) (aa (bf oG (bf eY (bL (aO K) (pv 4) (Yl T9 aA) (fun _ _=>rfl)) aA) (pv 6)) aq))))))))))))),?_⟩
  refine aC rfl (jM rfl hb (Xr rfl hb ?_))
  refine aC rfl ?_
  refine⟨by decide,fun l hl=> ?_⟩
  have s1:bu H (upd H l (.lst [])):=az hl
  refine aC rfl (YK rfl ⟨s1 _ _ hb,rfl,aC rfl (vU rfl ⟨s1 _ _ hb,e61 rfl ⟨s1 _ _ hb,(r.y:Int),(r.y:Int)+(r.h:Int),rfl,by omega,?_⟩⟩)⟩)
  rw[show ((r.y:Int)+(r.h:Int)-(r.y:Int)).toNat=r.h by omega]
  refine pH (n:=r.h) (fun i σ H2=>∃(left right:Nat)(rows:List Nat)(v5 v7:Option V),σ= [some (.ref ca),some (.ref b),some (.int (left:Int)),some (.int ((right:Int)-1)),some (.ref l),v5,none,v7]∧bu H H2∧H2 l=some (.lst (nv rows))∧
   Found (fun a b=>s0.new (a,b)=true) r.x r.y r.w i left right rows∧(rows= []→r.x+r.w≤left∧right=0)∧rows.length≤i) ⟨r.x+r.w,0,[],_,_,by rw[Int.natCast_add];rfl,s1,aj,Found.start _ _ _ _ _ _,fun _=>⟨Nat.le_refl _,rfl⟩,Nat.le_refl _⟩ ?_ ?_
  ·rintro i σ H2 hi ⟨left,right,rows,v5,v7,rfl,s2,hl2,F,h0,hrl⟩
   obtain⟨m,hm⟩:=pB (l:=ms) (i:=r.y+i) (by rw[c.lm];omega)
   have YM:m.length=w:=c.wm _ (List.mem_of_getElem? hm)
   have nw:=new _ m hm
   have hb2:=s2 _ _ hb
   have xe:((r.x:Int)+(r.w:Int))=((r.x+r.w:Nat):Int):=by omega
   refine⟨_,rfl,_,_,_,_,rfl,s2 _ _ c.ob,rfl,_,rfl,ma,_,((r.y+i:Nat):Int),.str (dH m),rfl,by rw[Int.natCast_add],bj.of (s2 _ _ c.yG),aV (mD hm),rfl,?_⟩
   apply cz hb2;rfl;rfl
   refine⟨_,rfl,_,_,_,rfl,hb2,_,_,_,_,_,_,rfl,hb2,dH m,sg true,r.x,r.x+r.w,rfl,by rw[Et,xe],by rw[cU];omega,fun hno=> ?_,fun p p1 p2 p3 p4=> ?_⟩
   ·refine aC rfl (cP rfl rfl (aC rfl (bJ (fun e=>absurd e (by decide)) fun _=> ?_)))
    exact⟨left,right,rows,vq rfl ⟨s2,hl2,F.skip fun a a1 a2 n=>hno a a1 a2 ((nw a (by omega)).mp n),h0,by omega⟩⟩
   ·refine aC rfl (cP rfl rfl (aC rfl (bJ (fun _=> ?_) fun e=>absurd (Int.natCast_nonneg p) e)))
    refine aC rfl (aC rfl (vq rfl ?_))
    have e1:(if (p:Int)<(left:Int)then (p:Int)else (left:Int))=((min left p:Nat):Int):=by
     by_cases q:(p:Int)<(left:Int)
     ·rw[if_pos q];omega
     ·rw[if_neg q];omega
    rw[e1]
    refine⟨_,rfl,_,rfl,_,_,_,_,rfl,s2 _ _ c.ob,rfl,_,rfl,ma,_,((r.y+i:Nat):Int),.str (dH m),rfl,by rw[Int.natCast_add],bj.of (s2 _ _ c.yG),aV (mD hm),rfl,?_⟩
    apply cz hb2;rfl;rfl
    refine⟨_,rfl,_,_,_,rfl,hb2,_,_,_,_,_,_,rfl,hb2,dH m,sg true,r.x,r.x+r.w,rfl,by rw[Et,xe],by rw[cU];omega,fun hno=>absurd p3 (hno p p1 p2),fun q q1 q2 q3 q4=> ?_⟩
    refine vq rfl ?_
    have e2:(if (q:Int) > (right:Int)-1 then (q:Int)else (right:Int)-1)=((max right (q+1):Nat):Int)-1:=by
     by_cases c:(q:Int) > (right:Int)-1
     ·rw[if_pos c];omega
     ·rw[if_neg c];omega
    rw[e2]
    refine cW rfl (.inl ⟨rfl,_,bj.of hl2⟩) (aC rfl (e34 (a:=l) rfl rfl hl2 (by rw[aD,dO];omega) ?_))
    refine⟨_,_,rows ++ [r.y+i],_,_,rfl,fun z o e=>oth (ao e hl) (s2 _ _ e),?_,F.hit h0 ⟨p1,p2,(nw p (by omega)).mpr p3⟩ (fun a a1 a2 n=>p4 a a1 a2 ((nw a (by omega)).mp n)) ⟨q1,q2,(nw q (by omega)).mpr q3⟩ (fun a a1 a2 n=>q4 a a1 a2 ((nw a (by omega)).mp n)),fun e=>absurd e (by simp),by rw[List.length_append];exact Nat.succ_le_succ hrl⟩
    rw[aj,bG,←Int.natCast_add];rfl
  ·rintro σ H2 ⟨left,right,rows,v5,v7,rfl,s2,hl2,F,h0,hrl⟩
   refine aC rfl (aC (.inl ⟨_,bj.of hl2,rfl⟩) ?_)
   cases rows with
   | nil=>
    exact kn F.none H2 s2
   | cons t rows=>
    obtain⟨fa,f1,f2,f3,f4,f5,f6⟩:=F.some
    refine aC rfl (jN (a:=l) rfl rfl (bj.of hl2) (aV (j:=0) rfl) ?_)
    refine aC rfl (aC rfl (aC rfl (cP rfl rfl (aC rfl (cP rfl rfl (aC rfl (aC rfl (jN (a:=l) (d:= .int (((t::rows).getLast (List.cons_ne_nil _ _):Nat):Int)) rfl rfl (bj.of hl2) ?_ (cP rfl rfl (aC rfl (cP rfl rfl (fun x dx hx hdx hne=> ?_))))))))))))
    ·have e:=List.dropLast_concat_getLast (List.cons_ne_nil t rows)
     have e2:nv (t::rows)=nv (t::rows).dropLast ++ [V.int (((t::rows).getLast (List.cons_ne_nil t rows):Nat):Int)]:=by
      have:=congrArg nv e
      rw[bG]at this
      exact this.symm
     rw[e2]
     exact Uh _ _
    ·refine Xr (a:=x) (b:=dx) rfl aj ?_
     have e3:(right:Int)-1+1-(left:Int)=((right-left:Nat):Int):=by omega
     have e4:(((t::rows).getLast (List.cons_ne_nil t rows):Nat):Int)+1-(t:Int)=(((t::rows).getLast (List.cons_ne_nil t rows)+1-t:Nat):Int):=by omega
     dsimp only
     rw[e3,e4]
     refine⟨rfl,?_⟩
     have hx0:H x=none:=by
      by_cases q:H x=none
      ·exact q
      ·obtain⟨o,ho⟩:=Option.ne_none_iff_exists'.mp q
       exact absurd (s2 _ _ ho) (by rw[hx];simp)
     refine ks _ x dx _ fa (fun z o e=> ?_) hx0 ?_
     ·rw[bM]
      exact oth (ao e hx0) (old hdx (s2 _ _ e))
     ·exact aj
theorem JN(a b:Nat):Builtin.bitAnd (a:Int) (b:Int)=((a &&& b:Nat):Int):=rfl
theorem aat(a b:Nat):Builtin.bitOr (a:Int) (b:Int)=((a ||| b:Nat):Int):=by
 unfold Builtin.bitOr Builtin.bitAnd Builtin.bitNot
 rw[decide_eq_false (by omega),decide_eq_false (by omega)]
 have e:∀n:Nat,(-(-(n:Int)-1)-1).toNat=n:=fun n=>by omega
 show -(-((((-(-(a:Int)-1)-1).toNat ||| (-(-(b:Int)-1)-1).toNat:Nat):Int))-1)-1=_
 rw[e,e];omega
theorem rgc{a b n:Nat}{c:Int}(c0:0<c)(c1:c≤16)(ha:(a:Int)≤1099511627776)(hb:(b:Int)≤1099511627776)(hn:(n:Int)≤1099511627776)(e:Builtin.Range.rangeSize (a:Int) (b:Int) c=(n:Int)):RgC (a:Int) (b:Int) c n:=by
 refine⟨by omega,by omega,?_,e⟩
 have f:∀i:Int,-1099511627800≤i→i≤18014398509481984→Builtin.Range.rangeFitsLong i=true:=fun i h1 h2=>by
  unfold Builtin.Range.rangeFitsLong
  rw[Bool.and_eq_true,decide_eq_true_iff,decide_eq_true_iff]
  exact⟨by omega,by omega⟩
 unfold Builtin.Range.small
 rw[e]
 rw[if_pos c0,f _ (by omega) (by omega),f _ (by omega) (by omega),f _ (by omega) (by omega),f _ (by omega) (by omega)]
 rw[f _ (by omega) (by omega)]
 simp
theorem aeu{a b n:Nat}(ha:a≤16777216)(hb:b≤16777216)(hn:n=(b-a+3) / 4):RgC (a:Int) (b:Int) 4 n:=
 rgc (by omega) (by omega) (by omega) (by omega) (by omega) (by unfold Builtin.Range.rangeSize;rw[if_pos (by decide)];split<;>omega)
theorem aev{a b n:Nat}(ha:a≤16777216)(hb:b≤16777216)(hn:n=(b-a+7) / 8):RgC (a:Int) (b:Int) 8 n:=
 rgc (by omega) (by omega) (by omega) (by omega) (by omega) (by unfold Builtin.Range.rangeSize;rw[if_pos (by decide)];split<;>omega)
theorem YQ{a b n:Nat}(ha:a≤16777216)(hb:b≤16777216)(hn:n=(b-a+15) / 16):RgC (a:Int) (b:Int) 16 n:=
 rgc (by omega) (by omega) (by omega) (by omega) (by omega) (by unfold Builtin.Range.rangeSize;rw[if_pos (by decide)];split<;>omega)
theorem yI{α:Type}{l:List α}{i:Nat}{a:α}(h:l[i]? =some a):l.drop i=a::l.drop (i+1):=by
 obtain⟨h1,h2⟩:=List.getElem?_eq_some_iff.mp h
 rw[List.drop_eq_getElem_cons h1,h2]
theorem in3(a b c d:Int):inV (.int a) [.int b,.int c,.int d]=decide (a=b∨a=c∨a=d):=by
 show (b==a||(c==a||(d==a||false)))=_
 rw[Bool.eq_iff_iff];simp;omega
theorem in2(a b c:Int):inV (.int a) [.int b,.int c]=decide (a=b∨a=c):=by
 show (b==a||(c==a||false))=_
 rw[Bool.eq_iff_iff];simp;omega
theorem Rf(g sh:Nat):(g:Int)*2 ^ (sh:Int).toNat=((g*2 ^ sh:Nat):Int):=by rw[Int.toNat_natCast];simp
noncomputable abbrev abZ(A:bB)(dx gl sl kd:Addr)(d:FD):HO:=Io A.lV lU dx [.int (d.bits:Int),.int (d.depth:Int),.int (d.hf:Int),.int (d.tc:Int),.ref gl,.ref sl,.ref kd]
structure FD.Fit (d:FD):Prop where
 b:d.bits<256
 e:d.depth<256
 h:d.hf<256
 t:d.tc<256
 g0:d.g0<65536
 g1:d.g1<65536
 g2:d.g2<65536
 s0:d.s0<256
 s1:d.s1<256
 s2:d.s2<256
noncomputable abbrev Wh(kvs:List (Nat × Addr)):List (Key × V):=kvs.map fun q=>(Sum.inl (q.1 :Int),V.ref q.2)
structure aW(A:bB)(W:List Addr)(H:Hp)(fa dx gl sl kd:Addr)(d:FD):Prop where
 ob:H fa=some (abZ A dx gl sl kd d)
 hg:H gl=some (.lst (nv [d.g0,d.g1,d.g2]))
 hs:H sl=some (.lst (nv [d.s0,d.s1,d.s2]))
 ng:gl ∉ W
 ns:sl ∉ W
 kn:∃kvs:List (Nat × Addr),H kd=some (.dK (Wh kvs))∧(kvs.map (·.1)).Nodup∧∀q ∈ kvs,q.1<16777216∧H q.2=some (.lst (nv (jF d q.1)))∧q.2 ∉ W
 fit:d.Fit
theorem aW.Ez {A:bB} {W:List Addr} {H:Hp} {fa dx gl sl kd:Addr} {d:FD} (f:aW A W H fa dx gl sl kd d) {b:Addr} {xs:List V} (h:H b=some (.lst xs)):b≠kd:=by
 obtain⟨kvs,hk,_⟩:=f.kn
 exact aN h hk (fun e=>nomatch e)
theorem aW.ab0 {A:bB} {W:List Addr} {H:Hp} {fa dx gl sl kd:Addr} {d:FD} (f:aW A W H fa dx gl sl kd d):fa≠kd:=by
 obtain⟨kvs,hk,_⟩:=f.kn
 exact aN f.ob hk (fun e=>nomatch e)
theorem aW.less {A:bB} {W W':List Addr} {H:Hp} {fa dx gl sl kd:Addr} {d:FD} (f:aW A W H fa dx gl sl kd d) (h:∀z ∈ W',z ∈ W):aW A W' H fa dx gl sl kd d:=by
 obtain⟨kvs,h1,h2,h3⟩:=f.kn
 exact⟨f.ob,f.hg,f.hs,fun q=>f.ng (h _ q),fun q=>f.ns (h _ q),⟨kvs,h1,h2,fun q hq=>⟨(h3 q hq).1,(h3 q hq).2.1,fun z=>(h3 q hq).2.2 (h _ z)⟩⟩,f.fit⟩
theorem aW.add {A:bB} {W:List Addr} {H:Hp} {fa dx gl sl kd:Addr} {d:FD} (f:aW A W H fa dx gl sl kd d) {l:Addr} (h:H l=none):aW A (l::W) H fa dx gl sl kd d:=by
 obtain⟨kvs,h1,h2,h3⟩:=f.kn
 have ne:∀ {b:Addr}{o:HO},H b=some o→b ∉ W→b ∉ l::W:=fun e n q=>by
  rcases List.mem_cons.mp q with q | q
  ·rw[q,h]at e;cases e
  ·exact n q
 exact⟨f.ob,f.hg,f.hs,ne f.hg f.ng,ne f.hs f.ns,⟨kvs,h1,h2,fun q hq=>⟨(h3 q hq).1,(h3 q hq).2.1,ne (h3 q hq).2.1 (h3 q hq).2.2⟩⟩,f.fit⟩
theorem aW.mono {A:bB} {W:List Addr} {H H':Hp} {fa dx gl sl kd:Addr} {d:FD} (f:aW A W H fa dx gl sl kd d) (h1:∀o,H fa=some o→H' fa=some o) (h2:∀o,H kd=some o→H' kd=some o) (h3:∀b ns,b ∉ W→H b=some (.lst (nv ns))→H' b=some (.lst (nv ns))):aW A W H' fa dx gl sl kd d:=by
 obtain⟨kvs,k1,k2,k3⟩:=f.kn
 exact⟨h1 _ f.ob,h3 _ _ f.ng f.hg,h3 _ _ f.ns f.hs,f.ng,f.ns,⟨kvs,h2 _ k1,k2,fun q hq=>⟨(k3 q hq).1,h3 _ _ (k3 q hq).2.2 (k3 q hq).2.1,(k3 q hq).2.2⟩⟩,f.fit⟩
theorem aW.same {A:bB} {W:List Addr} {H H':Hp} {fa dx gl sl kd:Addr} {d:FD} (f:aW A W H fa dx gl sl kd d) (s:bu H H'):aW A W H' fa dx gl sl kd d:=
 f.mono (fun o e=>s _ _ e) (fun o e=>s _ _ e) fun b ns _ e=>s _ _ e
theorem aW.at {A:bB} {W:List Addr} {H:Hp} {fa dx gl sl kd:Addr} {d:FD} (f:aW A W H fa dx gl sl kd d) {l:Addr} {o:HO} {xs:List V} (hl:H l=some (.lst xs)) (hw:l ∈ W):aW A W (upd H l o) fa dx gl sl kd d:=
 f.mono (fun o e=>oth (aN f.ob hl (fun e=>nomatch e)) e) (fun o e=>oth (f.Ez hl).symm e) fun b ns n e=>oth (fun q=>n (q▸hw)) e
theorem Pj(bits t g s:Nat)(r:List (Nat × Nat)):fD bits t ((g,s)::r)=if (g*2 ^ s) &&& t=0 then fD bits (t ||| (g*2 ^ s)) r else false:=rfl
noncomputable def Mt(A:bB):Sp:=fun vs H Q _=>∃(n:Nat),vs= [.int (n:Int)]∧Q (.bl (allOnes n)) H
theorem yJ:aF ["number"] ["number"] (aB wN):=⟨rfl,rfl,rfl,by decide +kernel,rfl,by decide +kernel,by decide +kernel⟩
theorem JP{A:bB}(T:Txt K mg A):dZ P w K mg base 1 A.jR ["number"] (Mt A):=by
 refine T.jR.ok yJ (fun vs H Q E h=> ?_) (fun cdv Ar outer s H vs Q E hr h=> ?_)
 ·obtain⟨n,rfl,_⟩:=h
  rfl
 ·obtain⟨n,rfl,k⟩:=h
  have nd:=yJ.nd
  refine aC (au (aG (T3 (qg Ak (pv 0) aA (aP _)) (TY (qg dF (bf zp (pv 0) (bf eY (pv 0) aA)) aA (aP _)))))) ?_
  refine aC rfl (cP rfl rfl (aC rfl (bJ (fun c=> ?_) fun c=> ?_)))
  ·refine aC rfl (aC rfl (cP rfl rfl (nR rfl rfl rfl ?_)))
   have e:allOnes n=decide (V.int (Builtin.bitAnd (n:Int) ((n:Int)+1))=V.int 0):=by
    unfold allOnes
    rw[decide_eq_true (by omega),Bool.true_and]
    have:((n:Int)+1)=((n+1 :Nat):Int):=rfl
    rw[this,JN]
    rw[Bool.eq_iff_iff,beq_iff_eq,decide_eq_true_iff,aH]
    omega
   rw[e]at k
   exact k
  ·have e:allOnes n=false:=by
    unfold allOnes
    rw[decide_eq_false (by omega),Bool.false_and]
   rw[e]at k
   exact k
noncomputable def vz(A:bB):Sp:=fun vs H Q _=>∃(fa dx gl sl kd:Addr)(W:List Addr)(d:FD),vs= [.ref fa]∧aW A W H fa dx gl sl kd d∧∀H',bu H H'→Q (.bl (fD d.bits 0 [(d.g0,d.s0),(d.g1,d.s1),(d.g2,d.s2)])) H'
theorem lG:aF ["self","taken","greatest","shift","part"] ["self"] (aB jd):=⟨rfl,rfl,rfl,by decide +kernel,rfl,by decide +kernel,by decide +kernel⟩
theorem uq{A:bB}(T:Txt K mg A):dZ P w K mg base 1 A.dh ["self"] (vz A):=by
 refine T.dh.ok lG (fun vs H Q E h=> ?_) (fun cdv Ar outer s H vs Q E hr h=> ?_)
 ·obtain⟨fa,dx,gl,sl,kd,W,d,rfl,_⟩:=h
  rfl
 ·obtain⟨fa,dx,gl,sl,kd,W,d,rfl,f,k⟩:=h
  have nd:=lG.nd
  have ft:=f.fit
  refine⟨_,(ak (aQ (i:=1) nd rfl (Or.inl rfl) aA)
   (ak (dC PassesOwn.never rfl (aae rfl T.Q5 (aa (bc T.dm 4 (pv 0)) (aa (bc T.dm 5 (pv 0)) aq))) (xZ K 2 rfl (bU (aX (i:=2) nd rfl (Or.inl rfl) (Or.inl rfl)) (bU (aX (i:=3) nd rfl (Or.inl rfl) (Or.inl rfl)) lW)))
    (ak (aQ (i:=4) nd rfl (Or.inl rfl) (bf NQ (pv 2) (pv 3)))
   (ak (bC (aJ xQ (bf zp (pv 4) (pv 1)) aA (aP _))
    (au (aG lR)) aM)
   (au (aQ (i:=1) nd rfl (Or.inl rfl) (bf abp (pv 1) (pv 4)))))))
   (au (aG (qg xR (pv 1) (bf NQ aA (bc T.dm 0 (pv 0))) (aP _)))))),?_⟩
  apply cz f.ob;rfl;rfl
  apply cz f.ob;rfl;rfl
  refine vy (a:=gl) (b:=sl) rfl (bj.of f.hg) (bj.of f.hs) ?_
  have lg:∀i,i<3→∃g s,[(d.g0,d.s0),(d.g1,d.s1),(d.g2,d.s2)][i]? =some (g,s)∧ [d.g0,d.g1,d.g2][i]? =some g∧ [d.s0,d.s1,d.s2][i]? =some s∧g<65536∧s<256:=fun i hi=>by
   rcases i with _ | _ | _ | i
   ·exact YJ rfl rfl rfl ft.g0 ft.s0
   ·exact YJ rfl rfl rfl ft.g1 ft.s1
   ·exact YJ rfl rfl rfl ft.g2 ft.s2
   ·omega
  refine ou 3 (fun i σ H2=>∃(taken:Nat)(v2 v3 v4:Option V),σ= [some (.ref fa),some (.int (taken:Int)),v2,v3,v4]∧bu H H2∧fD d.bits 0 [(d.g0,d.s0),(d.g1,d.s1),(d.g2,d.s2)]=fD d.bits taken ([(d.g0,d.s0),(d.g1,d.s1),(d.g2,d.s2)].drop i))
   ⟨0,_,_,_,rfl,bu.refl _,rfl⟩ (fun i σ H2 hi ⟨_,_,_,_,_,s2,_⟩=> ?_) (fun σ H2 ⟨_,_,_,_,_,s2,_⟩=>⟨_,_,bj.of (s2 _ _ f.hg),bj.of (s2 _ _ f.hs),.inl (Nat.le_refl _)⟩) ?_ ?_
  ·obtain⟨g,sh,e1,e2,e3,e4,e5⟩:=lg i hi
   exact vy (bj.of (s2 _ _ f.hg)) (bj.of (s2 _ _ f.hs)) (jG e2) (jG e3)
  ·rintro i σ H2 v H3 hi ⟨taken,v2,v3,v4,rfl,s2,e⟩ ⟨t,x,y,rfl,ht,rfl,hx,hy⟩
   obtain⟨g,sh,e1,e2,e3,e4,e5⟩:=lg i hi
   have hx:=hx _ (bj.of (s2 _ _ f.hg))
   have hy:=hy _ (bj.of (s2 _ _ f.hs))
   rw[jG e2]at hx
   rw[jG e3]at hy
   cases hx
   cases hy
   refine nR (a:=t) rfl (iT.of aj) rfl (vq rfl (cP rfl rfl ?_))
   refine aC rfl (aC rfl (nR rfl rfl ⟨by omega,by omega,by omega⟩ ?_))
   dsimp only
   rw[Rf]
   have e7:=yI e1
   have e:=e.trans ((congrArg (fD d.bits taken) e7).trans (Pj _ _ _ _ _))
   refine aC rfl (aC rfl (nR rfl rfl rfl (aC rfl (qQ (fun c=> ?_) fun c=> ?_))))
   ·rw[aH,JN]at c
    rw[if_neg (by omega)]at e
    rw[e]at k
    exact k _ (s2.trans (az ht))
   ·rw[aH,JN]at c
    rw[if_pos (by omega)]at e
    refine aC rfl (aC rfl (cP rfl rfl ?_))
    dsimp only
    rw[aat]
    exact e42 rfl (s2.trans (az ht)) e
  ·rintro σ H2 ⟨taken,v2,v3,v4,rfl,s2,e⟩
   refine aC rfl (aC rfl (vy rfl (s2 _ _ f.ob) rfl (nR rfl rfl ⟨by omega,by have:=ft.b;omega,by decide⟩ (cP rfl rfl ?_))))
   have:=k _ s2
   rw[e,show List.drop 3 [(d.g0,d.s0),(d.g1,d.s1),(d.g2,d.s2)]= [] from rfl]at this
   unfold fD at this
   have e8:(1 :Int)*2 ^ (d.bits:Int).toNat=((2 ^ d.bits:Nat):Int):=by rw[Int.toNat_natCast];simp
   dsimp only
   rw[e8,show decide ((taken:Int)<((2 ^ d.bits:Nat):Int))=decide (taken<2 ^ d.bits) from decide_eq_decide.mpr (by omega)]
   exact this
noncomputable def GJ(A:bB):Sp:=fun vs H Q _=>∃(fa dx gl sl kd:Addr)(W:List Addr)(d:FD),vs= [.ref fa]∧aW A W H fa dx gl sl kd d∧∀H',bu H H'→Q (.bl (nA d)) H'
theorem ur:aF ["self","greatest"] ["self"] (aB qp):=⟨rfl,rfl,rfl,by decide +kernel,rfl,by decide +kernel,by decide +kernel⟩
theorem EY{A:bB}(T:Txt K mg A):dZ P w K mg base 2 A.ir ["self"] (GJ A):=by
 refine T.ir.ok ur (fun vs H Q E h=> ?_) (fun cdv Ar outer s H vs Q E hr h=> ?_)
 ·obtain⟨fa,dx,gl,sl,kd,W,d,rfl,_⟩:=h
  rfl
 ·obtain⟨fa,dx,gl,sl,kd,W,d,rfl,f,k⟩:=h
  have nd:=ur.nd
  have ft:=f.fit
  have bad:¬((d.bits=8∨d.bits=16∨d.bits=32)∧d.depth≤d.bits∧d.hf≤1∧d.tc=1)→∀H',bu H H'→Q (.bl false) H':=fun c H' s'=>by
   have:=k H' s'
   unfold nA at this
   rw[if_neg c]at this
   exact this
  refine⟨_,(ak (bC (PW.pt (vD (aJ lX (bc T.dm 0 (pv 0)) (gQ (aa aA (aa aA (aa aA aq)))) (by with_unfolding_all rfl)) (wD (aJ Ak (bc T.dm 1 (pv 0)) (bc T.dm 0 (pv 0)) (aP _)))))
    (au (aG lR)) aM)
   (ak (bC (PW.pt (vD (aJ lX (bc T.dm 2 (pv 0)) (gQ (aa aA (aa aA aq))) (by with_unfolding_all rfl)) (wD (aJ xQ (bc T.dm 3 (pv 0)) aA (aP _)))))
    (au (aG lR)) aM)
   (ak (dC PassesOwn.never rfl (ik (bc T.dm 4 (pv 0))) (aX (i:=1) nd rfl (Or.inl rfl) (Or.inl rfl))
    (au (bC (mV (oF (cC (JP T) (hr.mono (by decide)) T.jR rfl (aa (pv 1) aq))))
    (au (aG lR)) aM)))
   (au (aG (cY T.dm T.dh (uq T) (hr.mono (by decide)) (pv 0))))))),?_⟩
  apply cz f.ob;rfl;rfl
  refine⟨by decide,fun t ht=> ?_⟩
  have s1:bu H (upd H t (.tup [.int 8,.int 16,.int 32])):=az ht
  refine YJ (a:=t) rfl (.inr (iT.of aj)) rfl rfl (aC rfl ?_)
  rw[in3]
  refine qQ (fun c=>Dl (bad (by omega) _ s1)) fun c1=> ?_
  refine aC rfl (vy rfl (s1 _ _ f.ob) rfl (aC rfl (vy rfl (s1 _ _ f.ob) rfl (cP rfl rfl (aC rfl (bJ (fun c=>bad (by omega) _ s1) fun c2=> ?_))))))
  refine aC rfl (jN rfl (s1 _ _ f.ob) rfl (by decide) (fun t2 ht2=> ?_))
  have s2:bu H (upd (upd H t (.tup [.int 8,.int 16,.int 32])) t2 (.tup [.int 0,.int 1])):=s1.trans (az ht2)
  refine YJ (a:=t2) rfl (.inr (iT.of aj)) rfl rfl (aC rfl ?_)
  rw[in2]
  refine qQ (fun c=>Dl (bad (by omega) _ s2)) fun c3=> ?_
  generalize upd (upd H t (.tup [.int 8,.int 16,.int 32])) t2 (.tup [.int 0,.int 1])=H2 at *
  refine aC rfl (jN rfl (s2 _ _ f.ob) rfl rfl (aC rfl (qQ (fun c=> ?_) fun c4=> ?_)))
  ·rw[aH]at c
   exact bad (by omega) _ s2
  rw[aH]at c4
  have hr:nA d=((allOnes d.g0&&(allOnes d.g1&&allOnes d.g2))&&fD d.bits 0 [(d.g0,d.s0),(d.g1,d.s1),(d.g2,d.s2)]):=by
   unfold nA
   rw[if_pos (by omega)]
  refine aC rfl (vy rfl (s2 _ _ f.ob) rfl (cW (a:=gl) rfl ⟨_,bj.of (s2 _ _ f.hg)⟩ ?_))
  refine lu (K:=K) (xs:=nv [d.g0,d.g1,d.g2]) (fun i σ H3=>∃v1,σ= [some (.ref fa),v1]∧bu H H3∧∀j g,j<i→ [d.g0,d.g1,d.g2][j]? =some g→allOnes g=true) ⟨_,rfl,s2,fun j g hj=>absurd hj (by omega)⟩ (fun i σ H3 _ ⟨_,_,s3,_⟩=>bj.of (s3 _ _ f.hg)) ?_ ?_
  ·rintro i x σ H3 hi ⟨v1,rfl,s3,hall⟩
   obtain⟨n,hn,rfl⟩:=uf hi
   refine aC rfl (aC (a:=n) rfl (aC rfl (Vn (fun c=> ?_) fun c=> ?_)))
   ·have hb:allOnes n=false:=by simpa using c
    have he:nA d=false:=by
     rw[hr]
     rcases i with _ | _ | _ | i
     ·cases hn;rw[hb];simp
     ·cases hn;rw[hb];simp
     ·cases hn;rw[hb];simp
     ·cases hn
    have:=k _ s3
    rw[he]at this
    exact this
   ·refine aC rfl ⟨s3,fun j g hj hg=> ?_⟩
    by_cases e:j=i
    ·subst e
     rw[hn]at hg
     cases hg
     simpa using c
    ·exact hall j g (by omega) hg
  ·rintro σ H3 ⟨v1,rfl,s3,hall⟩
   have f3:=f.same s3
   refine aC rfl (vU rfl ⟨f3.ob,fa,dx,gl,sl,kd,W,d,rfl,f3,fun H4 s4=> ?_⟩)
   have:=k _ (s3.trans s4)
   rw[hr,hall 0 d.g0 (by simp[nv]) rfl,hall 1 d.g1 (by simp[nv]) rfl,hall 2 d.g2 (by simp[nv]) rfl]at this
   exact this
noncomputable def Fb(A:bB):Sp:=fun vs H Q _=>∃(fa dx gl sl kd:Addr)(W:List Addr)(d:FD)(c:Nat),vs= [.ref fa,.int (c:Int)]∧aW A W H fa dx gl sl kd d∧c<16777216∧(d.bits=8∨d.bits=16∨d.bits=32)∧∀l H',bu H H'→H l=none→H' l=some (.lst (nv (jF d c)))→Q (.ref l) H'
theorem rK:aF ["self","color","parts","number","octets","part","greatest","shift","place"] ["self","color"] (aB km):=⟨rfl,rfl,rfl,by decide +kernel,rfl,by decide +kernel,by decide +kernel⟩
theorem Ca{A:bB}(T:Txt K mg A):dZ P w K mg base 1 A.gB ["self","color"] (Fb A):=by
 refine T.gB.ok rK (fun vs H Q E h=> ?_) (fun cdv Ar outer s H vs Q E hr h=> ?_)
 ·obtain⟨fa,dx,gl,sl,kd,W,d,c,rfl,_⟩:=h
  rfl
 ·obtain⟨fa,dx,gl,sl,kd,W,d,c,rfl,f,hc,hb,k⟩:=h
  have nd:=rK.nd
  have ft:=f.fit
  refine⟨_,(ak (aQ (i:=2) nd rfl (Or.inl rfl) (gQ (aa (bf Ja (pv 1) aA) (aa (bf zp (bf Ja (pv 1) aA) aA) (aa (bf zp (pv 1) aA) aq)))))
   (ak (aQ (i:=3) nd rfl (Or.inr rfl) aA)
   (ak (dC PassesOwn.never rfl (Xd rfl T.Q5 (aa (pv 2) (aa (bc T.dm 4 (pv 0)) (aa (bc T.dm 5 (pv 0)) aq)))) (xZ K 3 rfl (bU (aX (i:=5) nd rfl (Or.inl rfl) (Or.inl rfl)) (bU (aX (i:=6) nd rfl (Or.inl rfl) (Or.inl rfl)) (bU (aX (i:=7) nd rfl (Or.inl rfl) (Or.inl rfl)) lW))))
    (au (CP (i:=3) nd rfl (Or.inr rfl) (bf NQ (bf Wv (bf eY (bf qe (pv 5) (pv 6)) aA) aA) (pv 7)) CQ)))
   (ak (Df (i:=4) rfl nd rfl rfl (Jk rfl rfl rfl rfl) (uR rfl T.jb (aa aA (aa (bc T.dm 0 (pv 0)) (aa aA aq)))) (gj (own:= [("place",8)]) (show xY ["self","color","parts","number","octets","part","greatest","shift","place"] (aB km) _ _=true by decide +kernel)) (fun _ _ _ _ _=>(aX (i:=8) nd rfl (Or.inl rfl) (Or.inr rfl))) (fun _ _ _ _ _=>jz) (fun _ _ _ _ _=>(bf zp (bf Ja (pv 3) (pv 8)) aA)))
   (ak (bC (aJ dF (bc T.dm 2 (pv 0)) aA (aP _))
    (au (aR (ZW PySem.F.plainAttrs_list PySem.F.slot_list_reverse PySem.F.type_list_reverse Oi (pv 4)))) aM)
   (au (aG (pv 4)))))))),?_⟩
  refine aC rfl (nR rfl rfl (by decide:(0 :Int)≤16) (aC rfl (nR rfl rfl (by decide:(0 :Int)≤8) (cP rfl rfl (aC rfl (nR rfl rfl (by rw[dO];simp) (fun t ht=> ?_)))))))
  dsimp only
  rw[show ((c:Int) / 2 ^ (16 :Int).toNat)=((c / 65536 :Nat):Int) from Cy c 16,show ((c:Int) / 2 ^ (8 :Int).toNat)=((c / 256 :Nat):Int) from Cy c 8,kY,kY]
  have s1:bu H (upd H t (.tup (nv [c / 65536,c / 256 % 256,c % 256]))):=az ht
  have ht1:upd H t (.tup (nv [c / 65536,c / 256 % 256,c % 256])) t=some (.tup (nv [c / 65536,c / 256 % 256,c % 256])):=aj
  show Gq _ _ _ _ (upd H t (.tup (nv [c / 65536,c / 256 % 256,c % 256])))
  generalize upd H t (.tup (nv [c / 65536,c / 256 % 256,c % 256]))=H1 at *
  refine aC rfl (aC rfl (vy rfl (s1 _ _ f.ob) rfl (aC rfl (vy rfl (s1 _ _ f.ob) rfl (e66 (a:=t) (b:=gl) (c:=sl) rfl ht1 (s1 _ _ f.hg) (s1 _ _ f.hs) rfl rfl ?_)))))
  obtain⟨fn,f0,f3,fs⟩:∃fn:Nat→Nat,fn 0=0∧fn 3=qM d c∧∀i,i<3→∃p g sh,[c / 65536,c / 256 % 256,c % 256][i]? =some p∧ [d.g0,d.g1,d.g2][i]? =some g∧ [d.s0,d.s1,d.s2][i]? =some sh∧p<256∧g<65536∧sh<256∧fn i+Sw32.scaled p g*2 ^ sh=fn (i+1):=by
   refine⟨fun i=>match i with
    | 0=>0
    | 1=>0+Sw32.scaled (c / 65536) d.g0*2 ^ d.s0
    | 2=>0+Sw32.scaled (c / 65536) d.g0*2 ^ d.s0+Sw32.scaled (c / 256 % 256) d.g1*2 ^ d.s1
    | _=>qM d c,rfl,rfl,fun i hi=> ?_⟩
   rcases i with _ | _ | _ | i
   ·exact e36 rfl rfl rfl (by omega) ft.g0 ft.s0 rfl
   ·exact e36 rfl rfl rfl (by omega) ft.g1 ft.s1 rfl
   ·exact e36 rfl rfl rfl (by omega) ft.g2 ft.s2 rfl
   ·omega
  refine ou 3 (fun i σ H2=>∃(v4 v5 v6 v7 v8:Option V),σ= [some (.ref fa),some (.int (c:Int)),some (.ref t),some (.int (fn i:Nat)),none,v5,v6,v7,none]∧bu H1 H2)
   ⟨none,none,none,none,none,by rw[f0];rfl,bu.refl _⟩ (fun i σ H2 hi ⟨_,_,_,_,_,_,s2⟩=>⟨hi,s2 _ _ ht1,s2 _ _ (s1 _ _ f.hg),s2 _ _ (s1 _ _ f.hs)⟩) (fun σ H2 ⟨_,_,_,_,_,_,s2⟩=>⟨rfl,s2 _ _ ht1,s2 _ _ (s1 _ _ f.hg),s2 _ _ (s1 _ _ f.hs)⟩) ?_ ?_
  ·rintro i σ H2 v H3 hi ⟨v4,v5,v6,v7,v8,rfl,s2⟩ ⟨t2,x,y,z,rfl,ht2,rfl,hx,hy,hz⟩
   obtain⟨p,g,sh,e1,e2,e3,e4,e5,e6,e7⟩:=fs i hi
   rw[jG e1]at hx
   rw[jG e2]at hy
   rw[jG e3]at hz
   cases hx
   cases hy
   cases hz
   refine nR (a:=t2) rfl (iT.of aj) rfl (vq rfl (vq rfl (cP rfl rfl ?_)))
   refine aC rfl (aC rfl (aC rfl (nR rfl rfl (.inl ⟨by omega,by omega⟩) (cP rfl rfl (nR rfl rfl ⟨by decide,by decide⟩ (aC rfl (nR rfl rfl ⟨by omega,by omega,?_⟩ (cP rfl rfl ?_))))))))
   ·have:(p:Int)*(g:Int)=((p*g:Nat):Int):=by simp
    have hpg:p*g≤256*65536:=Nat.mul_le_mul (by omega) (by omega)
    rw[this]
    omega
   ·dsimp only
    have e8:((p:Int)*(g:Int)+127) / 255=((Sw32.scaled p g:Nat):Int):=by unfold Sw32.scaled;simp
    rw[e8,Rf,←Int.natCast_add,e7]
    exact e51 (a:=none) (e:=none) rfl (s2.trans (az ht2))
  ·rintro σ H2 ⟨v4,v5,v6,v7,v8,rfl,s2⟩
   have YS:=s1.trans s2
   rw[f3]
   refine aC rfl (YK rfl ⟨YS _ _ f.ob,rfl,(0 :Nat),(d.bits:Int),8,d.bits / 8,rfl,aev (by omega) (by omega) (by omega),fun D hD=> ?_⟩)
   refine xr (d.bits / 8) (fun i H3=>bu H H3∧H3 D=some (.lst (nv ((List.range i).map fun j=>qM d c / 2 ^ (8*j) % 256)))) ⟨YS.trans (az hD),aj⟩ (fun i H3 hi _=>hi) (fun H3 _=>Nat.le_refl _) ?_ ?_
   ·rintro i H3 v H4 hi ⟨s3,hd⟩ ⟨rfl,rfl⟩
    refine⟨rfl,_,rfl,_,rfl,_,_,rfl,rfl,(by dsimp only;omega),_,_,rfl,rfl,_,hd,by rw[aD,List.length_map,List.length_range,dO];omega,?_,?_⟩
    ·intro b o e
     refine oth (fun q=> ?_) (s3 _ _ e)
     subst q
     exact absurd rfl (ao (YS _ _ e) hD)
    ·rw[aj,j5,bG]
     have e9:(((0 :Nat):Int)+(i:Int)*8).toNat=8*i:=by omega
     dsimp only
     rw[e9,Cy,kY]
     rfl
   ·rintro H3 ⟨s3,hd⟩
    have hDn:H D=none:=by
     by_cases q:H D=none
     ·exact q
     ·obtain⟨o,ho⟩:=Option.ne_none_iff_exists'.mp q
      exact absurd (YS _ _ ho) (by rw[hD];simp)
    refine aC rfl (jN rfl (s3 _ _ f.ob) rfl rfl (aC rfl (bJ (fun e=> ?_) fun e=> ?_)))
    ·rw[aH]at e
     refine cW rfl (.inl ⟨rfl,_,bj.of hd⟩) (nR (a:=D) rfl rfl hd ?_)
     refine aC rfl (k D _ (fun b o e=>oth (ao e hDn) (s3 _ _ e)) hDn ?_)
     rw[aj]
     unfold jF qN
     rw[if_pos (by omega)]
     simp[nv]
    ·rw[aH]at e
     refine aC rfl (k D _ s3 hDn ?_)
     unfold jF qN
     rw[if_neg (by omega)]
     exact hd
theorem Mu(c:Nat):∀kvs:List (Nat × Addr),(lY (Wh kvs) (Sum.inl (c:Int))=none∧∀q ∈ kvs,q.1≠c)∨∃p,lY (Wh kvs) (Sum.inl (c:Int))=some (.ref p)∧(c,p) ∈ kvs
 | []=> .inl ⟨rfl,fun q hq=>by simp at hq⟩
 | (a,b)::r=>by
  by_cases e:a=c
  ·subst e
   exact .inr ⟨b,jA (p:=(Sum.inl (a:Int),V.ref b)) rfl,by simp⟩
  ·have hv:lY (Wh ((a,b)::r)) (Sum.inl (c:Int))=lY (Wh r) (Sum.inl (c:Int)):=jB (p:=(Sum.inl (a:Int),V.ref b)) (fun q=>e (by injection q with q;omega))
   rcases Mu c r with ⟨h1,h2⟩ | ⟨p,h1,h2⟩
   ·refine .inl ⟨hv.trans h1,fun q hq=> ?_⟩
    rcases List.mem_cons.mp hq with rfl | hq
    ·exact e
    ·exact h2 q hq
   ·exact .inr ⟨p,hv.trans h1,List.mem_cons_of_mem _ h2⟩
theorem Xu{kvs:List (Key × V)}{k:Key}{v:V}(h:lY kvs k=none):putK kvs k v=kvs ++ [(k,v)]:=by
 unfold putK
 rw[Dg,h]
 rfl
theorem Vv{l:List Nat}{c:Nat}(h:l.Nodup)(hl:∀q ∈ l,q<16777216)(hc:c<16777216)(hn:c ∉ l):l.length<16777216:=by
 have:=List.Nodup.length_le_of_subset (l₁:=c::l) (l₂:=List.range 16777216) (List.nodup_cons.mpr ⟨hn,h⟩) (fun q hq=>by
  rcases List.mem_cons.mp hq with rfl | hq
  ·exact List.mem_range.mpr hc
  ·exact List.mem_range.mpr (hl q hq))
 rw[List.length_range,List.length_cons]at this
 omega
noncomputable def Mv(A:bB):Sp:=fun vs H Q _=>∃(fa dx gl sl kd:Addr)(W:List Addr)(d:FD)(c:Nat),vs= [.ref fa,.int (c:Int)]∧aW A W H fa dx gl sl kd d∧(∀z ∈ W,∃o,H z=some o)∧c<16777216∧(d.bits=8∨d.bits=16∨d.bits=32)∧∀l H',Kp [kd] H H'→aW A W H' fa dx gl sl kd d→H' l=some (.lst (nv (jF d c)))→l ∉ W→Q (.ref l) H'
theorem yK:aF ["self","color"] ["self","color"] (aB wM):=⟨rfl,rfl,rfl,by decide +kernel,rfl,by decide +kernel,by decide +kernel⟩
theorem iJ{A:bB}(T:Txt K mg A):dZ P w K mg base 2 A.dX ["self","color"] (Mv A):=by
 refine T.dX.ok yK (fun vs H Q E h=> ?_) (fun cdv Ar outer s H vs Q E hr h=> ?_)
 ·obtain⟨fa,dx,gl,sl,kd,W,d,c,rfl,_⟩:=h
  rfl
 ·obtain⟨fa,dx,gl,sl,kd,W,d,c,rfl,f,hW,hc,hb,k⟩:=h
  have nd:=yK.nd
  obtain⟨kvs,hk,hnd,hal⟩:=id f.kn
  refine⟨_,(ak (bC (Zo (RQ (Hx hr) (pv 1) (bc T.dm 6 (pv 0))))
    (au (QF (Hx hr) (bc T.dm 6 (pv 0)) (pv 1) (dJ T.dm T.gB (Ca T) (hr.mono (by decide)) (pv 0) (aa (pv 1) aq)) rfl)) aM)
   (au (aG (QD (Hx hr) (bc T.dm 6 (pv 0)) (pv 1) (fun _ _=>rfl))))),?_⟩
  refine aC rfl (aC rfl (vy rfl f.ob rfl (cP (a:=kd) rfl (zE.k (k:=Sum.inl (c:Int)) hk) (aC rfl ?_))))
  rcases Mu c kvs with ⟨h1,h2⟩ | ⟨p,h1,h2⟩
  ·rw[h1]
   refine Vn (fun _=> ?_) (fun e=>nomatch e)
   refine aC rfl (vU rfl ⟨f.ob,_,rfl,fa,dx,gl,sl,kd,W,d,c,rfl,f,hc,hb,fun l H1 s1 hl hl1=> ?_⟩)
   have f1:=f.same s1
   have hk1:=s1 _ _ hk
   have hlk:l≠kd:=f1.Ez hl1
   have hlW:l ∉ W:=fun q=>by
    obtain⟨o,ho⟩:=hW l q
    rw[hl]at ho;cases ho
   have hlen:(Wh kvs).length<sizeLine:=by
    rw[List.length_map,dO]
    have:=Vv (c:=c) hnd (fun q hq=>by obtain⟨z,hz,rfl⟩:=List.mem_map.mp hq;exact(hal z hz).1) hc (fun q=>by obtain⟨z,hz,e⟩:=List.mem_map.mp q;exact h2 z hz e)
    rw[List.length_map]at this
    exact this
   refine aC rfl (vy rfl f1.ob rfl (aC rfl (cP (a:=kd) rfl (RM.k (k:=Sum.inl (c:Int)) hk1 hlen) ?_)))
   rw[Xu h1]
   have e1:Wh kvs ++ [(Sum.inl (c:Int),V.ref l)]=Wh (kvs ++ [(c,l)]):=by simp
   rw[e1]
   have f2:aW A W (upd H1 kd (.dK (Wh (kvs ++ [(c,l)])))) fa dx gl sl kd d:=by
    refine⟨oth f1.ab0 f1.ob,oth (f1.Ez f1.hg) f1.hg,oth (f1.Ez f1.hs) f1.hs,f1.ng,f1.ns,⟨kvs ++ [(c,l)],aj,?_,fun q hq=> ?_⟩,f.fit⟩
    ·rw[List.map_append]
     exact Jm hnd (fun q=>by obtain⟨z,hz,e⟩:=List.mem_map.mp q;exact h2 z hz e)
    ·rcases List.mem_append.mp hq with hq | hq
     ·obtain⟨q1,q2,q3⟩:=hal q hq
      exact⟨q1,oth (f1.Ez (s1 _ _ q2)) (s1 _ _ q2),q3⟩
     ·simp at hq
      subst hq
      exact⟨hc,oth hlk hl1,hlW⟩
   refine aC rfl (vy rfl f2.ob rfl (aC rfl (cP (a:=kd) (b:= .ref l) rfl ?_ ?_)))
   ·have:=zE.k (k:=Sum.inl (c:Int)) (aj (H:=H1) (a:=kd) (o:= .dK (Wh (kvs ++ [(c,l)]))))
    rw[←e1,Hs _ _ _ _ h1,if_pos rfl,e1]at this
    exact this
   ·exact k l _ ((s1.kp _).trans cH) f2 (oth hlk hl1) hlW
  ·rw[h1]
   refine Vn (fun e=>nomatch e) (fun _=> ?_)
   refine aC rfl (vy rfl f.ob rfl (aC rfl (cP (a:=kd) (b:= .ref p) rfl ?_ ?_)))
   ·have:=zE.k (k:=Sum.inl (c:Int)) hk
    rw[h1]at this
    exact this
   ·obtain⟨q1,q2,q3⟩:=hal _ h2
    exact k p H (Kp.refl _ _) f q2 q3
noncomputable abbrev pY:List Nat:= [32,24,0,1,0,255,0,255,0,255,16,8,0,0,0,0]
theorem qU{l:List Nat}{n:Nat}(h:∀x ∈ l,x<n)(hn:0<n)(i:Nat):l.getD i 0<n:=by
 rw[List.getD_eq_getElem?_getD]
 cases e:l[i]? with
 | none=>exact hn
 | some a=>exact h a (List.mem_of_getElem? e)
theorem aau{b:List Nat}(h:∀x ∈ b,x<256):(fdOf b).Fit:=
 ⟨qU h (by decide) _,qU h (by decide) _,qU h (by decide) _,qU h (by decide) _,oh h _,oh h _,oh h _,qU h (by decide) _,qU h (by decide) _,qU h (by decide) _⟩
noncomputable def Pk(A:bB):Sp:=fun vs H Q _=>∃(p dx a:Addr)(W:List Addr)(bs:List Nat),vs= [.ref p,.ref a]∧H p=some (Io A.lV lU dx [])∧(H a=some (.lst (nv bs))∨(a=A.lA∧bs=pY))∧13≤bs.length∧(∀x ∈ bs,x<256)∧(∀z ∈ W,∃o,H z=some o)∧∀gl sl kd H',H gl=none→H sl=none→H kd=none→Kp [p] H H'→aW A W H' p dx gl sl kd (fdOf bs)→Q .non H'
theorem Bh:aF ["self","octets","place"] ["self","octets"] (aB uV):=⟨rfl,rfl,rfl,by decide +kernel,rfl,by decide +kernel,by decide +kernel⟩
theorem Bj{A:bB}(T:Txt K mg A):dZ P w K mg base 2 A.mF ["self","octets"] (Pk A):=by
 refine T.mF.ok Bh (fun vs H Q E h=> ?_) (fun cdv Ar outer s H vs Q E hr h=> ?_)
 ·obtain⟨p,dx,a,W,bs,rfl,_⟩:=h
  rfl
 ·obtain⟨p,dx,a,W,bs,rfl,hp,ha,hl,hlt,hW,k⟩:=h
  have nd:=Bh.nd
  have nth:∀i,i<13→Oe (nv bs) ((i:Nat):Int)=some (.int ((bs.getD i 0 :Nat):Int)):=fun i hi=>aV (vh (by omega))
  let Sq:Hp→Prop:=fun H'=>H' a=some (.lst (nv bs))∨iT K H' a (nv bs)
  have sq0:Sq H:=by
   rcases ha with ha | ⟨rfl,rfl⟩
   ·exact .inl ha
   ·exact .inr (T.mj H)
  have sqk:∀H',Kp [p] H H'→Sq H':=fun H' kp=>by
   rcases ha with ha | ⟨rfl,rfl⟩
   ·exact .inl (kp _ _ ha (by simpa using aN ha hp (fun e=>nomatch e)))
   ·exact .inr (T.mj H')
  have ix:∀H',Sq H'→∀(i:Nat)(R:VK),i<13→R (.int ((bs.getD i 0 :Nat):Int)) H'→(ZP K (.ref a) (.int (i:Int)) H' R∨ZQ K (.ref a) (.int (i:Int)) H' R):=fun H' sq i R hi hR=>by
   rcases sq with sq | sq
   ·exact .inl ⟨a,_,_,_,rfl,rfl,bj.of sq,nth i hi,hR⟩
   ·exact .inr ⟨a,_,_,_,rfl,rfl,sq,nth i hi,hR⟩
  have sl:∀H',Sq H'→∀(i n:Nat)(R:VK),0<i→(∀t o,H' t=none→(o=HO.lst (nv ((bs.drop i).take n))∨o=HO.tup (nv ((bs.drop i).take n)))→R (.ref t) (upd H' t o))→(Uj K (.ref a) (some (i:Int)) (some ((i+n:Nat):Int)) H' R∨ZL K (.ref a) (some (i:Int)) (some ((i+n:Nat):Int)) H' R):=fun H' sq i n R hi hR=>by
   rcases sq with sq | sq
   ·refine .inl ⟨a,_,rfl,bj.of sq,fun t ht=> ?_⟩
    rw[dg,dY,fG,Nat.add_sub_cancel_left]
    exact hR t _ ht (.inl rfl)
   ·refine .inr ⟨a,_,rfl,sq,fun q=> ?_,fun t ht=> ?_⟩
    ·have:=q.1
     rw[mC,aD]at this
     omega
    ·rw[dg,dY,fG,Nat.add_sub_cancel_left]
     exact hR t _ ht (.inr rfl)
  refine⟨_,(ak (dw T.dm 0 (pv 0) (bL ((aO K).or (jC K)) (pv 1) aA (fun _ _=>rfl)))
   (ak (dw T.dm 1 (pv 0) (bL ((aO K).or (jC K)) (pv 1) aA (fun _ _=>rfl)))
   (ak (dw T.dm 2 (pv 0) (bL ((aO K).or (jC K)) (pv 1) aA (fun _ _=>rfl)))
   (ak (dw T.dm 3 (pv 0) (bL ((aO K).or (jC K)) (pv 1) aA (fun _ _=>rfl)))
   (ak (dw T.dm 4 (pv 0) (xW rfl nd (zg (gQ (aa aA (aa aA (aa aA aq))))) (gj (own:= [("place",2)]) (show xY ["self","octets","place"] (aB uV) _ _=true by decide +kernel)) (fun _ _ _ _ _=>(aX (i:=2) nd rfl (Or.inl rfl) (Or.inr rfl))) (fun _ _ _ _ _=>jz) (fun _ _ _ _ _=>(cC (cX T) (hr.mono (by decide)) T.bY rfl (aa (bQ ((cA K).or (QX K)) (pv 1) (bz (pv 2)) (bz (bf eY (pv 2) aA))) aq)))))
   (ak (dw T.dm 5 (pv 0) (zu qj rfl T.JB PyProof.Rows.boot_list (aa (bQ ((cA K).or (QX K)) (pv 1) (bz aA) (bz aA)) aq)))
   (au (dw T.dm 6 (pv 0) KY)))))))),?_⟩
  refine aC rfl (ix H sq0 0 _ (by decide) ⟨_,rfl,_,_,_,rfl,hp,rfl,?_⟩)
  refine aC rfl (ix _ (sqk _ cH) 1 _ (by decide) ⟨_,rfl,_,_,_,rfl,aj,rfl,?_⟩)
  rw[bM]
  refine aC rfl (ix _ (sqk _ cH) 2 _ (by decide) ⟨_,rfl,_,_,_,rfl,aj,rfl,?_⟩)
  rw[bM]
  refine aC rfl (ix _ (sqk _ cH) 3 _ (by decide) ⟨_,rfl,_,_,_,rfl,aj,rfl,?_⟩)
  rw[bM]
  have k4:Kp [p] H (upd H p (Io A.lV lU dx [.int ((bs.getD 0 0 :Nat):Int),.int ((bs.getD 1 0 :Nat):Int),.int ((bs.getD 2 0 :Nat):Int),.int ((bs.getD 3 0 :Nat):Int)])):=cH
  have o4:(upd H p (Io A.lV lU dx [.int ((bs.getD 0 0 :Nat):Int),.int ((bs.getD 1 0 :Nat):Int),.int ((bs.getD 2 0 :Nat):Int),.int ((bs.getD 3 0 :Nat):Int)])) p=_:=aj
  show Gq _ _ _ _ (upd H p (Io A.lV lU dx [.int ((bs.getD 0 0 :Nat):Int),.int ((bs.getD 1 0 :Nat):Int),.int ((bs.getD 2 0 :Nat):Int),.int ((bs.getD 3 0 :Nat):Int)]))
  generalize upd H p _=H4 at *
  refine⟨by rw[dO];simp,fun t ht=>⟨t,rfl,⟨_,iT.of aj⟩,fun D hD=> ?_⟩⟩
  obtain⟨hD1,hDt⟩:=aU hD
  have tri:∀i:Nat,i<3→ [V.int 4,V.int 6,V.int 8][i]? =some (.int ((4+2*i:Nat):Int)):=fun i hi=>by
   rcases i with _ | _ | _ | i
   ·rfl
   ·rfl
   ·rfl
   ·omega
  refine xr 3 (fun i H5=>bu H4 H5∧H5 t=some (.tup [.int 4,.int 6,.int 8])∧H5 D=some (.lst (nv ((List.range i).map fun j=>Sw32.field bs (4+2*j) 2)))) ⟨(az ht).trans (az hD),old hD aj,aj⟩ (fun i H5 hi ⟨_,h2,_⟩=>⟨_,_,iT.of h2,tri i hi⟩) (fun H5 ⟨_,h2,_⟩=>⟨_,iT.of h2,Nat.le_refl _⟩) ?_ ?_
  ·rintro i H5 v H6 hi ⟨s5,h2,hd⟩ ⟨rfl,hv⟩
   have hv:=hv _ (iT.of h2)
   rw[tri i hi]at hv
   cases hv
   refine⟨rfl,aC rfl (aC rfl (aC rfl (aC rfl (cP rfl rfl (aC rfl ?_)))))⟩
   refine sl _ (sqk _ (k4.trans (s5.kp _))) (4+2*i) 2 _ (by omega) fun t2 o ht2 ho=>⟨t2,(bs.drop (4+2*i)).take 2,rfl,?_,?_⟩
   ·rcases ho with rfl | rfl
    ·exact .inl aj
    ·exact .inr aj
   ·refine e14 (old ht2 hd) (by rw[aD,List.length_map,List.length_range,dO];omega) (fun b o e=>oth (ao e hD1) (old ht2 (s5 _ _ e))) (oth hDt.symm (old ht2 h2)) ?_
    rw[aj,j5,bG]
    rfl
  ·rintro H5 ⟨s5,h2,hd⟩
   have k5:=k4.trans (s5.kp _)
   refine aC rfl (lJ rfl (s5 _ _ o4) rfl ?_)
   have hDp:D≠p:=(ao o4 hD1).symm
   have k6:Kp [p] H (upd H5 p (Io A.lV lU dx [.int ((bs.getD 0 0 :Nat):Int),.int ((bs.getD 1 0 :Nat):Int),.int ((bs.getD 2 0 :Nat):Int),.int ((bs.getD 3 0 :Nat):Int),.ref D])):=k5.trans cH
   have o6:(upd H5 p (Io A.lV lU dx [.int ((bs.getD 0 0 :Nat):Int),.int ((bs.getD 1 0 :Nat):Int),.int ((bs.getD 2 0 :Nat):Int),.int ((bs.getD 3 0 :Nat):Int),.ref D])) p=_:=aj
   have d6:(upd H5 p (Io A.lV lU dx [.int ((bs.getD 0 0 :Nat):Int),.int ((bs.getD 1 0 :Nat):Int),.int ((bs.getD 2 0 :Nat):Int),.int ((bs.getD 3 0 :Nat):Int),.ref D])) D=_:=oth hDp hd
   show Gq _ _ _ _ (upd H5 p (Io A.lV lU dx [.int ((bs.getD 0 0 :Nat):Int),.int ((bs.getD 1 0 :Nat):Int),.int ((bs.getD 2 0 :Nat):Int),.int ((bs.getD 3 0 :Nat):Int),.ref D]))
   generalize upd H5 p _=H6 at *
   have hDH:H D=none:=by
    by_cases q:H D=none
    ·exact q
    ·obtain⟨o,ho⟩:=Option.ne_none_iff_exists'.mp q
     exact absurd (k4 _ _ ho (by simpa using hDp)) (by rw[hD1];simp)
   have fr:∀ {z:Addr},H6 z=none→H z=none:=fun{z}hz=>by
    by_cases q:H z=none
    ·exact q
    ·obtain⟨o,ho⟩:=Option.ne_none_iff_exists'.mp q
     exact absurd (k6 _ _ ho (by simpa using (ao o6 hz).symm)) (by rw[hz];simp)
   refine aC rfl (aC rfl (aC rfl ?_))
   refine sl _ (sqk _ k6) 10 3 _ (by omega) fun t2 o ht2 ho=>⟨t2,nv ((bs.drop 10).take 3),rfl,?_,fun l2 hl2=> ?_⟩
   ·rcases ho with rfl | rfl
    ·exact .inl (bj.of aj)
    ·exact .inr (iT.of aj)
   obtain⟨Xv,ahD⟩:=aU hl2
   refine aC rfl (lJ rfl (old hl2 (old ht2 o6)) rfl (fun kd hkd=> ?_))
   refine aC rfl (lJ rfl (old hkd aj) rfl ?_)
   obtain⟨hk1,hkp⟩:=aU hkd
   obtain⟨hk2,hkl⟩:=aU hk1
   obtain⟨hk3,_⟩:=aU hk2
   have hlp:l2≠p:=(ao o6 Xv).symm
   have hDl:D≠l2:=ao d6 Xv
   have hDk:D≠kd:=ao d6 hk3
   have out:∀z ∈ W,∀ {b:Addr},H b=none→b≠z:=fun z hz b hb e=>by
    obtain⟨o,ho⟩:=hW z hz
    rw[←e,hb]at ho
    cases ho
   have e3:(bs.drop 10).take 3= [bs.getD 10 0,bs.getD 11 0,bs.getD 12 0]:=by
    rw[yI (a:=bs.getD 10 0) (by rw[List.getD_eq_getElem?_getD,List.getElem?_eq_getElem (by omega)];rfl),yI (a:=bs.getD 11 0) (by rw[List.getD_eq_getElem?_getD,List.getElem?_eq_getElem (by omega)];rfl),yI (a:=bs.getD 12 0) (by rw[List.getD_eq_getElem?_getD,List.getElem?_eq_getElem (by omega)];rfl)]
    rfl
   refine k D l2 kd _ hDH (fr Xv) (fr hk3) (fun b o e n=>oth (by simpa using n) (old hkd (oth (by simpa using n) (old hl2 (old ht2 (k6 _ _ e n)))))) ⟨aj,?_,?_,fun q=>out D q hDH rfl,fun q=>out l2 q (fr Xv) rfl,⟨[],?_,List.nodup_nil,fun q hq=>by simp at hq⟩,aau hlt⟩
   ·exact oth hDp (old hkd (oth hDp (old hl2 (old ht2 d6))))
   ·refine oth hlp (old hkd (oth hlp ?_))
    rw[aj,e3]
    rfl
   ·exact oth hkp aj
noncomputable def pC(H:Hp)(a:Addr)(rows:List (List Nat)):Prop:=∃rs:List Addr,H a=some (.lst (rs.map V.ref))∧P2 (fun r row=>H r=some (.lst (nv row))) rs rows
theorem aW.alive {A:bB} {W:List Addr} {H H':Hp} {fa dx gl sl kd:Addr} {d:FD} (f:aW A W H' fa dx gl sl kd d) (kp:Kp [kd] H H') {z:Addr} (h:∃o,H z=some o):∃o,H' z=some o:=by
 obtain⟨kvs,hk,_⟩:=f.kn
 by_cases e:z=kd
 ·exact⟨_,e▸hk⟩
 ·obtain⟨o,h⟩:=h
  exact⟨o,kp _ _ h (by simpa using e)⟩
theorem aW.stay {A:bB} {W:List Addr} {H H':Hp} {fa dx gl sl kd:Addr} {d:FD} (f:aW A W H fa dx gl sl kd d) (kp:Kp [kd] H H') {z:Addr} {xs:List V} (h:H z=some (.lst xs)):H' z=some (.lst xs):=kp _ _ h (by simpa using f.Ez h)
theorem pC.stay {H H':Hp} {a kd:Addr} {rows:List (List Nat)} (r:pC H a rows) (hk:∀ {z:Addr}{xs:List V},H z=some (.lst xs)→H' z=some (.lst xs)):pC H' a rows:=by
 obtain⟨rs,h1,h2⟩:=r
 exact aC (a:=rs) (hk h1) (h2.imp fun a b q=>hk q)
theorem fu{d:FD}(h:d.bits=8∨d.bits=16∨d.bits=32)(c:Nat):(jF d c).length≤4:=by
 unfold jF qN
 split<;>simp<;>omega
theorem nM{d:FD}(h:d.bits=8∨d.bits=16∨d.bits=32):∀l:List Nat,(l.flatMap (jF d)).length≤4*l.length
 | []=>by simp
 | c::l=>by
  have h1:=fu h c
  have h2:=nM h l
  rw[List.flatMap_cons,List.length_append,List.length_cons]
  omega
theorem yL(rows:List (List Nat))(i:Nat):(rows.take i).flatten.length≤rows.flatten.length:=by
 conv=>rhs;rw[←List.take_append_drop i rows,List.flatten_append,List.length_append]
 omega
noncomputable abbrev sH(d:FD):Prop:=d.bits=8∨d.bits=16∨d.bits=32
noncomputable def Pn(A:bB)(W:List Addr)(H:Hp)(fa dx gl sl kd:Addr)(d:FD)(bs:List Nat)(Q:VK):Prop:=∀l H',Kp [kd] H H'→H l=none→aW A (l::W) H' fa dx gl sl kd d→H' l=some (.lst (nv bs))→Q (.ref l) H'
noncomputable def GK(A:bB):Sp:=fun vs H Q _=>∃(a fa dx gl sl kd:Addr)(W:List Addr)(d:FD)(rows:List (List Nat)),vs= [.ref a,.ref fa]∧pC H a rows∧aW A W H fa dx gl sl kd d∧(∀z ∈ W,∃o,H z=some o)∧sH d∧(∀row ∈ rows,∀c ∈ row,c<16777216)∧rows.flatten.length≤307200∧Pn A W H fa dx gl sl kd d (rows.flatten.flatMap (jF d)) Q
theorem uv:aF ["rows","form","octets","row","color"] ["rows","form"] (aB qt):=⟨rfl,rfl,rfl,by decide +kernel,rfl,by decide +kernel,by decide +kernel⟩
theorem uw{A:bB}(T:Txt K mg A):dZ P w K mg base 3 A.gf ["rows","form"] (GK A):=by
 refine T.gf.ok uv (fun vs H Q E h=> ?_) (fun cdv Ar outer s H vs Q E hr h=> ?_)
 ·obtain⟨a,fa,dx,gl,sl,kd,W,d,rows,rfl,_⟩:=h
  rfl
 ·obtain⟨a,fa,dx,gl,sl,kd,W,d,rows,rfl,Rg,f,hW,hb,hc,hn,k⟩:=h
  have nd:=uv.nd
  obtain⟨rs,ha,p⟩:=Rg
  refine⟨_,(ak (aQ (i:=2) nd rfl (Or.inl rfl) (cG aq))
   (ak (dC PassesOwn.never rfl (ik (pv 0)) (aX (i:=3) nd rfl (Or.inl rfl) (Or.inl rfl))
    (au (dC PassesOwn.never rfl (ik (pv 3)) (aX (i:=4) nd rfl (Or.inl rfl) (Or.inl rfl))
    (au (aR (fV PySem.F.plainAttrs_list PySem.F.slot_list_extend PySem.F.type_list_extend d7 (pv 2) (aa (dJ T.dm T.dX (iJ T) (hr.mono (by decide)) (pv 1) (aa (pv 4) aq)) aq)))))))
   (au (aG (pv 2))))),?_⟩
  refine⟨by decide,fun l hl=> ?_⟩
  have f1:aW A (l::W) (upd H l (.lst [])) fa dx gl sl kd d:=(f.add hl).same (az hl)
  have a1:∀ {H2:Hp}{b:Addr}{xs:List V},Kp [kd] H H2→H b=some (.lst xs)→H2 b=some (.lst xs):=fun kp e=>f.stay kp e
  refine aC rfl (cW (a:=a) rfl ⟨_,bj.of (old hl ha)⟩ ?_)
  refine lu (K:=K) (xs:=rs.map V.ref) (fun i σ H2=>∃v3 v4,σ= [some (.ref a),some (.ref fa),some (.ref l),v3,v4]∧Kp [kd] H H2∧aW A (l::W) H2 fa dx gl sl kd d∧H2 l=some (.lst (nv ((rows.take i).flatten.flatMap (jF d))))) ⟨_,_,rfl,(az hl).kp _,f1,aj⟩ (fun i σ H2 _ ⟨_,_,_,kp,_⟩=>bj.of (a1 kp ha)) ?_ ?_
  ·rintro i x σ H2 hi ⟨v3,v4,rfl,kp,f2,hl2⟩
   rw[List.getElem?_map]at hi
   obtain⟨r,hr1,rfl⟩:=Option.map_eq_some_iff.mp hi
   obtain⟨row,hrow,hrr⟩:=p.get hr1
   refine aC rfl (cW (a:=r) rfl ⟨_,bj.of (a1 kp hrr)⟩ ?_)
   refine lu (K:=K) (xs:=nv row) (fun j σ H3=>∃v4,σ= [some (.ref a),some (.ref fa),some (.ref l),some (.ref r),v4]∧Kp [kd] H H3∧aW A (l::W) H3 fa dx gl sl kd d∧H3 l=some (.lst (nv (((rows.take i).flatten++row.take j).flatMap (jF d))))) ⟨_,rfl,kp,f2,by rw[List.take_zero,List.append_nil];exact hl2⟩ (fun i σ H2 _ ⟨_,_,kp,_⟩=>bj.of (a1 kp hrr)) ?_ ?_
   ·rintro j x σ H3 hj ⟨v4,rfl,ig,f3,hl3⟩
    obtain⟨c,hcj,rfl⟩:=uf hj
    refine cW rfl (.inl ⟨rfl,_,bj.of hl3⟩) (aC rfl (vU rfl ⟨f3.ob,_,rfl,fa,dx,gl,sl,kd,l::W,d,c,rfl,f3,?_,hc row (List.mem_of_getElem? hrow) c (List.mem_of_getElem? hcj),hb,fun b H4 kp4 f4 hb4 hbn=> ?_⟩))
    ·intro z hz
     rcases List.mem_cons.mp hz with rfl | hz
     ·exact⟨_,hl3⟩
     ·exact f3.alive ig (hW z hz)
    ·have Tr:=f3.stay kp4 hl3
     refine Em (a:=l) (b:=b) rfl rfl Tr hb4 ?_ ?_
     ·rw[aD,aD,dO]
      have h1:=nM hb ((rows.take i).flatten++row.take j)
      have h2:=fu hb c
      have h3:((rows.take i).flatten++row.take j).length≤rows.flatten.length:=by
       have:=yL rows (i+1)
       rw[take_snoc hrow,List.flatten_append,List.length_append]at this
       rw[List.length_append,List.length_take]
       rw[show [row].flatten=row by simp]at this
       omega
      omega
     ·refine e13 rfl (fun b o e n=>oth (ao e hl) (kp4 b o (ig b o e n) n)) (f4.at Tr (by simp)) ?_
      rw[aj,take_snoc hcj,←List.append_assoc,List.flatMap_append,bG]
      simp[bG]
   ·rintro σ H3 ⟨v4,rfl,ig,f3,hl3⟩
    refine nR rfl ig f3 ?_
    rw[aD,List.take_length]at hl3
    rw[take_snoc hrow,List.flatten_append]
    simpa using hl3
  ·rintro σ H2 ⟨v3,v4,rfl,kp,f2,hl2⟩
   rw[List.length_map,p.len,List.take_length]at hl2
   exact aC rfl (k l H2 kp hl f2 hl2)
noncomputable abbrev Rh(t:Sg):List V:=nv [t.1,t.2.1,t.2.2.1,t.2.2.2]
noncomputable def sS(H:Hp)(l:Addr)(ss:List Sg):Prop:=∃ts:List Addr,H l=some (.lst (ts.map V.ref))∧P2 (fun t g=>H t=some (.tup (Rh g))) ts ss
theorem sS.stay {H H':Hp} {l kd:Addr} {ss:List Sg} {kvs:List (Key × V)} (r:sS H l ss) (kp:Kp [kd] H H') (hk:H kd=some (.dK kvs)):sS H' l ss:=by
 obtain⟨ts,h1,h2⟩:=r
 exact⟨ts,kp _ _ h1 (by simpa using aN h1 hk (fun e=>nomatch e)),h2.imp fun a b q=>kp _ _ q (by simpa using aN q hk (fun e=>nomatch e))⟩
theorem sS.same {H H':Hp} {l:Addr} {ss:List Sg} (r:sS H l ss) (s:bu H H'):sS H' l ss:=by
 obtain⟨ts,h1,h2⟩:=r
 exact⟨ts,s _ _ h1,h2.imp fun a b q=>s _ _ q⟩
theorem Mw{row:List Nat}{st i c:Nat}(h:∀j,st≤j→j<i→row[j]? =some c)(h1:st≤i)(h2:i≤row.length):row.drop st=List.replicate (i-st) c++row.drop i:=by
 apply List.ext_getElem?
 intro j
 by_cases e:j<i-st
 ·rw[List.getElem?_append_left (by rw[List.length_replicate];exact e),List.getElem?_drop,h (st+j) (by omega) (by omega),List.getElem?_replicate,if_pos e]
 ·rw[List.getElem?_append_right (by rw[List.length_replicate];omega),List.length_replicate,List.getElem?_drop,List.getElem?_drop]
  congr 1
  omega
theorem SJ{row:List Nat}{c:Nat}:((row.map fun(n:Nat)=>(n:Int)).count (c:Int))=row.length↔row=List.replicate row.length c:=by
 have hl:(row.map fun(n:Nat)=>(n:Int)).length=row.length:=by simp
 rw[←hl,List.count_eq_length,hl,List.eq_replicate_iff]
 constructor
 ·intro h
  refine⟨rfl,fun b hb=> ?_⟩
  have:=h (b:Int) (List.mem_map.mpr ⟨b,hb,rfl⟩)
  omega
 ·rintro⟨_,h⟩ b hb
  obtain⟨x,hx,rfl⟩:=List.mem_map.mp hb
  rw[h x hx]
noncomputable def Fd(A:bB):Sp:=fun vs H Q _=>∃(r:Addr)(y:Nat)(row:List Nat),vs= [.ref r,.int (y:Int)]∧H r=some (.lst (nv row))∧row≠ []∧row.length≤640∧∀l H',bu H H'→H l=none→sS H' l (Fs.lM y 0 row)→Q (.ref l) H'
theorem rM:aF ["row","y","stretches","start","x","color"] ["row","y"] (aB oR):=⟨rfl,rfl,rfl,by decide +kernel,rfl,by decide +kernel,by decide +kernel⟩
theorem Cd{A:bB}(T:Txt K mg A):dZ P w K mg base 1 A.gC ["row","y"] (Fd A):=by
 refine T.gC.ok rM (fun vs H Q E h=> ?_) (fun cdv Ar outer s H vs Q E hr h=> ?_)
 ·obtain⟨r,y,row,rfl,_⟩:=h
  rfl
 ·obtain⟨r,y,row,rfl,hr1,hne,hlen,k⟩:=h
  have nd:=rM.nd
  obtain⟨c0,rest,hrow⟩:∃c0 rest,row=c0::rest:=by
   cases row with
   | nil=>exact absurd rfl hne
   | cons c r=>exact⟨c,r,rfl⟩
  have h0:row[0]? =some c0:=by rw[hrow];rfl
  refine⟨_,(ak (bC (aJ dF (fV PySem.F.plainAttrs_list PySem.F.slot_list_count PySem.F.type_list_count RX (pv 0) (aa (bL (aO K) (pv 0) aA (fun _ _=>rfl)) aq)) (bO bA rfl T.gM PySem.boot_len (aa (pv 0) aq)) (aP _))
    (au (aG (cG (aa (gQ (aa (bL (aO K) (pv 0) aA (fun _ _=>rfl)) (aa aA (aa (pv 1) (aa (bO bA rfl T.gM PySem.boot_len (aa (pv 0) aq)) aq))))) aq)))) aM)
   (ak (aQ (i:=2) nd rfl (Or.inl rfl) (cG aq))
   (ak (aQ (i:=3) nd rfl (Or.inl rfl) aA)
   (ak (dC PassesOwn.never rfl (QL rfl T.tX (aa (pv 0) aq)) (xZ K 2 rfl (bU (aX (i:=4) nd rfl (Or.inl rfl) (Or.inl rfl)) (bU (aX (i:=5) nd rfl (Or.inl rfl) (Or.inl rfl)) lW)))
    (au (bC (aJ xQ (pv 5) (bL (aO K) (pv 0) (pv 3) (fun _ _=>rfl)) (aP _))
    (ak (aR (fV PySem.F.plainAttrs_list PySem.F.slot_list_append PySem.F.type_list_append ji (pv 2) (aa (gQ (aa (bL (aO K) (pv 0) (pv 3) (fun _ _=>rfl)) (aa (pv 3) (aa (pv 1) (aa (bf oG (pv 4) (pv 3)) aq))))) aq)))
   (au (aQ (i:=3) nd rfl (Or.inl rfl) (pv 4)))) aM)))
   (ak (aR (fV PySem.F.plainAttrs_list PySem.F.slot_list_append PySem.F.type_list_append ji (pv 2) (aa (gQ (aa (bL (aO K) (pv 0) (pv 3) (fun _ _=>rfl)) (aa (pv 3) (aa (pv 1) (aa (bf oG (bO bA rfl T.gM PySem.boot_len (aa (pv 0) aq)) (pv 3)) aq))))) aq)))
   (au (aG (pv 2)))))))),?_⟩
  refine cW rfl (.inl ⟨rfl,_,bj.of hr1⟩) (aC rfl (jN (a:=r) rfl rfl (bj.of hr1) (aV (j:=0) (jG h0)) (lJ (a:=r) (b:=(row.map fun(n:Nat)=>(n:Int))) rfl rfl (by rw[←YH];exact bj.of hr1) ?_)))
  refine aC rfl (nR (a:=r) rfl (.inl (bj.of hr1)) rfl (aC rfl (bJ (fun e=> ?_) fun e=> ?_)))
  ·rw[aH,aD]at e
   have e2:=SJ.mp (by omega:((row.map fun(n:Nat)=>(n:Int)).count (c0:Int))=row.length)
   refine aC rfl (jN (a:=r) rfl rfl (bj.of hr1) (aV (j:=0) (jG h0)) (aC rfl (aC rfl (nR (a:=r) rfl (.inl (bj.of hr1)) (by rw[dO];simp) (fun t ht=>⟨by rw[dO];simp,fun l hl=> ?_⟩)))))
   obtain⟨hl1,hlt⟩:=aU hl
   have es:Fs.lM y 0 row= [(c0,0,y,row.length)]:=by
    obtain⟨n,hn⟩:∃n,row.length=n+1:=⟨rest.length,by rw[hrow];rfl⟩
    rw[e2,List.length_replicate,hn]
    exact zX y c0 n 0
   refine k l _ ((az ht).trans (az hl)) hl1 ⟨[t],aj,?_⟩
   rw[es]
   refine⟨?_,trivial⟩
   show upd _ _ _ t=_
   rw[bF hlt.symm,aj,aD]
   rfl
  ·refine⟨by decide,fun l hl=> ?_⟩
   refine aC rfl (cP (a:=r) rfl (bj.of (old hl hr1)) ?_)
   have step:∀(i st c:Nat)(done:List Sg)(H2:Hp)(t:Addr),st≤i→i≤row.length→row[st]? =some c→H2 t=none→bu H H2→(∃ts:List Addr,H2 l=some (.lst (ts.map V.ref))∧P2 (fun t g=>H2 t=some (.tup (Rh g))) ts done∧ts.length≤st)→
     (∃ts:List Addr,upd H2 t (.tup (Rh (c,st,y,i-st))) l=some (.lst (ts.map V.ref))∧(ts.map V.ref).length<sizeLine∧bu H (upd (upd H2 t (.tup (Rh (c,st,y,i-st)))) l (.lst (ts.map V.ref ++ [V.ref t])))∧
      ∃ts':List Addr,upd (upd H2 t (.tup (Rh (c,st,y,i-st)))) l (.lst (ts.map V.ref ++ [V.ref t])) l=some (.lst (ts'.map V.ref))∧P2 (fun t2 g=>upd (upd H2 t (.tup (Rh (c,st,y,i-st)))) l (.lst (ts.map V.ref ++ [V.ref t])) t2=some (.tup (Rh g))) ts' (done ++ [(c,st,y,i-st)])∧ts'.length≤st+1):=by
    rintro i st c done H2 t h1 h2 h3 ht s2 ⟨ts,hts,p,hle⟩
    have hst:st<row.length:=(List.getElem?_eq_some_iff.mp h3).1
    have htl:t≠l:=(ao hts ht).symm
    refine⟨ts,old ht hts,by rw[List.length_map,dO];omega,fun b o e=>oth (ao e hl) (old ht (s2 _ _ e)),ts ++ [t],by rw[aj,List.map_append];rfl,?_,by rw[List.length_append];simp;exact hle⟩
    refine P2.snoc (p.imp fun a b q=> ?_) (oth htl aj)
    exact oth (aN q hts (fun e=>nomatch e)) (old ht q)
   refine ou row.length (fun i σ H2=>∃(st c:Nat)(done:List Sg)(v4 v5:Option V),σ= [some (.ref r),some (.int (y:Int)),some (.ref l),some (.int (st:Int)),v4,v5]∧bu H H2∧(∃ts:List Addr,H2 l=some (.lst (ts.map V.ref))∧P2 (fun t g=>H2 t=some (.tup (Rh g))) ts done∧ts.length≤st)∧
    row[st]? =some c∧st≤i∧(∀j,st≤j→j<i→row[j]? =some c)∧Fs.lM y 0 row=done++Fs.lM y st (row.drop st)) ⟨0,c0,[],_,_,rfl,az hl,⟨[],aj,trivial,Nat.le_refl _⟩,h0,Nat.le_refl _,fun j _ hj=>absurd hj (by omega),rfl⟩ (fun i σ H2 hi ⟨_,_,_,_,_,_,s2,_⟩=> ?_) (fun σ H2 ⟨_,_,_,_,_,_,s2,_⟩=>⟨_,bj.of (s2 _ _ hr1),by rw[aD];exact Nat.le_refl _⟩) ?_ ?_
   ·obtain⟨x,hx⟩:=pB hi
    exact vq (bj.of (s2 _ _ hr1)) (jG hx)
   ·rintro i σ H2 v H3 hi ⟨st,c,done,v4,v5,rfl,s2,hts,hst,hsi,hall,hstr⟩ ⟨t,x,rfl,ht,rfl,hx⟩
    have hx:=hx _ (bj.of (s2 _ _ hr1))
    obtain⟨dc,hdc,rfl⟩:=uf hx
    have s3:bu H (upd H2 t (.tup [.int (i:Nat),.int (dc:Int)])):=s2.trans (az ht)
    refine nR (a:=t) rfl (iT.of aj) rfl (vq rfl (cP rfl rfl ?_))
    refine aC rfl (aC rfl (aC rfl (Em (a:=r) rfl rfl (bj.of (s3 _ _ hr1)) (aV (jG hst)) rfl (aC rfl (qQ (fun e=> ?_) fun e=> ?_)))))
    ·rw[aH]at e
     have hne:dc≠c:=fun q=>e (by rw[q])
     have hlt:st<i:=by
      rcases Nat.lt_or_ge st i with h | h
      ·exact h
      ·have:st=i:=by omega
       subst this
       rw[hdc]at hst
       exact absurd (Option.some.inj hst) hne
     obtain⟨ts0,aav,_⟩:=id hts
     refine cW rfl (.inl ⟨rfl,_,bj.of (old ht aav)⟩) (aC rfl (aC rfl (jN (a:=r) rfl rfl (bj.of (s3 _ _ hr1)) (aV (jG hst)) (aC rfl (aC rfl (aC rfl (aC rfl (nR rfl rfl (by rw[dO];simp) (fun t2 ht2=> ?_)))))))))
     have aex:∃ts:List Addr,upd H2 t (.tup [.int (i:Nat),.int (dc:Int)]) l=some (.lst (ts.map V.ref))∧P2 (fun t2 g=>upd H2 t (.tup [.int (i:Nat),.int (dc:Int)]) t2=some (.tup (Rh g))) ts done∧ts.length≤st:=by
      obtain⟨ts,q1,q2,q3⟩:=hts
      exact⟨ts,old ht q1,q2.imp fun a b q=>old ht q,q3⟩
     obtain⟨ts,w1,w2,w3,w4⟩:=step i st c done _ t2 hsi (by omega) hst ht2 s3 aex
     have et:HO.tup [V.int (c:Int),V.int (st:Int),V.int (y:Int),V.int ((i:Int)-(st:Int))]=HO.tup (Rh (c,st,y,i-st)):=by
      have:(i:Int)-(st:Int)=((i-st:Nat):Int):=by omega
      rw[this]
      rfl
     dsimp only
     rw[et]
     refine⟨l,cP rfl rfl ⟨w1,w2,aC rfl ⟨i,dc,done ++ [(c,st,y,i-st)],vq rfl ⟨w3,?_,hdc,Nat.le_succ _,?_,?_⟩⟩⟩⟩
     ·obtain⟨ts',q1,q2,q3⟩:=w4
      exact⟨ts',q1,q2,by omega⟩
     ·intro j h1 h2
      rw[show j=i by omega]
      exact hdc
     ·rw[hstr,Mw hall hsi (by omega),yI hdc,show i-st=(i-st-1)+1 by omega,HN y c dc _ hne,show st+(i-st-1+1)=i by omega]
      simp
    ·rw[aH]at e
     have ec:dc=c:=by omega
     subst ec
     refine⟨st,dc,done,vq rfl ⟨s3,?_,hst,by omega,fun j h1 h2=> ?_,hstr⟩⟩
     ·obtain⟨ts,q1,q2,q3⟩:=hts
      exact⟨ts,old ht q1,q2.imp fun a b q=>old ht q,q3⟩
     ·by_cases q:j=i
      ·rw[q];exact hdc
      ·exact hall j h1 (by omega)
   ·rintro σ H2 ⟨st,c,done,v4,v5,rfl,s2,hts,hst,hsi,hall,hstr⟩
    have hlt:st<row.length:=(List.getElem?_eq_some_iff.mp hst).1
    obtain⟨ts0,aav,_⟩:=id hts
    refine cW rfl (.inl ⟨rfl,_,bj.of aav⟩) (aC rfl (aC rfl (jN (a:=r) rfl rfl (bj.of (s2 _ _ hr1)) (aV (jG hst)) (aC rfl (aC rfl (aC rfl (cP (a:=r) rfl (.inl (bj.of (s2 _ _ hr1))) (aC rfl (nR rfl rfl (by rw[dO];simp) (fun t2 ht2=> ?_))))))))))
    obtain⟨ts,w1,w2,w3,w4⟩:=step row.length st c done _ t2 hsi (Nat.le_refl _) hst ht2 s2 hts
    have et:HO.tup [V.int (c:Int),V.int (st:Int),V.int (y:Int),V.int (((nv row).length:Nat)-(st:Int))]=HO.tup (Rh (c,st,y,row.length-st)):=by
     have:(((nv row).length:Nat):Int)-(st:Int)=((row.length-st:Nat):Int):=by rw[aD];omega
     rw[this]
     rfl
    dsimp only
    rw[et]
    refine⟨l,cP rfl rfl ⟨w1,w2,aC rfl (k l _ w3 hl ?_)⟩⟩
    obtain⟨ts',q1,q2,q3⟩:=w4
    refine⟨ts',q1,?_⟩
    rw[hstr,Mw hall hsi (Nat.le_refl _),List.drop_length,List.append_nil,show row.length-st=(row.length-st-1)+1 by omega,zX]
    rw[show row.length-st=(row.length-st-1)+1 by omega]at q2
    exact q2
theorem Fe(row:List Nat):∀(rows:List (List Nat))(y:Nat),allStrs y (rows ++ [row])=allStrs y rows++Fs.lM (y+rows.length) 0 row
 | [],y=>by simp[allStrs]
 | r::rows,y=>by
  rw[List.cons_append]
  show Fs.lM y 0 r++allStrs (y+1) (rows ++ [row])=(Fs.lM y 0 r++allStrs (y+1) rows)++_
  rw[Fe row rows (y+1),List.append_assoc,List.length_cons]
  congr 3
  omega
noncomputable def Ff(A:bB):Sp:=fun vs H Q _=>∃(a:Addr)(rows:List (List Nat)),vs= [.ref a]∧pC H a rows∧(∀row ∈ rows,row≠ []∧row.length≤640)∧rows.flatten.length≤307200∧∀l H',bu H H'→H l=none→sS H' l (allStrs 0 rows)→Q (.ref l) H'
theorem rN:aF ["rows","stretches","y","row"] ["rows"] (aB oU):=⟨rfl,rfl,rfl,by decide +kernel,rfl,by decide +kernel,by decide +kernel⟩
theorem rO{A:bB}(T:Txt K mg A):dZ P w K mg base 2 A.fc ["rows"] (Ff A):=by
 refine T.fc.ok rN (fun vs H Q E h=> ?_) (fun cdv Ar outer s H vs Q E hr h=> ?_)
 ·obtain⟨a,rows,rfl,_⟩:=h
  rfl
 ·obtain⟨a,rows,rfl,Rg,hall,hn,k⟩:=h
  have nd:=rN.nd
  obtain⟨rs,ha,p⟩:=Rg
  refine⟨_,(ak (aQ (i:=1) nd rfl (Or.inl rfl) (cG aq))
   (ak (dC PassesOwn.never rfl (QL rfl T.tX (aa (pv 0) aq)) (xZ K 2 rfl (bU (aX (i:=2) nd rfl (Or.inl rfl) (Or.inl rfl)) (bU (aX (i:=3) nd rfl (Or.inl rfl) (Or.inl rfl)) lW)))
    (au (aR (fV PySem.F.plainAttrs_list PySem.F.slot_list_extend PySem.F.type_list_extend d7 (pv 1) (aa (cC (Cd T) (hr.mono (by decide)) T.gC rfl (aa (pv 3) (aa (pv 2) aq))) aq)))))
   (au (aG (pv 1))))),?_⟩
  refine⟨by decide,fun l hl=> ?_⟩
  refine aC rfl (cP (a:=a) rfl (bj.of (old hl ha)) ?_)
  refine ou rs.length (fun i σ H2=>∃(v2 v3:Option V),σ= [some (.ref a),some (.ref l),v2,v3]∧bu H H2∧sS H2 l (allStrs 0 (rows.take i))) ⟨_,_,rfl,az hl,[],aj,trivial⟩ (fun i σ H2 hi ⟨_,_,_,s2,_⟩=> ?_) (fun σ H2 ⟨_,_,_,s2,_⟩=>⟨_,bj.of (s2 _ _ ha),by rw[List.length_map];exact Nat.le_refl _⟩) ?_ ?_
  ·obtain⟨x,hx⟩:=pB hi
   exact vq (bj.of (s2 _ _ ha)) (mD hx)
  ·rintro i σ H2 v H3 hi ⟨v2,v3,rfl,s2,ts,hts,pt⟩ ⟨t,x,rfl,ht,rfl,hx⟩
   have hx:=hx _ (bj.of (s2 _ _ ha))
   rw[List.getElem?_map]at hx
   obtain⟨r,hr1,rfl⟩:=Option.map_eq_some_iff.mp hx
   obtain⟨row,hrow,hrr⟩:=p.get hr1
   have s3:bu H (upd H2 t (.tup [.int (i:Nat),.ref r])):=s2.trans (az ht)
   obtain⟨hr2,hr3⟩:=hall row (List.mem_of_getElem? hrow)
   refine nR (a:=t) rfl (iT.of aj) rfl (vq rfl (cP rfl rfl ?_))
   refine cW rfl (.inl ⟨rfl,_,bj.of (old ht hts)⟩) (aC rfl (aC rfl (e34 (a:=r) (b:=i) (c:=row) rfl (s3 _ _ hrr) hr2 hr3 (fun l2 H4 s4 hl2 ⟨ts2,aey,pt2⟩=> ?_))))
   have Tr:H4 l=some (.lst (ts.map V.ref)):=s4 _ _ (old ht hts)
   have hlen:ts.length+ts2.length≤307200:=by
    have h1:=yu (rows.take (i+1)) 0
    have h2:=yL rows (i+1)
    rw[take_snoc hrow,Fe,List.length_append]at h1
    rw[take_snoc hrow]at h2
    have:=pt.len
    have:=pt2.len
    have hil:i<rows.length:=(List.getElem?_eq_some_iff.mp hrow).1
    rw[List.length_take,Nat.min_eq_left (by omega),Nat.zero_add]at h1
    omega
   refine Em (a:=l) (b:=l2) rfl rfl Tr aey (by rw[List.length_map,List.length_map,dO];omega) (cP rfl (fun b o e=>oth (ao e hl) (s4 _ _ (s3 _ _ e))) (aC (a:=ts++ts2) (by rw[aj,List.map_append]) ?_))
   have hil:i<rows.length:=(List.getElem?_eq_some_iff.mp hrow).1
   rw[take_snoc hrow,Fe,List.length_take,Nat.min_eq_left (by omega),Nat.zero_add]
   refine P2.app (pt.imp fun a b q=> ?_) (pt2.imp fun a b q=> ?_)
   ·have:H4 a=some (.tup (Rh b)):=s4 _ _ (old ht q)
    exact oth (aN this Tr (fun e=>nomatch e)) this
   ·exact oth (aN q Tr (fun e=>nomatch e)) q
  ·rintro σ H2 ⟨v2,v3,rfl,s2,hs⟩
   rw[p.len,List.take_length]at hs
   exact aC rfl (k l H2 s2 hl hs)
noncomputable abbrev Vw(cd:List (Nat × Nat)):List (Key × V):=cd.map fun q=>(Sum.inl (q.1 :Int),V.int (q.2 :Int))
theorem yM(a b:Nat):((Sum.inl (a:Int):Key)=Sum.inl (b:Int))↔a=b:=⟨fun q=>by injection q with q;omega,fun q=>by rw[q]⟩
theorem Pq(c:Nat):∀cd:List (Nat × Nat),(lY (Vw cd) (Sum.inl (c:Int))).getD (.int 0)= .int ((jL cd c:Nat):Int)∧(c ∈ cd.map (·.1)→lY (Vw cd) (Sum.inl (c:Int))=some (.int ((jL cd c:Nat):Int)))
 | []=>⟨rfl,fun h=>by simp at h⟩
 | (a,n)::r=>by
  obtain⟨h1,h2⟩:=Pq c r
  by_cases e:a=c
  ·have hv:lY (Vw ((a,n)::r)) (Sum.inl (c:Int))=some (.int (n:Int)):=jA (p:=((Sum.inl (a:Int),V.int (n:Int)):Key × V)) ((yM a c).mpr e)
   rw[hv,dU,if_pos e]
   exact⟨rfl,fun _=>rfl⟩
  ·have hv:lY (Vw ((a,n)::r)) (Sum.inl (c:Int))=lY (Vw r) (Sum.inl (c:Int)):=jB (p:=((Sum.inl (a:Int),V.int (n:Int)):Key × V)) (fun q=>e ((yM a c).mp q))
   rw[hv,dU,if_neg e]
   refine⟨h1,fun h=>h2 ?_⟩
   rw[List.map_cons]at h
   rcases List.mem_cons.mp h with h | h
   ·exact absurd h.symm e
   ·exact h
theorem aaw{cd:List (Nat × Nat)}(hnd:(cd.map (·.1)).Nodup)(c n:Nat):putK (Vw cd) (Sum.inl (c:Int)) (.int (((jL cd c+n:Nat)):Int))=Vw (yr cd c n):=by
 unfold putK yr
 have ea:((Vw cd).any fun kv=>decide (kv.1=Sum.inl (c:Int)))=(cd.any fun p=>decide (p.1=c)):=by
  rw[List.any_map]
  congr 1
  funext p
  exact decide_eq_decide.mpr (yM p.1 c)
 rw[ea]
 by_cases h:(cd.any fun p=>decide (p.1=c))=true
 ·rw[if_pos h,if_pos h]
  show List.map _ (List.map _ cd)=List.map _ (List.map _ cd)
  rw[List.map_map,List.map_map]
  apply List.map_congr_left
  intro p hp
  show (if (Sum.inl (p.1 :Int):Key)=Sum.inl (c:Int)then ((Sum.inl (p.1 :Int):Key),V.int ((jL cd c+n:Nat):Int))else ((Sum.inl (p.1 :Int):Key),V.int (p.2 :Int)))=_
  by_cases e:p.1=c
  ·have eg:jL cd c=p.2:=by
    clear ea h
    induction cd with
    | nil=>simp at hp
    | cons q cd ih=>
     rw[List.map_cons,List.nodup_cons]at hnd
     rw[dU]
     rcases List.mem_cons.mp hp with rfl | hp
     ·rw[if_pos e]
     ·rw[if_neg (fun z=>hnd.1 (by rw[z,←e];exact List.mem_map.mpr ⟨p,hp,rfl⟩))]
      exact ih hnd.2 hp
   rw[if_pos ((yM _ _).mpr e),eg]
   show _=(Sum.inl ((if p.1=c then (p.1,p.2+n)else p).1 :Int),V.int ((if p.1=c then (p.1,p.2+n)else p).2 :Int))
   rw[if_pos e]
  ·rw[if_neg (fun z=>e ((yM _ _).mp z))]
   show _=(Sum.inl ((if p.1=c then (p.1,p.2+n)else p).1 :Int),V.int ((if p.1=c then (p.1,p.2+n)else p).2 :Int))
   rw[if_neg e]
 ·rw[if_neg h,if_neg h]
  show _=List.map _ (cd ++ [(c,n)])
  rw[List.map_append]
  have:jL cd c=0:=DX cd c (fun q=>h ((yt cd c).mpr q))
  rw[this,Nat.zero_add]
  rfl
theorem Xw{cd:List (Nat × Nat)}(h:(cd.map (·.1)).Nodup)(c n:Nat):((yr cd c n).map (·.1)).Nodup:=by
 rw[zY]
 split
 ·exact h
 ·rename_i q
  exact Jm h q
theorem Xx(cd:List (Nat × Nat))(c n:Nat):(yr cd c n).length≤cd.length+1:=by
 unfold yr
 split<;>simp
theorem Ri:∀ {cd:List (Nat × Nat)},(cd.map (·.1)).Nodup→∀ {i c n:Nat},cd[i]? =some (c,n)→jL cd c=n
 | [],_,_,_,_,h=>by simp at h
 | p::cd,hnd,i,c,n,h=>by
  rw[List.map_cons,List.nodup_cons]at hnd
  rw[dU]
  rcases i with _ | i
  ·cases h
   rw[if_pos rfl]
  ·have h':cd[i]? =some (c,n):=h
   have hm:c ∈ cd.map (·.1):=List.mem_map.mpr ⟨(c,n),List.mem_of_getElem? h',rfl⟩
   rw[if_neg (fun z:p.1=c=>hnd.1 (by rw[z];exact hm))]
   exact Ri hnd.2 h'
theorem xu(t:Sg)(ss:List Sg):fP [] (ss ++ [t])=yr (fP [] ss) t.1 t.2.2.2:=by unfold fP;rw[List.foldl_append];rfl
theorem Rj:∀(ss:List Sg)(cd:List (Nat × Nat))(c:Nat),(c ∈ cd.map (·.1)∨c ∈ ss.map (·.1))→c ∈ (fP cd ss).map (·.1)
 | [],cd,c,h=>by
  rcases h with h | h
  ·exact h
  ·simp at h
 | t::ss,cd,c,h=>by
  refine Rj ss (yr cd t.1 t.2.2.2) c ?_
  rw[zY]
  rcases h with h | h
  ·left;split
   ·exact h
   ·exact List.mem_append_left _ h
  ·rw[List.map_cons]at h
   rcases List.mem_cons.mp h with h | h
   ·left;split
    ·rw[h];assumption
    ·rw[h];simp
   ·exact .inr h
noncomputable def Pr(A:bB):Sp:=fun vs H Q _=>∃(l:Addr)(ss:List Sg),vs= [.ref l]∧sS H l ss∧ss≠ []∧ss.length≤307200∧∀H',bu H H'→Q (.int ((bH ss:Nat):Int)) H'
theorem Bk:aF ["stretches","counts","ground","color","x","y","length","count"] ["stretches"] (aB zN):=⟨rfl,rfl,rfl,by decide +kernel,rfl,by decide +kernel,by decide +kernel⟩
theorem Bl{A:bB}(T:Txt K mg A):dZ P w K mg base 1 A.jU ["stretches"] (Pr A):=by
 refine T.jU.ok Bk (fun vs H Q E h=> ?_) (fun cdv Ar outer s H vs Q E hr h=> ?_)
 ·obtain⟨l,ss,rfl,_⟩:=h
  rfl
 ·obtain⟨l,ss,rfl,hsg,hne,hn,k⟩:=h
  have nd:=Bk.nd
  obtain⟨ts,hl,pt⟩:=hsg
  refine⟨_,(ak (aQ (i:=1) nd rfl (Or.inl rfl) KY)
   (ak (dC PassesOwn.never rfl (ik (pv 0)) (xZ K 4 rfl (bU (aX (i:=3) nd rfl (Or.inl rfl) (Or.inl rfl)) (bU (aX (i:=4) nd rfl (Or.inl rfl) (Or.inl rfl)) (bU (aX (i:=5) nd rfl (Or.inl rfl) (Or.inl rfl)) (bU (aX (i:=6) nd rfl (Or.inl rfl) (Or.inl rfl)) lW)))))
    (au (QF (Hx hr) (pv 1) (pv 3) (bf eY (Ut (Hx hr) (pv 1) (pv 3) aA ⟨rfl,rfl,rfl,rfl⟩) (pv 6)) rfl)))
   (ak (aQ (i:=2) nd rfl (Or.inl rfl) (bL (jC K) (bL (aO K) (pv 0) aA (fun _ _=>rfl)) aA (fun _ _=>rfl)))
   (ak (QJ (dC PassesOwn.never rfl (Uv (pv 1)) (xZ K 2 rfl (bU (aX (i:=3) nd rfl (Or.inl rfl) (Or.inl rfl)) (bU (aX (i:=7) nd rfl (Or.inl rfl) (Or.inl rfl)) lW)))
    (au (bC (aJ Ak (pv 7) (QD (Hx hr) (pv 1) (pv 2) (fun _ _=>rfl)) (aP _))
    (au (aQ (i:=2) nd rfl (Or.inl rfl) (pv 3))) aM))))
   (au (aG (pv 2))))))),?_⟩
  refine fun kd hkd=> ?_
  refine aC rfl (cW (a:=l) rfl ⟨_,bj.of (old hkd hl)⟩ ?_)
  refine lu (K:=K) (xs:=ts.map V.ref) (fun i σ H2=>∃(v3 v4 v5 v6:Option V),σ= [some (.ref l),some (.ref kd),none,v3,v4,v5,v6,none]∧bu H H2∧H2 kd=some (.dK (Vw (fP [] (ss.take i))))∧((fP [] (ss.take i)).map (·.1)).Nodup∧(fP [] (ss.take i)).length≤i) ⟨_,_,_,_,rfl,az hkd,aj,List.nodup_nil,Nat.le_refl _⟩ (fun i σ H2 _ ⟨_,_,_,_,_,s2,_⟩=>bj.of (s2 _ _ hl)) ?_ ?_
  ·rintro i x σ H2 hi ⟨v3,v4,v5,v6,rfl,s2,hk2,hnd,hle⟩
   have hil:i<ts.length:=by
    have:=(List.getElem?_eq_some_iff.mp hi).1
    rw[List.length_map]at this
    exact this
   have htl:=pt.len
   rw[List.getElem?_map]at hi
   obtain⟨t,ht,rfl⟩:=Option.map_eq_some_iff.mp hi
   obtain⟨g,hg,hgt⟩:=pt.get ht
   refine nR (a:=t) rfl (iT.of (s2 _ _ hgt)) rfl (vq rfl (vq rfl (vq rfl (cP rfl rfl ?_))))
   refine aC rfl (cW (a:=kd) rfl (.inl ⟨_,.inl hk2⟩) (aC rfl (aC (zE.k (k:=Sum.inl (g.1 :Int)) hk2) (aC rfl (cP ((Pq g.1 _).1) rfl (aC rfl (aC rfl (cP (a:=kd) rfl (RM.k (k:=Sum.inl (g.1 :Int)) hk2 (by rw[List.length_map,dO];omega)) ?_))))))))
   have e:((jL (fP [] (ss.take i)) g.1 :Nat):Int)+(g.2.2.2 :Int)=((jL (fP [] (ss.take i)) g.1+g.2.2.2 :Nat):Int):=by omega
   dsimp only
   rw[e,aaw hnd]
   refine jN rfl (fun b o e=>oth (ao e hkd) (s2 _ _ e)) ?_ ?_ ?_
   ·rw[aj,take_snoc hg,xu]
   ·rw[take_snoc hg,xu]
    exact Xw hnd _ _
   ·rw[take_snoc hg,xu]
    have:=Xx (fP [] (ss.take i)) g.1 g.2.2.2
    omega
  ·rintro σ H2 ⟨v3,v4,v5,v6,rfl,s2,hk2,hnd,hle⟩
   rw[List.length_map,pt.len,List.take_length]at hk2 hnd
   obtain⟨g0,sr,hss⟩:∃g0 sr,ss=g0::sr:=by
    cases ss with
    | nil=>exact absurd rfl hne
    | cons g s=>exact⟨g,s,rfl⟩
   have hg0:ss[0]? =some g0:=by rw[hss];rfl
   obtain⟨t0,ht0,aez⟩:=pt.get' hg0
   refine aC rfl (jN (a:=l) rfl rfl (bj.of (s2 _ _ hl)) (aV (j:=0) (mD ht0)) (jN (a:=t0) rfl rfl (iT.of (s2 _ _ aez)) (aV (j:=0) rfl) ?_))
   generalize hcd:fP [] ss=cd at *
   have hin:g0.1 ∈ cd.map (·.1):=by
    rw[←hcd]
    exact Rj ss [] g0.1 (.inr (by rw[hss];simp))
   have hgm:bH ss=fm (jL cd) g0.1 (cd.map (·.1)):=by unfold bH;rw[hcd,hss];rfl
   refine cP (a:=kd) hk2 trivial (fun od=> ?_)
   refine aC rfl (jM (a:=kd) (b:=od) rfl aj ?_)
   refine ou cd.length (fun i σ H3=>∃(v3 v4 v5 v6 v7:Option V),σ= [some (.ref l),some (.ref kd),some (.int ((fm (jL cd) g0.1 ((cd.map (·.1)).take i):Nat):Int)),v3,v4,v5,v6,v7]∧bu H H3∧H3 kd=some (.vB od (.dK (Vw cd)))) ⟨_,_,_,_,_,rfl,fun b o e=>oth (ao e hkd) (s2 _ _ e),aj⟩ (fun i σ H3 hi ⟨_,_,_,_,_,_,_,h3⟩=>⟨h3,by rw[List.length_map];exact hi⟩) (fun σ H3 ⟨_,_,_,_,_,_,_,h3⟩=>⟨h3,by rw[List.length_map];exact Nat.le_refl _⟩) ?_ ?_
   ·rintro i σ H3 v H4 hi ⟨v3,v4,v5,v6,v7,rfl,s3,hk3⟩ ⟨t,kk,vv,hkv,rfl,ht,rfl⟩
    rw[List.getElem?_map]at hkv
    obtain⟨⟨c,n⟩,hcn,e⟩:=Option.map_eq_some_iff.mp hkv
    cases e
    have hgn:=Ri hnd hcn
    have hkeys:(cd.map (·.1))[i]? =some c:=by rw[List.getElem?_map,hcn];rfl
    have hk4:upd H3 t (.tup [kV (Sum.inl (c:Int)),V.int (n:Int)]) kd=some (.vB od (.dK (Vw cd))):=old ht hk3
    have hgi:fm (jL cd) g0.1 ((cd.map (·.1)).take i) ∈ cd.map (·.1):=by
     rcases OJ (jL cd) ((cd.map (·.1)).take i) g0.1 with h | h
     ·rw[h];exact hin
     ·exact List.mem_of_mem_take h
    refine nR (a:=t) rfl (iT.of aj) rfl (vq rfl (cP rfl rfl ?_))
    refine aC rfl (aC rfl (aC rfl (cP (a:=kd) rfl (.inl ⟨_,Sum.inl _,.inr ⟨od,hk4⟩,rfl,((Pq _ cd).2 hgi).symm⟩) (cP rfl rfl (aC rfl (bJ (fun e=> ?_) fun e=> ?_))))))
    ·refine aC rfl (e52 (a:=some (.int (c:Int))) (b:=v4) (c:=v5) (d:=v6) (e:=some (.int (n:Int))) ?_ (s3.trans (az ht)) hk4)
     rw[take_snoc hkeys,uZ,kO,U7,if_pos (by rw[hgn];omega)]
     rfl
    ·refine e52 (a:=some (.int (c:Int))) (b:=v4) (c:=v5) (d:=v6) (e:=some (.int (n:Int))) ?_ (s3.trans (az ht)) hk4
     rw[take_snoc hkeys,uZ,kO,U7,if_neg (by rw[hgn];omega)]
     rfl
   ·rintro σ H3 ⟨v3,v4,v5,v6,v7,rfl,s3,hk3⟩
    refine⟨hk3,aC rfl ?_⟩
    rw[show ((cd.map (·.1)).take cd.length)=cd.map (·.1) by rw[List.take_of_length_le (by rw[List.length_map];exact Nat.le_refl _)],←hgm]
    exact k _ fun b o e=>oth (ao e hkd) (s3 _ _ e)
noncomputable def Pu(A:bB):Sp:=fun vs H Q _=>∃(l:Addr)(ss:List Sg)(g:Nat),vs= [.int (g:Int),.ref l]∧sS H l ss∧ss.length≤307200∧∀l2 H',bu H H'→H l2=none→sS H' l2 (du ss g)→Q (.ref l2) H'
theorem Bm:aF ["ground","stretches","stretch"] ["ground","stretches"] (aB uW):=⟨rfl,rfl,rfl,by decide +kernel,rfl,by decide +kernel,by decide +kernel⟩
theorem Bo{A:bB}(T:Txt K mg A):dZ P w K mg base 1 A.jV ["ground","stretches"] (Pu A):=by
 refine T.jV.ok Bm (fun vs H Q E h=> ?_) (fun cdv Ar outer s H vs Q E hr h=> ?_)
 ·obtain⟨l,ss,g,rfl,_⟩:=h
  rfl
 ·obtain⟨l,ss,g,rfl,hsg,hn,k⟩:=h
  have nd:=Bm.nd
  obtain⟨ts,hl,pt⟩:=hsg
  refine aC (au (aG (xW rfl nd (ik (pv 1)) (gj (own:= [("stretch",2)]) (show xY ["ground","stretches","stretch"] (aB uW) _ _=true by decide +kernel)) (fun _ _ _ _ _=>(aX (i:=2) nd rfl (Or.inl rfl) (Or.inr rfl))) (fun _ _ _ _ _=>(WW (aJ xQ (bL (jC K) (pv 2) aA (fun _ _=>rfl)) (pv 0) (aP _)))) (fun _ _ _ _ _=>(pv 2))))) ?_
  refine aC rfl (cW (a:=l) rfl ⟨_,bj.of hl⟩ (fun D hD=> ?_))
  refine xX (xs:=ts.map V.ref) (fun i H2=>bu H H2∧sS H2 D (du (ss.take i) g)) ⟨az hD,[],aj,trivial⟩ (fun i H2 hi ⟨s2,_⟩=>bj.of (s2 _ _ hl)) ?_ ?_
  ·rintro i x H2 hi ⟨s2,qs,hqs,pq⟩
   rw[List.getElem?_map]at hi
   obtain⟨t,ht,rfl⟩:=Option.map_eq_some_iff.mp hi
   obtain⟨q,hq,hqt⟩:=pt.get ht
   have er:du (ss.take (i+1)) g=du (ss.take i) g++(if q.1≠g then [q]else []):=by
    rw[take_snoc hq]
    unfold du
    rw[List.filter_append]
    by_cases e:q.1=g
    ·simp[e]
    ·simp[e]
   refine⟨rfl,aC rfl (jN (a:=t) rfl rfl (iT.of (s2 _ _ hqt)) (aV (j:=0) rfl) (cW rfl rfl (aC rfl (qQ (fun e=> ?_) fun e=> ?_))))⟩
   ·rw[aH]at e
    rw[if_pos (fun z=>e (by rw[z]))]at er
    have hlen:qs.length≤307200:=by
     have h1:=pq.len
     have h2:=u9 (ss.take i) g
     rw[List.length_take]at h2
     omega
    refine⟨_,rfl,_,hqs,by rw[List.length_map,dO];omega,fun b o e=>oth (ao e hD) (s2 _ _ e),qs ++ [t],by rw[aj,List.map_append];rfl,?_⟩
    rw[er]
    have htD:t≠D:=aN (s2 _ _ hqt) hqs (fun e=>nomatch e)
    refine P2.snoc (pq.imp fun a b z=> ?_) (oth htD (s2 _ _ hqt))
    exact oth (aN z hqs (fun e=>nomatch e)) z
   ·rw[aH]at e
    rw[if_neg (fun z=>z (by omega)),List.append_nil]at er
    exact⟨s2,qs,hqs,by rw[er];exact pq⟩
  ·rintro H2 ⟨s2,hs⟩
   rw[List.length_map,pt.len,List.take_length]at hs
   exact k D H2 s2 hD hs
theorem ux{t1 t2:TS}{D:Ends}{σ:L2.St}{H:Hp}(Pv:L2.St→Hp→Prop)(h1:∀N:L2.St→Hp→Prop,(∀σ H,Pv σ H→N σ H)→t1 {D with nx:=N} σ H)(h2:∀σ H,Pv σ H→t2 D σ H):Gq t1 t2 D σ H:=h1 _ h2
noncomputable def yN:Option Nat→V
 | none=> .non
 | some n=> .int (n:Int)
theorem Rk(a b:Option Nat):yN a=yN b↔a=b:=by
 cases a<;>cases b<;>simp[yN] <;> omega
theorem Rm(g:Nat)(a:Option Nat):(V.int (g:Int)=yN a)↔a=some g:=by
 have:=Rk (some g) a
 exact this.trans ⟨fun e=>e.symm,fun e=>e.symm⟩
theorem Mx(g:Nat)(a:Option Nat):ZC (.int (g:Int)) (yN a)=true:=by cases a<;>rfl
noncomputable def JQ(A:bB):Sp:=fun vs H Q _=>∃(l:Addr)(rs:List Sg),vs= [.ref l]∧sS H l rs∧Q (yN (gm rs)) H
theorem vZ:aF ["runs","run"] ["runs"] (aB tG):=⟨rfl,rfl,rfl,by decide +kernel,rfl,by decide +kernel,by decide +kernel⟩
theorem GP{A:bB}(T:Txt K mg A):dZ P w K mg base 1 A.jn ["runs"] (JQ A):=by
 refine T.jn.ok vZ (fun vs H Q E h=> ?_) (fun cdv Ar outer s H vs Q E hr h=> ?_)
 ·obtain⟨l,rs,rfl,_⟩:=h
  rfl
 ·obtain⟨l,rs,rfl,hsg,k⟩:=h
  have nd:=vZ.nd
  obtain⟨ts,hl,pt⟩:=hsg
  refine⟨_,(ak (bC (mV (pI (pv 0) (fun _=>rfl)))
    (au (aG gP)) aM)
   (ak (dC PassesOwn.never rfl (ik (pv 0)) (aX (i:=1) nd rfl (Or.inl rfl) (Or.inl rfl))
    (au (bC (aJ xQ (bL (jC K) (pv 1) aA (fun _ _=>rfl)) (bL (jC K) (bL (aO K) (pv 0) aA (fun _ _=>rfl)) aA (fun _ _=>rfl)) (aP _))
    (au (aG gP)) aM)))
   (au (aG (bL (jC K) (bL (aO K) (pv 0) aA (fun _ _=>rfl)) aA (fun _ _=>rfl)))))),?_⟩
  refine aC rfl (aC (.inl ⟨_,bj.of hl,rfl⟩) ?_)
  cases rs with
  | nil=>
   cases ts with
   | nil=>exact k
   | cons t ts=>exact absurd pt.len (by simp)
  | cons g rs=>
   cases ts with
   | nil=>exact absurd pt.len (by simp)
   | cons t0 ts=>
    obtain⟨h0,pt'⟩:=id pt
    refine aC rfl (cW (a:=l) rfl ⟨_,bj.of hl⟩ ?_)
    refine lu (K:=K) (xs:=(t0::ts).map V.ref) (fun i σ H2=>∃v1,σ= [some (.ref l),v1]∧H2=H∧∀u ∈ (g::rs).take i,u.1=g.1) ⟨_,rfl,rfl,fun u hu=>by simp at hu⟩ (fun i σ H2 _ ⟨_,_,e,_⟩=>by rw[e];exact bj.of hl) ?_ ?_
    ·rintro i x σ H2 hi ⟨v1,rfl,rfl,hall⟩
     rw[List.getElem?_map]at hi
     obtain⟨t,ht,rfl⟩:=Option.map_eq_some_iff.mp hi
     obtain⟨u,hu,hut⟩:=P2.get pt ht
     refine aC rfl (jN (a:=t) rfl rfl (iT.of hut) (aV (j:=0) rfl) (aC rfl (jN (a:=l) rfl rfl (bj.of hl) (aV (j:=0) rfl) (Em (a:=t0) rfl rfl (iT.of h0) (aV (j:=0) rfl) rfl (aC rfl (qQ (fun e=> ?_) fun e=> ?_))))))
     ·rw[aH]at e
      have hc:gm (g::rs)=none:=by
       show (if (rs.all fun u=>decide (u.1=g.1))=true then some g.1 else none)=none
       rw[if_neg]
       intro h
       rw[List.all_eq_true]at h
       have hm:u ∈ g::rs:=List.mem_of_getElem? hu
       rcases List.mem_cons.mp hm with rfl | hm
       ·exact e rfl
       ·have:=h u hm
        rw[decide_eq_true_iff]at this
        exact e (by rw[this])
      rw[hc]at k
      exact k
     ·rw[aH]at e
      refine cW rfl rfl (fun z hz=> ?_)
      rw[take_snoc hu]at hz
      rcases List.mem_append.mp hz with hz | hz
      ·exact hall z hz
      ·simp at hz
       subst hz
       omega
    ·rintro σ H2 ⟨v1,rfl,rfl,hall⟩
     refine aC rfl (jN (a:=l) rfl rfl (bj.of hl) (aV (j:=0) rfl) (jN (a:=t0) rfl rfl (iT.of h0) (aV (j:=0) rfl) ?_))
     have hc:gm (g::rs)=some g.1:=by
      show (if (rs.all fun u=>decide (u.1=g.1))=true then some g.1 else none)=some g.1
      rw[if_pos]
      rw[List.all_eq_true]
      intro u hu
      rw[decide_eq_true_iff]
      refine hall u ?_
      rw[List.length_map,pt.len,List.take_length]
      exact List.mem_cons_of_mem _ hu
     rw[hc]at k
     exact k
noncomputable abbrev LeftO(A:bB)(dx:Addr)(last:Option Nat × Option Nat):HO:=Io A.Lk Li dx [yN last.1,yN last.2]
noncomputable def Px(A:bB):Sp:=fun vs H Q _=>∃(p dx:Addr),vs= [.ref p]∧H p=some (Io A.Lk Li dx [])∧Q .non (upd H p (LeftO A dx (none,none)))
theorem Bp:aF ["self"] ["self"] (aB zO):=⟨rfl,rfl,rfl,by decide +kernel,rfl,by decide +kernel,by decide +kernel⟩
theorem My{A:bB}(T:Txt K mg A):dZ P w K mg base 1 A.mH ["self"] (Px A):=by
 refine T.mH.ok Bp (fun vs H Q E h=> ?_) (fun cdv Ar outer s H vs Q E hr h=> ?_)
 ·obtain⟨p,dx,rfl,_⟩:=h
  rfl
 ·obtain⟨p,dx,rfl,hp,k⟩:=h
  have nd:=Bp.nd
  refine⟨_,(ak (dw T.vM 0 (pv 0) gP)
   (au (dw T.vM 1 (pv 0) gP))),?_⟩
  refine aC rfl (lJ rfl hp rfl ?_)
  refine aC rfl (lJ rfl aj rfl ?_)
  rw[bM]
  exact k
theorem Z4{x0 x1 x2 x3 x4 x6:Option V}{a b:Int}(h:a=b): [x0,x1,x2,x3,x4,some (V.int a),x6]= [x0,x1,x2,x3,x4,some (V.int b),x6]:=by rw[h]
theorem aW.uy {A:bB} {W:List Addr} {H H':Hp} {fa dx gl sl kd l:Addr} {d:FD} {o:HO} (f:aW A (l::W) H' fa dx gl sl kd d) (kp:Kp [kd] H H') (hW:∀z ∈ W,∃o,H z=some o) (hl:H' l=some o):∀z ∈ l::W,∃o,H' z=some o:=by
 intro z hz
 rcases List.mem_cons.mp hz with rfl | hz
 ·exact⟨_,hl⟩
 ·exact f.alive kp (hW z hz)
noncomputable def nO(f:Sw32.Form)(last:Option Nat × Option Nat)(g:Nat)(rs:List Sg)(col:Option Nat):List Nat:=
 if rs= []then (aZ f last.1 g).1::(aZ f last.1 g).2 else (8+((aZ f last.1 g).1+(dB f last.2 col).1))::((aZ f last.1 g).2++(dB f last.2 col).2)
noncomputable def JR(A:bB):Sp:=fun vs H Q _=>∃(l fa dx gl sl kd le dl:Addr)(W:List Addr)(d:FD)(g:Nat)(rs:List Sg)(col:Option Nat)(last:Option Nat × Option Nat),vs= [.int (g:Int),.ref l,yN col,.ref fa,.ref le]∧sS H l rs∧H le=some (LeftO A dl last)∧aW A W H fa dx gl sl kd d∧(∀z ∈ W,∃o,H z=some o)∧sH d∧g<16777216∧(∀c,col=some c→c<16777216)∧Pn A W H fa dx gl sl kd d (nO (aL d) last g rs col) Q
theorem wg:aF ["ground","runs","color","form","left","first","octets"] ["ground","runs","color","form","left"] (aB tK):=⟨rfl,rfl,rfl,by decide +kernel,rfl,by decide +kernel,by decide +kernel⟩
theorem GQ{A:bB}(T:Txt K mg A):dZ P w K mg base 3 A.jq ["ground","runs","color","form","left"] (JR A):=by
 refine T.jq.ok wg (fun vs H Q E h=> ?_) (fun cdv Ar outer s H vs Q E hr h=> ?_)
 ·obtain⟨l,fa,dx,gl,sl,kd,le,dl,W,d,g,rs,col,last,rfl,_⟩:=h
  rfl
 ·obtain⟨l,fa,dx,gl,sl,kd,le,dl,W,d,g,rs,col,last,rfl,hsg,hle,f,hW,hb,hg,hc,k⟩:=h
  have nd:=wg.nd
  obtain⟨ts,hl,pt⟩:=hsg
  have hlk:le≠kd:=by
   obtain⟨kvs,hk,_⟩:=f.kn
   exact aN hle hk (fun e=>nomatch e)
  have bl:∀c,c<16777216→((aL d).bytes c).length≤4:=fun c hc=>by rw[←fQ d hc];exact fu hb c
  refine⟨_,(ak (aQ (i:=5) nd rfl (Or.inl rfl) aA)
   (ak (aQ (i:=6) nd rfl (Or.inl rfl) (cG aq))
   (ak (bC (aJ xQ (pv 0) (bc T.vM 0 (pv 4)) (aP _))
    (ak (CP (i:=5) nd rfl (Or.inl rfl) (bD T.vN) CQ)
   (au (aR (fV PySem.F.plainAttrs_list PySem.F.slot_list_extend PySem.F.type_list_extend d7 (pv 6) (aa (dJ T.dm T.dX (iJ T) (hr.mono (by decide)) (pv 3) (aa (pv 0) aq)) aq))))) aM)
   (ak (bC (pI (pv 1) (fun _=>rfl))
    (ak (CP (i:=5) nd rfl (Or.inl rfl) (bD T.Av) CQ)
   (au (bC (aJ Jb (pv 2) gP (aP _))
    (au (CP (i:=5) nd rfl (Or.inl rfl) (bD T.vO) CQ)) (au (bC (aJ xQ (pv 2) (bc T.vM 1 (pv 4)) (aP _))
    (ak (CP (i:=5) nd rfl (Or.inl rfl) (bD T.yf) CQ)
   (au (aR (fV PySem.F.plainAttrs_list PySem.F.slot_list_extend PySem.F.type_list_extend d7 (pv 6) (aa (dJ T.dm T.dX (iJ T) (hr.mono (by decide)) (pv 3) (aa (pv 2) aq)) aq))))) aM))))) aM)
   (au (aG (bf iQ (cG (aa (pv 5) aq)) (pv 6)))))))),?_⟩
  refine⟨by decide,fun o ho=> ?_⟩
  have f1:aW A (o::W) (upd H o (.lst [])) fa dx gl sl kd d:=(f.add ho).same (az ho)
  have nle:∀ {H2:Hp},Kp [kd] H H2→H2 le=some (LeftO A dl last):=fun kp=>kp _ _ hle (by simpa using hlk)
  dsimp only[kZ]
  refine ux (fun σ H2=>σ= [some (.int (g:Int)),some (.ref l),some (yN col),some (.ref fa),some (.ref le),some (.int (((aZ (aL d) last.1 g).1 :Nat):Int)),some (.ref o)]∧Kp [kd] H H2∧aW A (o::W) H2 fa dx gl sl kd d∧H2 o=some (.lst (nv (aZ (aL d) last.1 g).2))) (fun N hN=> ?_) ?_
  ·refine aC rfl (aC rfl (jN rfl (nle ((az ho).kp _)) rfl (Mx g last.1) (aC rfl (qQ (fun e=> ?_) fun e=> ?_))))
   ·rw[Rm]at e
    refine aC rfl (cP rfl rfl ?_)
    refine cW rfl (.inl ⟨rfl,_,bj.of aj⟩) (aC rfl (vU rfl ⟨f1.ob,_,rfl,fa,dx,gl,sl,kd,o::W,d,g,rfl,f1,f1.uy ((az ho).kp _) hW aj,hg,hb,fun b H4 kp4 f4 hb4 hbn=> ?_⟩))
    have SM:H4 o=some (.lst []):=f1.stay kp4 aj
    refine Em (a:=o) (b:=b) rfl rfl SM hb4 (by rw[aD,dO,List.length_nil];have:=fu hb g;omega) (hN _ _ ⟨?_,fun b o' e n=>oth (ao e ho) (kp4 _ _ (old ho e) n),f4.at SM (by simp),?_⟩)
    ·unfold aZ
     rw[if_neg e]
     rfl
    ·unfold aZ
     rw[if_neg e,aj,List.nil_append,fQ d hg]
   ·rw[Rm]at e
    refine hN _ _ ⟨?_,(az ho).kp _,f1,?_⟩
    ·unfold aZ
     rw[if_pos e]
     rfl
    ·unfold aZ
     rw[if_pos e,aj]
     rfl
  ·rintro σ H2 ⟨rfl,lN,f2,ho2⟩
   have hl2:H2 l=some (.lst (ts.map V.ref)):=f.stay lN hl
   refine ux (fun σ H3=>σ= [some (.int (g:Int)),some (.ref l),some (yN col),some (.ref fa),some (.ref le),some (.int (((nO (aL d) last g rs col).headD 0 :Nat):Int)),some (.ref o)]∧Kp [kd] H H3∧aW A (o::W) H3 fa dx gl sl kd d∧H3 o=some (.lst (nv (nO (aL d) last g rs col).tail))) (fun N hN=> ?_) ?_
   ·refine aC rfl (aC (.inl ⟨_,bj.of hl2,rfl⟩) ?_)
    cases rs with
    | nil=>
     cases ts with
     | cons t ts=>exact absurd pt.len (by simp)
     | nil=>exact hN _ _ ⟨rfl,lN,f2,ho2⟩
    | cons r0 rs=>
     cases ts with
     | nil=>exact absurd pt.len (by simp)
     | cons t ts=>
      have eh:nO (aL d) last g (r0::rs) col=(8+((aZ (aL d) last.1 g).1+(dB (aL d) last.2 col).1))::((aZ (aL d) last.1 g).2++(dB (aL d) last.2 col).2):=by unfold nO;rw[if_neg (by simp)]
      rw[eh]at hN
      refine aC rfl (cP rfl rfl ?_)
      cases col with
      | none=>
       have ec:dB (aL d) last.2 none=(16,[]):=rfl
       rw[ec]at hN
       refine cW rfl rfl (aC rfl ?_)
       refine aC rfl (cP rfl rfl (hN _ _ ⟨Z4 (?_:(((aZ (aL d) last.1 g).1 :Nat):Int)+8+16=((8+((aZ (aL d) last.1 g).1+16):Nat):Int)),lN,f2,?_⟩))
       ·omega
       ·rw[ho2]
        show _=some (HO.lst (nv (_ ++ [])))
        rw[List.append_nil]
      | some c=>
       refine cW rfl rfl (aC rfl ?_)
       have hcc:=hc c rfl
       refine aC rfl (aC rfl (jN rfl (nle lN) rfl (Mx c last.2) (aC rfl (qQ (fun e=> ?_) fun e=> ?_))))
       ·have e:¬last.2=some c:=fun q=>e (by rw[q])
        have ec:dB (aL d) last.2 (some c)=(4,(aL d).bytes c):=if_neg e
        rw[ec]at hN
        refine aC rfl (cP rfl rfl ?_)
        refine cW rfl (.inl ⟨rfl,_,bj.of ho2⟩) (aC rfl (vU rfl ⟨f2.ob,_,rfl,fa,dx,gl,sl,kd,o::W,d,c,rfl,f2,f2.uy lN hW ho2,hcc,hb,fun b H4 kp4 f4 hb4 hbn=> ?_⟩))
        have SM:=f2.stay kp4 ho2
        have hgl:(aZ (aL d) last.1 g).2.length≤4:=jE (aL d) (by show d.bits / 8≤4;omega) _ _
        refine Em (a:=o) (b:=b) rfl rfl SM hb4 (by rw[aD,aD,dO];have:=fu hb c;omega) (hN _ _ ⟨Z4 (?_:(((aZ (aL d) last.1 g).1 :Nat):Int)+8+4=((8+((aZ (aL d) last.1 g).1+4):Nat):Int)),fun b o' e n=>oth (ao e ho) (kp4 _ _ (lN _ _ e n) n),f4.at SM (by simp),?_⟩)
        ·omega
        ·rw[aj,←bG,fQ d hcc]
         rfl
       ·have e:last.2=some c:=((Rk _ _).mp e).symm
        have ec:dB (aL d) last.2 (some c)=(0,[]):=if_pos e
        rw[ec]at hN
        refine hN _ _ ⟨Z4 (?_:(((aZ (aL d) last.1 g).1 :Nat):Int)+8=((8+((aZ (aL d) last.1 g).1+0):Nat):Int)),lN,f2,?_⟩
        ·omega
        ·rw[ho2]
         show _=some (HO.lst (nv (_ ++ [])))
         rw[List.append_nil]
   ·rintro σ H3 ⟨rfl,ig,f3,Wi⟩
    have hm:(nO (aL d) last g rs col).headD 0::(nO (aL d) last g rs col).tail=nO (aL d) last g rs col:=by
     unfold nO
     split<;>rfl
    have YM:(nO (aL d) last g rs col).tail.length≤8:=by
     have hgl:(aZ (aL d) last.1 g).2.length≤4:=jE (aL d) (by show d.bits / 8≤4;omega) _ _
     have hcl:(dB (aL d) last.2 col).2.length≤4:=by
      unfold dB
      cases col with
      | none=>simp
      | some c=>
       dsimp only
       split
       ·simp
       ·exact bl c (hc c rfl)
     unfold nO
     split
     ·show List.length (aZ (aL d) last.1 g).2≤8
      omega
     ·show List.length (_++_)≤8
      rw[List.length_append]
      omega
    refine cW rfl (by rw[dO];simp) (fun t ht=> ?_)
    refine aC rfl (Em (a:=t) (b:=o) rfl rfl aj (old ht Wi) (by rw[aD,dO,List.length_singleton];omega) (fun z hz=> ?_))
    obtain⟨hz1,hzt⟩:=aU hz
    have hzH:H z=none:=by
     by_cases q:H z=none
     ·exact q
     ·obtain⟨o',ho'⟩:=f3.alive ig (Option.ne_none_iff_exists'.mp q)
      rw[hz1]at ho'
      cases ho'
    refine k z _ (fun b o' e n=>old hz (old ht (ig _ _ e n))) hzH ?_ ?_
    ·exact(((f3.add hz1).same (az ht)).same (az hz)).less (fun q hq=>by
      rcases List.mem_cons.mp hq with rfl | hq
      ·simp
      ·simp[hq])
    ·rw[aj,←hm]
     rfl
theorem Bq{d:FD}(hb:sH d)(col:Option Nat)(t:Sg)(ht:t.1<16777216):(kW (aL d) col t).length≤6:=by
 unfold kW
 rw[List.length_append]
 have:((aL d).bytes t.1).length≤4:=by rw[←fQ d ht];exact fu hb _
 cases col with
 | none=>dsimp only;simp;omega
 | some c=>simp
theorem qW{d:FD}(hb:sH d)(col:Option Nat):∀l:List Sg,(∀t ∈ l,t.1<16777216)→(l.flatMap (kW (aL d) col)).length≤6*l.length
 | [],_=>by simp
 | t::l,h=>by
  have h1:=Bq hb col t (h t (by simp))
  have h2:=qW hb col l (fun q hq=>h q (by simp[hq]))
  rw[List.flatMap_cons,List.length_append,List.length_cons]
  omega
noncomputable def JS(A:bB):Sp:=fun vs H Q _=>∃(l fa dx gl sl kd:Addr)(W:List Addr)(d:FD)(rs:List Sg)(col:Option Nat),vs= [.ref l,yN col,.ref fa]∧sS H l rs∧aW A W H fa dx gl sl kd d∧(∀z ∈ W,∃o,H z=some o)∧sH d∧(∀t ∈ rs,t.1<16777216∧1≤t.2.2.2)∧rs.length≤307200∧Pn A W H fa dx gl sl kd d (rs.length::rs.flatMap (kW (aL d) col)) Q
theorem wj:aF ["runs","color","form","octets","own","x","y","length"] ["runs","color","form"] (aB tL):=⟨rfl,rfl,rfl,by decide +kernel,rfl,by decide +kernel,by decide +kernel⟩
theorem GR{A:bB}(T:Txt K mg A):dZ P w K mg base 3 A.jr ["runs","color","form"] (JS A):=by
 refine T.jr.ok wj (fun vs H Q E h=> ?_) (fun cdv Ar outer s H vs Q E hr h=> ?_)
 ·obtain⟨l,fa,dx,gl,sl,kd,W,d,rs,col,rfl,_⟩:=h
  rfl
 ·obtain⟨l,fa,dx,gl,sl,kd,W,d,rs,col,rfl,hsg,f,hW,hb,hrs,hn,k⟩:=h
  have nd:=wj.nd
  obtain⟨ts,hl,pt⟩:=hsg
  have htl:=pt.len
  refine⟨_,(ak (aQ (i:=3) nd rfl (Or.inl rfl) (cG (aa (bO bA rfl T.gM PySem.boot_len (aa (pv 0) aq)) aq)))
   (ak (dC PassesOwn.never rfl (ik (pv 0)) (xZ K 4 rfl (bU (aX (i:=4) nd rfl (Or.inl rfl) (Or.inl rfl)) (bU (aX (i:=5) nd rfl (Or.inl rfl) (Or.inl rfl)) (bU (aX (i:=6) nd rfl (Or.inl rfl) (Or.inl rfl)) (bU (aX (i:=7) nd rfl (Or.inl rfl) (Or.inl rfl)) lW)))))
    (ak (bC (aJ Jb (pv 1) gP (aP _))
    (au (aR (fV PySem.F.plainAttrs_list PySem.F.slot_list_extend PySem.F.type_list_extend d7 (pv 3) (aa (dJ T.dm T.dX (iJ T) (hr.mono (by decide)) (pv 2) (aa (pv 4) aq)) aq)))) aM)
   (ak (aR (fV PySem.F.plainAttrs_list PySem.F.slot_list_append PySem.F.type_list_append ji (pv 3) (aa (bf eY (bf qe aA (pv 5)) (pv 6)) aq)))
   (au (aR (fV PySem.F.plainAttrs_list PySem.F.slot_list_append PySem.F.type_list_append ji (pv 3) (aa (bf qe aA (bf oG (pv 7) aA)) aq)))))))
   (au (aG (pv 3))))),?_⟩
  refine aC rfl (nR (a:=l) rfl (.inl (bj.of hl)) (by rw[dO];simp) (fun o ho=> ?_))
  have e0:HO.lst [V.int (((ts.map V.ref).length:Nat):Int)]= .lst (nv [rs.length]):=by rw[List.length_map,htl];rfl
  rw[e0]
  have f1:aW A (o::W) (upd H o (.lst (nv [rs.length]))) fa dx gl sl kd d:=(f.add ho).same (az ho)
  refine aC rfl (aC (a:=l) rfl ⟨⟨_,bj.of (old ho hl)⟩,?_⟩)
  refine lu (K:=K) (xs:=ts.map V.ref) (fun i σ H2=>∃(v4 v5 v6 v7:Option V),σ= [some (.ref l),some (yN col),some (.ref fa),some (.ref o),v4,v5,v6,v7]∧Kp [kd] H H2∧aW A (o::W) H2 fa dx gl sl kd d∧H2 o=some (.lst (nv (rs.length::(rs.take i).flatMap (kW (aL d) col))))) ⟨_,_,_,_,rfl,(az ho).kp _,f1,aj⟩ (fun i σ H2 _ ⟨_,_,_,_,_,kp,_⟩=>bj.of (f.stay kp hl)) ?_ ?_
  ·rintro i x σ H2 hi ⟨v4,v5,v6,v7,rfl,lN,f2,ho2⟩
   rw[List.getElem?_map]at hi
   obtain⟨t,ht,rfl⟩:=Option.map_eq_some_iff.mp hi
   obtain⟨q,hq,hqt⟩:=pt.get ht
   obtain⟨hq1,hq2⟩:=hrs q (List.mem_of_getElem? hq)
   have hkd:t≠kd:=by
    obtain⟨kvs,hk,_⟩:=f.kn
    exact aN hqt hk (fun e=>nomatch e)
   have il:i<rs.length:=(List.getElem?_eq_some_iff.mp hq).1
   have hlen:((rs.take i).flatMap (kW (aL d) col)).length≤6*307200:=by
    have:=qW hb col (rs.take i) (fun z hz=>(hrs z (List.mem_of_mem_take hz)).1)
    rw[List.length_take]at this
    omega
   have Gn:((aL d).bytes q.1).length≤4:=by rw[←fQ d hq1];exact fu hb _
   refine nR (a:=t) rfl (iT.of (lN _ _ hqt (by simpa using hkd))) rfl (vq rfl (vq rfl (vq rfl (cP rfl rfl ?_))))
   dsimp only[kZ]
   refine ux (fun σ H3=>σ= [some (.ref l),some (yN col),some (.ref fa),some (.ref o),some (.int (q.1 :Int)),some (.int (q.2.1 :Int)),some (.int (q.2.2.1 :Int)),some (.int (q.2.2.2 :Int))]∧Kp [kd] H H3∧aW A (o::W) H3 fa dx gl sl kd d∧∃bs,H3 o=some (.lst (nv (rs.length::((rs.take i).flatMap (kW (aL d) col)++bs))))∧kW (aL d) col q=bs ++ [16*q.2.1+q.2.2.1,16*(q.2.2.2-1)]) (fun N hN=> ?_) ?_
   ·cases col with
    | none=>
     refine cW rfl rfl (aC rfl ?_)
     refine cW rfl (.inl ⟨rfl,_,bj.of ho2⟩) (aC rfl (jM rfl f2.ob (aC rfl ⟨fa,dx,gl,sl,kd,o::W,d,q.1,rfl,f2,f2.uy lN hW ho2,hq1,hb,fun b H4 kp4 f4 hb4 hbn=> ?_⟩)))
     have SM:=f2.stay kp4 ho2
     refine Em (a:=o) (b:=b) rfl rfl SM hb4 (by rw[aD,aD,dO,List.length_cons,fQ d hq1];omega) (hN _ _ ⟨rfl,fun b o' e n=>oth (ao e ho) (kp4 _ _ (lN _ _ e n) n),f4.at SM (by simp),(aL d).bytes q.1,?_,rfl⟩)
     rw[aj,←bG,fQ d hq1]
     rfl
    | some c=>
     refine cW rfl rfl (aC rfl ?_)
     exact hN _ _ ⟨rfl,lN,f2,[],by rw[List.append_nil];exact ho2,rfl⟩
   ·rintro σ H3 ⟨rfl,ig,f3,bs,Wi,ebs⟩
    have hbs:bs.length≤4:=by
     have:=Bq hb col q hq1
     rw[ebs,List.length_append]at this
     simp at this
     omega
    refine cW rfl (.inl ⟨rfl,_,bj.of Wi⟩) (aC rfl (nR rfl rfl (.inl ⟨by decide,by decide⟩) (aC rfl (cP rfl rfl (e34 (a:=o) rfl rfl Wi (by rw[aD,dO,List.length_cons,List.length_append];omega) ?_)))))
    refine cW rfl (.inl ⟨rfl,_,bj.of aj⟩) (aC rfl (cP rfl rfl (nR rfl rfl (.inl ⟨by decide,by decide⟩) (e34 (a:=o) rfl rfl aj (by rw[List.length_append,aD,dO,List.length_cons,List.length_append,List.length_singleton];omega) ?_))))
    rw[bM]
    have aeB:o ∈ o::W:=by simp
    refine e42 rfl (fun b o' e n=>oth (ao e ho) (ig _ _ e n)) ⟨f3.at Wi aeB,?_⟩
    have e1:(16 :Int)*(q.2.1 :Int)+(q.2.2.1 :Int)=((16*q.2.1+q.2.2.1 :Nat):Int):=by omega
    have e2:(16 :Int)*((q.2.2.2 :Int)-1)=((16*(q.2.2.2-1):Nat):Int):=by omega
    rw[aj,take_snoc hq,List.flatMap_append]
    dsimp only
    rw[e1,e2]
    simp[ebs,nv]
  ·rintro σ H2 ⟨v4,v5,v6,v7,rfl,lN,f2,ho2⟩
   rw[List.length_map,htl,List.take_length]at ho2
   exact aC rfl (k o H2 lN ho f2 ho2)
theorem Ac:∀(rows:List (List Nat))(y:Nat),∀t ∈ allStrs y rows,∃row ∈ rows,t.1 ∈ row
 | [],_,t,h=>by simp[allStrs]at h
 | row::rows,y,t,h=>by
  have h:t ∈ Fs.lM y 0 row++allStrs (y+1) rows:=h
  rcases List.mem_append.mp h with h | h
  ·exact aC (a:=row) (by simp) ((OD y row 0 t h).2.2)
  ·obtain⟨r,hr,ht⟩:=Ac rows (y+1) t h
   exact aC (a:=r) (by simp[hr]) ht
theorem aax{rs:List Sg}{c:Nat}(h:gm rs=some c):∃t ∈ rs,t.1=c:=by
 cases rs with
 | nil=>cases h
 | cons t r=>
  have h:(if (r.all fun u=>decide (u.1=t.1))=true then some t.1 else none)=some c:=h
  split at h
  ·exact aC (a:=t) (by simp) (Option.some.inj h)
  ·cases h
theorem Vx{rows:List (List Nat)}(h1:rows≠ [])(h2:∀row ∈ rows,row≠ [])(y:Nat):allStrs y rows≠ []:=by
 intro e
 have:=ni rows y
 rw[e]at this
 cases rows with
 | nil=>exact h1 rfl
 | cons r rows=>
  have hr:=h2 r (by simp)
  cases r with
  | nil=>exact hr rfl
  | cons c r=>cases this
theorem xF{d:FD}{l:List Nat}(h:∀c ∈ l,c<16777216):l.flatMap (jF d)=l.flatMap (aL d).bytes:=by
 induction l with
 | nil=>rfl
 | cons c l ih=>rw[List.flatMap_cons,List.flatMap_cons,fQ d (h c (by simp)),ih (fun q hq=>h q (by simp[hq]))]
noncomputable def JT(A:bB):Sp:=fun vs H Q _=>∃(a fa dx gl sl kd le dl:Addr)(W:List Addr)(d:FD)(rows:List (List Nat))(last:Option Nat × Option Nat),vs= [.ref a,.ref fa,.ref le]∧pC H a rows∧rows≠ []∧(∀row ∈ rows,(row≠ []∧row.length≤640)∧∀c ∈ row,c<16777216)∧rows.flatten.length≤256∧H le=some (LeftO A dl last)∧aW A W H fa dx gl sl kd d∧(∀z ∈ W,∃o,H z=some o)∧sH d∧∀l H',Kp [kd,le] H H'→H l=none→aW A (l::W) H' fa dx gl sl kd d→H' l=some (.lst (nv (pQ (aL d) last rows).1))→H' le=some (LeftO A dl (pQ (aL d) last rows).2)→Q (.ref l) H'
theorem wk:aF ["tile","form","left","stretches","ground","runs","color","octets","plain"] ["tile","form","left"] (aB tH):=⟨rfl,rfl,rfl,by decide +kernel,rfl,by decide +kernel,by decide +kernel⟩
theorem GX{A:bB}(T:Txt K mg A):dZ P w K mg base 4 A.jo ["tile","form","left"] (JT A):=by
 refine T.jo.ok wk (fun vs H Q E h=> ?_) (fun cdv Ar outer s H vs Q E hr h=> ?_)
 ·obtain⟨a,fa,dx,gl,sl,kd,le,dl,W,d,rows,last,rfl,_⟩:=h
  rfl
 ·obtain⟨a,fa,dx,gl,sl,kd,le,dl,W,d,rows,last,rfl,Rg,hne,jy,hn,hle,f,hW,hb,k⟩:=h
  have nd:=wk.nd
  have hlk:le≠kd:=by
   obtain⟨kvs,hk,_⟩:=f.kn
   exact aN hle hk (fun e=>nomatch e)
  have ssn:=Vx hne (fun r hr=>(jy r hr).1.1) 0
  have ssl:(allStrs 0 rows).length≤307200:=by have:=yu rows 0;omega
  have Xy:∀t ∈ allStrs 0 rows,t.1<16777216:=fun t ht=>by
   obtain⟨row,hr,h⟩:=Ac rows 0 t ht
   exact(jy row hr).2 _ h
  have Mz:∀c ∈ rows.flatten,c<16777216:=fun c hc=>by
   obtain⟨row,hr,h⟩:=List.mem_flatten.mp hc
   exact(jy row hr).2 c h
  have hg:bH (allStrs 0 rows)<16777216:=by
   rw[←lC]
   refine Mz _ (xg ?_)
   intro e
   have:=ni rows 0
   rw[e]at this
   cases hs:allStrs 0 rows with
   | nil=>exact ssn hs
   | cons t r=>
    rw[hs]at this
    have h1:=yp rows 0 t (by rw[hs];simp)
    unfold spread at this
    rw[List.flatMap_cons]at this
    have:=congrArg List.length this
    simp at this
    omega
  generalize hss:allStrs 0 rows=ss at *
  generalize hgg:bH ss=g at *
  have hrs:∀t ∈ du ss g,t.1<16777216∧1≤t.2.2.2:=fun t ht=>by
   have hm:t ∈ ss:=(List.mem_filter.mp ht).1
   exact⟨Xy t hm,yp rows 0 t (by rw[hss];exact hm)⟩
  have hrl:(du ss g).length≤307200:=by have:=u9 ss g;omega
  have hcc:∀c,gm (du ss g)=some c→c<16777216:=fun c h=>by
   obtain⟨t,ht,rfl⟩:=aax h
   exact(hrs t ht).1
  have Fg:pQ (aL d) last rows=if du ss g= []then ((aZ (aL d) last.1 g).1::(aZ (aL d) last.1 g).2,(some g,last.2))
    else if (1::rows.flatten.flatMap (aL d).bytes).length≤(ie (aL d) last g (du ss g)).length then (1::rows.flatten.flatMap (aL d).bytes,(none,none))else (ie (aL d) last g (du ss g),(some g,gm (du ss g))):=by
   unfold pQ
   rw[hss,hgg]
  refine⟨_,(ak (aQ (i:=3) nd rfl (Or.inl rfl) (cC (rO T) (hr.mono (by decide)) T.fc rfl (aa (pv 0) aq)))
   (ak (aQ (i:=4) nd rfl (Or.inl rfl) (cC (Bl T) (hr.mono (by decide)) T.jU rfl (aa (pv 3) aq)))
   (ak (aQ (i:=5) nd rfl (Or.inl rfl) (cC (Bo T) (hr.mono (by decide)) T.jV rfl (aa (pv 4) (aa (pv 3) aq))))
   (ak (aQ (i:=6) nd rfl (Or.inl rfl) (cC (GP T) (hr.mono (by decide)) T.jn rfl (aa (pv 5) aq)))
   (ak (aQ (i:=7) nd rfl (Or.inl rfl) (cC (GQ T) (hr.mono (by decide)) T.jq rfl (aa (pv 4) (aa (pv 5) (aa (pv 6) (aa (pv 1) (aa (pv 2) aq)))))))
   (ak (bC (pI (pv 5) (fun _=>rfl))
    (ak (aR (fV PySem.F.plainAttrs_list PySem.F.slot_list_extend PySem.F.type_list_extend d7 (pv 7) (aa (cC (GR T) (hr.mono (by decide)) T.jr rfl (aa (pv 5) (aa (pv 6) (aa (pv 1) aq)))) aq)))
   (ak (aQ (i:=8) nd rfl (Or.inl rfl) (bf iQ (cG (aa (bD T.QZ) aq)) (cC (uw T) (hr.mono (by decide)) T.gf rfl (aa (pv 0) (aa (pv 1) aq)))))
   (ak (bC (aJ Ks (bO bA rfl T.gM PySem.boot_len (aa (pv 7) aq)) (bO bA rfl T.gM PySem.boot_len (aa (pv 8) aq)) (aP _))
    (ak (oH T.vM 0 (pv 2) gP)
   (ak (oH T.vM 1 (pv 2) gP)
   (au (aG (pv 8))))) aM)
   (au (oH T.vM 1 (pv 2) (pv 6)))))) aM)
   (ak (oH T.vM 0 (pv 2) (pv 4))
   (au (aG (pv 7)))))))))),?_⟩
  refine aC rfl (YJ (a:=a) (b:=rows) rfl Rg (fun r hr=>(jy r hr).1) (by omega) (fun l3 H1 s1 hl3 sg1=> ?_))
  rw[hss]at sg1
  refine aC rfl (vq (a:=l3) (b:=ss) rfl ⟨sg1,ssn,ssl,fun H2 s2=> ?_⟩)
  rw[hgg]
  refine aC rfl (aC rfl (jM (a:=l3) (b:=ss) (c:=g) rfl (sg1.same s2) ⟨ssl,fun l5 H3 s3 YT sg5=> ?_⟩))
  refine aC rfl (vq (a:=l5) rfl ⟨sg5,?_⟩)
  have Xz:bu H H3:=s1.trans (s2.trans s3)
  generalize hrr:du ss g=rs at *
  generalize hco:gm rs=col at *
  have f3:=f.same Xz
  refine aC rfl (aC rfl (aC rfl (aC rfl (aC rfl ⟨l5,fa,dx,gl,sl,kd,le,dl,W,d,g,rs,col,last,rfl,sg5,Xz _ _ hle,f3,fun z hz=>(hW z hz).imp fun o e=>Xz _ _ e,hb,hg,hcc,fun l7 H4 kp4 hl7 f7 h7=> ?_⟩))))
  have aaA:Kp [kd] H H4:=(Xz.kp _).trans kp4
  have hle4:H4 le=some (LeftO A dl last):=aaA _ _ hle (by simpa using hlk)
  have XC:H l7=none:=by
   by_cases q:H l7=none
   ·exact q
   ·obtain⟨o,ho⟩:=Option.ne_none_iff_exists'.mp q
    rw[Xz _ _ ho]at hl7
    cases hl7
  have sg4:sS H4 l5 rs:=by
   obtain⟨kvs,hk,_⟩:=f3.kn
   exact sg5.stay kp4 hk
  have ab3:l7≠le:=(ao hle XC).symm
  have leU:∀ {H':Hp}{o:HO},Kp [kd] H H'→Kp [kd,le] H (upd H' le o):=fun kp b o' e n=>oth (fun q=>n (by simp[q])) (kp _ _ e (fun q=>n (by simp at q;simp[q])))
  have leF:∀ {H':Hp}{W':List Addr}{o:HO},H' le=some (LeftO A dl last)→aW A W' H' fa dx gl sl kd d→aW A W' (upd H' le o) fa dx gl sl kd d:=fun h f=>f.mono (fun o e=>oth (aN f.ob h fun e=>by injection e with _ _ e;have:=congrArg List.length e;simp at this) e) (fun o e=>oth hlk.symm e) fun b ns _ e=>oth (aN e h (fun e=>nomatch e)) e
  obtain⟨ts,YT,pt⟩:=id sg4
  cases rs with
  | nil=>
   cases ts with
   | cons t ts=>exact absurd pt.len (by simp)
   | nil=>
    rw[if_pos rfl]at Fg
    rw[Fg]at k
    refine aC rfl (aC (.inl ⟨_,bj.of YT,rfl⟩) ?_)
    refine aC rfl (aC rfl (lJ rfl hle4 (by simp) ?_))
    refine aC rfl (k l7 _ (leU aaA) XC (leF hle4 f7) (oth ab3 h7) aj)
  | cons r0 rs=>
   cases ts with
   | nil=>exact absurd pt.len (by simp)
   | cons t ts=>
    rw[if_neg (by simp)]at Fg
    refine aC rfl (aC (.inl ⟨_,bj.of YT,rfl⟩) ?_)
    have afS:(nO (aL d) last g (r0::rs) col).length≤9:=by
     have hgl:(aZ (aL d) last.1 g).2.length≤4:=jE (aL d) (by show d.bits / 8≤4;omega) _ _
     have hcl:(dB (aL d) last.2 col).2.length≤4:=by
      unfold dB
      cases col with
      | none=>simp
      | some c=>
       dsimp only
       split
       ·simp
       ·rw[←fQ d (hcc c rfl)];exact fu hb c
     unfold nO
     rw[if_neg (by simp),List.length_cons,List.length_append]
     omega
    have hrun:=qW hb col (r0::rs) (fun t ht=>(hrs t ht).1)
    refine cW rfl (.inl ⟨rfl,_,bj.of h7⟩) (aC rfl (aC rfl (aC rfl ⟨l5,fa,dx,gl,sl,kd,l7::W,d,r0::rs,col,rfl,sg4,f7,f7.uy kp4 (fun z hz=>(hW z hz).imp fun o e=>Xz _ _ e) h7,hb,hrs,hrl,fun l9 H5 MJ hl9 f9 h9=> ?_⟩)))
    have h75:=f7.stay MJ h7
    refine Em (a:=l7) (b:=l9) rfl rfl h75 h9 (by rw[aD,aD,dO,List.length_cons];omega) ?_
    have YW:nO (aL d) last g (r0::rs) col++((r0::rs).length::(r0::rs).flatMap (kW (aL d) col))=ie (aL d) last g (r0::rs):=by
     unfold nO ie
     rw[if_neg (by simp),hco,List.cons_append,List.append_assoc]
    rw[←bG,YW]
    have f6:aW A (l7::W) (upd H5 l7 (.lst (nv (ie (aL d) last g (r0::rs))))) fa dx gl sl kd d:=(f9.less (fun z hz=>List.mem_cons_of_mem _ hz)).at h75 (by simp)
    have aaB:Kp [kd] H (upd H5 l7 (.lst (nv (ie (aL d) last g (r0::rs))))):=fun b o e n=>oth (ao e XC) (MJ _ _ (aaA _ _ e n) n)
    have h76:upd H5 l7 (.lst (nv (ie (aL d) last g (r0::rs)))) l7=some (.lst (nv (ie (aL d) last g (r0::rs)))):=aj
    generalize upd H5 l7 _=H6 at *
    have hcl:(ie (aL d) last g (r0::rs)).length≤2000000:=by
     rw[←YW,List.length_append,List.length_cons]
     omega
    refine⟨by rw[dO];simp,fun t8 ht8=> ?_⟩
    have f8:=f6.same (az (q:= .lst [V.int 1]) ht8)
    have XD:Kp [kd] H (upd H6 t8 (.lst [V.int 1])):=aaB.trans ((az ht8).kp _)
    refine aC rfl (aC rfl ⟨a,fa,dx,gl,sl,kd,l7::W,d,rows,rfl,Rg.stay (kd:=kd) (fun e=>f.stay XD e),f8,f8.uy XD hW (old ht8 h76),hb,fun r hr=>(jy r hr).2,by omega,fun l10 H8 Py ahI f10 h10=> ?_⟩)
    rw[xF Mz]at h10
    have hfl:(rows.flatten.flatMap (aL d).bytes).length≤1024:=by
     rw[←xF Mz]
     have:=nM hb rows.flatten
     omega
    have aeF:H8 t8=some (.lst [V.int 1]):=f8.stay Py aj
    refine Em (a:=t8) (b:=l10) rfl rfl aeF h10 (by rw[aD,dO,List.length_singleton];omega) (fun z hz=> ?_)
    have ez:HO.lst ([V.int 1] ++ nv (rows.flatten.flatMap (aL d).bytes))= .lst (nv (1::rows.flatten.flatMap (aL d).bytes)):=rfl
    rw[ez]
    have aaC:Kp [kd] H (upd H8 z (.lst (nv (1::rows.flatten.flatMap (aL d).bytes)))):=(XD.trans Py).trans ((az hz).kp _)
    have hzH:H z=none:=by
     by_cases q:H z=none
     ·exact q
     ·obtain⟨o',ho'⟩:=f10.alive (XD.trans Py) (Option.ne_none_iff_exists'.mp q)
      rw[hz]at ho'
      cases ho'
    have f9z:aW A (z::W) (upd H8 z (.lst (nv (1::rows.flatten.flatMap (aL d).bytes)))) fa dx gl sl kd d:=((f10.add hz).same (az hz)).less (fun q hq=>by
     rcases List.mem_cons.mp hq with rfl | hq
     ·simp
     ·simp[hq])
    have f97:aW A (l7::W) (upd H8 z (.lst (nv (1::rows.flatten.flatMap (aL d).bytes)))) fa dx gl sl kd d:=(f10.same (az hz)).less (fun q hq=>by simp at hq;simp[hq])
    have h79:upd H8 z (.lst (nv (1::rows.flatten.flatMap (aL d).bytes))) l7=some (.lst (nv (ie (aL d) last g (r0::rs)))):=old hz (f8.stay Py (old ht8 h76))
    have hz9:upd H8 z (.lst (nv (1::rows.flatten.flatMap (aL d).bytes))) z=some (.lst (nv (1::rows.flatten.flatMap (aL d).bytes))):=aj
    generalize upd H8 z _=H9 at *
    have XF:H9 le=some (LeftO A dl last):=aaC _ _ hle (by simpa using hlk)
    have zle:z≠le:=(ao hle hzH).symm
    refine aC rfl (cP (a:=l7) rfl (.inl (bj.of h79)) (aC rfl (cP (a:=z) rfl (.inl (bj.of hz9)) (cP rfl rfl (aC rfl (bJ (fun c=> ?_) fun c=> ?_))))))
    ·rw[aD,aD]at c
     rw[if_pos (by omega)]at Fg
     rw[Fg]at k
     refine aC rfl (lJ rfl XF (by simp) ?_)
     refine aC rfl (lJ rfl aj (by simp) ?_)
     rw[bM]
     exact aC rfl (k z _ (leU aaC) hzH (leF XF f9z) (oth zle hz9) aj)
    ·rw[aD,aD]at c
     rw[if_neg (by omega)]at Fg
     rw[Fg]at k
     refine aC rfl (aC rfl (lJ rfl XF (by simp) ?_))
     refine aC rfl (aC rfl (lJ rfl aj (by simp) ?_))
     rw[bM]
     exact aC rfl (k l7 _ (leU aaC) XC (leF XF f97) (oth ab3 h79) aj)
noncomputable abbrev Tt(f:Sw32.Form)(l:List (List (List Nat))):List Nat × (Option Nat × Option Nat):=l.foldl (Eb f) ([],(none,none))
theorem Fi(f:Sw32.Form)(l:List (List (List Nat)))(t:List (List Nat)):Tt f (l ++ [t])=((Tt f l).1++(pQ f (Tt f l).2 t).1,(pQ f (Tt f l).2 t).2):=by
 show List.foldl _ _ (l ++ [t])=_
 rw[List.foldl_append]
 rfl
noncomputable abbrev Nr(rows:List (List Nat))(n2 j i:Nat):List (List (List Nat)):=((List.range j).flatMap fun j=>(List.range n2).map fun i=>cut rows (16*i) (16*j) 16 16)++(List.range i).map fun i=>cut rows (16*i) (16*j) 16 16
theorem Fj(rows:List (List Nat))(n2 j i:Nat):Nr rows n2 j (i+1)=Nr rows n2 j i ++ [cut rows (16*i) (16*j) 16 16]:=by
 unfold Nr
 rw[j5,List.append_assoc]
theorem Vy(rows:List (List Nat))(n2 j:Nat):Nr rows n2 j n2=Nr rows n2 (j+1) 0:=by
 unfold Nr
 rw[List.range_succ,List.flatMap_append]
 simp
noncomputable def GZ(A:bB):Sp:=fun vs H Q _=>∃(a fa dx gl sl kd:Addr)(W:List Addr)(d:FD)(rows:List (List Nat))(w:Nat),vs= [.ref a,.ref fa]∧pC H a rows∧rows≠ []∧rows.length≤480∧1≤w∧w≤640∧(∀row ∈ rows,row.length=w∧∀c ∈ row,c<16777216)∧aW A W H fa dx gl sl kd d∧(∀z ∈ W,∃o,H z=some o)∧sH d∧Pn A W H fa dx gl sl kd d (nj (aL d) rows w) Q
theorem uz:aF ["rows","form","octets","left","y","x","tile","row"] ["rows","form"] (aB lZ):=⟨rfl,rfl,rfl,by decide +kernel,rfl,by decide +kernel,by decide +kernel⟩
theorem Fl{A:bB}(T:Txt K mg A):dZ P w K mg base 5 A.iu ["rows","form"] (GZ A):=by
 refine T.iu.ok uz (fun vs H Q E h=> ?_) (fun cdv Ar outer s H vs Q E hr h=> ?_)
 ·obtain⟨a,fa,dx,gl,sl,kd,W,d,rows,w,rfl,_⟩:=h
  rfl
 ·obtain⟨a,fa,dx,gl,sl,kd,W,d,rows,w,rfl,Rg,hne,hh,w1,w2,jy,f,hW,hb,k⟩:=h
  have nd:=uz.nd
  obtain⟨rs,ha,p⟩:=id Rg
  have hfs:(aL d).size≤4:=by show d.bits / 8≤4;omega
  obtain⟨r0,hr0⟩:∃r0,rows[0]? =some r0:=pB (by cases rows with | nil=>exact absurd rfl hne | cons a b=>simp)
  obtain⟨ra0,aaD,aeG⟩:=p.get' hr0
  have hw0:r0.length=w:=(jy r0 (List.mem_of_getElem? hr0)).1
  refine⟨_,(ak (aQ (i:=2) nd rfl (Or.inl rfl) (cG aq))
   (ak (aQ (i:=3) nd rfl (Or.inl rfl) (Dn T.vM T.U3 (My T) (hr.mono (by decide)) rfl))
   (ak (dC PassesOwn.never rfl (uR rfl T.jb (aa aA (aa (bO bA rfl T.gM PySem.boot_len (aa (pv 0) aq)) (aa (bD T.Dy) aq)))) (aX (i:=4) nd rfl (Or.inl rfl) (Or.inl rfl))
    (au (dC PassesOwn.never rfl (uR rfl T.jb (aa aA (aa (bO bA rfl T.gM PySem.boot_len (aa (bL (aO K) (pv 0) aA (fun _ _=>rfl)) aq)) (aa (bD T.Dy) aq)))) (aX (i:=5) nd rfl (Or.inr rfl) (Or.inl rfl))
    (ak (Df (i:=6) rfl nd rfl rfl (Jk rfl rfl rfl rfl) (ik (bQ (cA K) (pv 0) (bz (pv 4)) (bz (bf eY (pv 4) (bD T.Dy))))) (gj (own:= [("row",7)]) (show xY ["rows","form","octets","left","y","x","tile","row"] (aB lZ) _ _=true by decide +kernel)) (fun _ _ _ _ _=>(aX (i:=7) nd rfl (Or.inl rfl) (Or.inr rfl))) (fun _ _ _ _ _=>jz) (fun _ _ _ _ _=>(bQ (cA K) (pv 7) (bz (pv 5)) (bz (bf eY (pv 5) (bD T.Dy))))))
   (au (aR (fV PySem.F.plainAttrs_list PySem.F.slot_list_extend PySem.F.type_list_extend d7 (pv 2) (aa (cC (GX T) (hr.mono (by decide)) T.jo rfl (aa (pv 6) (aa (pv 1) (aa (pv 3) aq)))) aq))))))))
   (au (aG (pv 2)))))),?_⟩
  refine⟨by decide,fun o ho=> ?_⟩
  refine fun le dl hle hdl ahO=>⟨le,dl,rfl,aj,rfl,?_⟩
  rw[bM]
  obtain⟨aeH,aaE⟩:=aU hle
  obtain⟨ahP,ahQ⟩:=aU hdl
  have s1:bu H (upd (upd (upd H o (.lst [])) dl (.own le)) le (LeftO A dl (none,none))):=fun b o' e=>oth (ao e aeH) (old hdl (old ho e))
  have f1:aW A (o::W) (upd (upd (upd H o (.lst [])) dl (.own le)) le (LeftO A dl (none,none))) fa dx gl sl kd d:=(f.add ho).same s1
  have ho1:upd (upd (upd H o (.lst [])) dl (.own le)) le (LeftO A dl (none,none)) o=some (.lst (nv [])):=oth aaE.symm (old hdl aj)
  have aeI:upd (upd (upd H o (.lst [])) dl (.own le)) le (LeftO A dl (none,none)) le=some (LeftO A dl (none,none)):=aj
  dsimp only[kZ]
  generalize upd (upd (upd H o (.lst [])) dl (.own le)) le (LeftO A dl (none,none))=H1 at *
  refine aC rfl (cP (a:=a) rfl (.inl (bj.of (s1 _ _ ha))) (e42 (a:=(0 :Nat)) (c:=16) (d:=(rows.length+15) / 16) rfl ?_ ?_))
  ·rw[List.length_map,p.len]
   exact YQ (by omega) (by omega) (by omega)
  refine ou ((rows.length+15) / 16) (fun j σ H2=>∃(v4 v5 v6:Option V),σ= [some (.ref a),some (.ref fa),some (.ref o),some (.ref le),v4,v5,v6,none]∧Kp [kd] H H2∧aW A (o::W) H2 fa dx gl sl kd d∧H2 o=some (.lst (nv (Tt (aL d) (Nr rows ((w+15) / 16) j 0)).1))∧H2 le=some (LeftO A dl (Tt (aL d) (Nr rows ((w+15) / 16) j 0)).2)∧(Tt (aL d) (Nr rows ((w+15) / 16) j 0)).1.length≤1025*(j*((w+15) / 16)))
   ⟨_,_,_,rfl,s1.kp _,f1,ho1,aeI,by simp[Nr]⟩ (fun i σ H2 hi _=>hi) (fun σ H2 _=>Nat.le_refl _) ?_ ?_
  ·rintro j σ H2' v H2 hj ⟨v4,v5,v6,rfl,lN,f2,ho2,XH,hb2⟩ ⟨rfl,rfl⟩
   refine aC rfl (jN (a:=a) rfl rfl (bj.of (f.stay lN ha)) (aV (j:=0) (mD aaD)) (cP (a:=ra0) rfl (.inl (bj.of (f.stay lN aeG))) (e42 (a:=(0 :Nat)) (c:=16) (d:=(w+15) / 16) rfl ?_ ?_)))
   ·rw[aD,hw0]
    exact YQ (by omega) (by omega) (by omega)
   refine ou ((w+15) / 16) (fun i σ H3=>∃(v5 v6:Option V),σ= [some (.ref a),some (.ref fa),some (.ref o),some (.ref le),some (.int (((0 :Nat):Int)+(j:Nat)*16)),v5,v6,none]∧Kp [kd] H H3∧aW A (o::W) H3 fa dx gl sl kd d∧H3 o=some (.lst (nv (Tt (aL d) (Nr rows ((w+15) / 16) j i)).1))∧H3 le=some (LeftO A dl (Tt (aL d) (Nr rows ((w+15) / 16) j i)).2)∧(Tt (aL d) (Nr rows ((w+15) / 16) j i)).1.length≤1025*(j*((w+15) / 16)+i))
    ⟨_,_,rfl,lN,f2,ho2,XH,hb2⟩ (fun i σ H2 hi _=>hi) (fun σ H2 _=>Nat.le_refl _) ?_ ?_
   ·rintro i σ H3' v H3 hi ⟨v5,v6,rfl,ig,f3,Wi,XJ,hb3⟩ ⟨rfl,rfl⟩
    have ej:((0 :Nat):Int)+(j:Nat)*16=((16*j:Nat):Int):=by omega
    have ei:((0 :Nat):Int)+(i:Nat)*16=((16*i:Nat):Int):=by omega
    rw[ej,ei]
    refine aC rfl (aC rfl (aC rfl (aC rfl (cP rfl rfl (aC rfl (cP (a:=a) rfl (bj.of (f.stay ig ha)) (fun t ht=> ?_)))))))
    dsimp only
    rw[show ((16*j:Nat):Int)+16=((16*j+16 :Nat):Int) by omega,dg,←List.map_drop,←List.map_take,Nat.add_sub_cancel_left]
    refine aC (a:=t) rfl ⟨⟨_,bj.of aj⟩,fun D hD=> ?_⟩
    obtain⟨hD1,hD2⟩:=aU hD
    have p3:P2 (fun r row=>H3 r=some (.lst (nv row))) ((rs.drop (16*j)).take 16) ((rows.drop (16*j)).take 16):=((p.drop _).take _).imp fun a b q=>f.stay ig q
    refine xX (xs:=((rs.drop (16*j)).take 16).map V.ref) (fun n H4=>bu H3 H4∧H4 t=some (.lst (((rs.drop (16*j)).take 16).map V.ref))∧∃qs:List Addr,H4 D=some (.lst (qs.map V.ref))∧P2 (fun r row=>H4 r=some (.lst (nv row))∧r≠D) qs ((((rows.drop (16*j)).take 16).take n).map fun row=>(row.drop (16*i)).take 16)) ⟨(az ht).trans (az hD),old hD aj,[],aj,trivial⟩ (fun n H4 hi ⟨s2,h2,_⟩=>bj.of h2) ?_ ?_
    ·rintro n v H4 hn ⟨s4,h4,qs,hd,pq⟩
     rw[List.getElem?_map]at hn
     obtain⟨r,hr1,rfl⟩:=Option.map_eq_some_iff.mp hn
     obtain⟨row,hrow,hrr⟩:=p3.get hr1
     have hql:qs.length≤16:=by
      have:=pq.len
      rw[List.length_map,List.length_take,List.length_take]at this
      omega
     refine⟨rfl,aC rfl (aC rfl (aC rfl (aC rfl (cP rfl rfl (aC rfl (cP (a:=r) rfl (bj.of (s4 _ _ hrr)) (fun t2 ht2=> ?_)))))))⟩
     dsimp only
     rw[show ((16*i:Nat):Int)+16=((16*i+16 :Nat):Int) by omega,dg,dY,fG,Nat.add_sub_cancel_left]
     have hDt:t2≠D:=(ao hd ht2).symm
     refine⟨_,old ht2 hd,by rw[List.length_map,dO];omega,fun b o e=>oth (ao e hD1) (old ht2 (s4 _ _ e)),oth hD2.symm (old ht2 h4),qs ++ [t2],?_,?_⟩
     ·rw[aj,List.map_append];rfl
     ·rw[take_snoc hrow,List.map_append]
      exact P2.snoc (pq.imp fun a b q=>⟨oth q.2 (old ht2 q.1),q.2⟩) ⟨oth hDt aj,hDt⟩
    ·rintro H4 ⟨s4,h4,qs,hd,pq⟩
     rw[List.length_map,p3.len,List.take_length]at pq
     have aeJ:pC H4 D (cut rows (16*i) (16*j) 16 16):=⟨qs,hd,pq.imp fun a b q=>q.1⟩
     have f4:=f3.same s4
     have SM:=s4 _ _ Wi
     have kp4:Kp [kd] H H4:=ig.trans (s4.kp _)
     have hm:∀q ∈ cut rows (16*i) (16*j) 16 16,∃row ∈ rows,q=(row.drop (16*i)).take 16:=fun q hq=>by
      obtain⟨row,hr,rfl⟩:=List.mem_map.mp hq
      exact⟨row,List.mem_of_mem_drop (List.mem_of_mem_take hr),rfl⟩
     refine cW rfl (.inl ⟨rfl,_,bj.of SM⟩) (aC rfl (aC rfl (aC rfl ⟨D,fa,dx,gl,sl,kd,le,dl,o::W,d,⟨_,(Tt (aL d) (Nr rows ((w+15) / 16) j i)).2,rfl,aeJ,?_,?_,?_,s4 _ _ XJ,f4,f4.uy kp4 hW SM,hb,fun l5 H5 MJ YT f5 h5 aeK=> ?_⟩⟩)))
     ·intro e
      have:=congrArg List.length e
      unfold cut at this
      rw[List.length_map,List.length_take,List.length_drop,List.length_nil]at this
      omega
     ·intro q hq
      obtain⟨row,hr,rfl⟩:=hm q hq
      obtain⟨q1,q2⟩:=jy row hr
      refine⟨⟨fun e=> ?_,by rw[List.length_take];omega⟩,fun c hc=>q2 c (List.mem_of_mem_drop (List.mem_of_mem_take hc))⟩
      have:=congrArg List.length e
      rw[List.length_take,List.length_drop,List.length_nil]at this
      omega
     ·exact JC _ _ _ _ _
     ·have hok:o≠kd:=f4.Ez SM
      have ho5:H5 o=_:=MJ _ _ SM (by simp[hok,aaE.symm])
      have htl:=HW (aL d) hfs (Tt (aL d) (Nr rows ((w+15) / 16) j i)).2 (cut rows (16*i) (16*j) 16 16) (JC _ _ _ _ _)
      have hbound:j*((w+15) / 16)≤30*40:=Nat.mul_le_mul (by omega) (by omega)
      refine Em (a:=o) (b:=l5) rfl rfl ho5 h5 (by rw[aD,aD,dO];omega) ?_
      refine e25 rfl ?_ ?_ ?_ ?_ ?_
      ·intro b o' e n
       have Gn:b≠le:=ao e (by exact(aU hle).1)
       exact oth (ao e ho) (MJ _ _ (kp4 _ _ e n) (by simp at n;simp[n,Gn]))
      ·exact(f5.less (fun z hz=>List.mem_cons_of_mem _ hz)).at ho5 (by simp)
      ·rw[aj,Fj,Fi,bG]
      ·rw[Fj,Fi]
       exact oth aaE aeK
      ·rw[Fj,Fi,List.length_append]
       omega
   ·rintro σ H3 ⟨v5,v6,rfl,ig,f3,Wi,XJ,hb3⟩
    rw[Vy]at Wi XJ hb3
    exact⟨_,_,_,rfl,ig,f3,Wi,XJ,by rw[Nat.add_mul,Nat.one_mul];exact hb3⟩
  ·rintro σ H2 ⟨v4,v5,v6,rfl,lN,f2,ho2,XH,hb2⟩
   refine aC rfl (k o H2 lN ho f2 ?_)
   rw[ho2]
   unfold nj qK
   simp[Nr]
theorem JV(n:Nat)(l:List Nat):(l.flatMap (Sw32.be n)).length=n*l.length:=by
 induction l with
 | nil=>simp
 | cons a l ih=>rw[List.flatMap_cons,List.length_append,ih,bW,List.length_cons,Nat.mul_add];omega
noncomputable def MK(A:bB):Sp:=fun vs H Q _=>∃(b db:Addr)(x y bw bh:Nat),vs= [.ref b]∧H b=some (gh A db x y bw bh)∧∀l H',bu H H'→H l=none→H' l=some (.lst (nv ([x,y,bw,bh].flatMap (Sw32.be 2))))→Q (.ref l) H'
theorem yO:aF ["box","octets","number"] ["box"] (aB wQ):=⟨rfl,rfl,rfl,by decide +kernel,rfl,by decide +kernel,by decide +kernel⟩
theorem JW{A:bB}(T:Txt K mg A):dZ P w K mg base 2 A.jW ["box"] (MK A):=by
 refine T.jW.ok yO (fun vs H Q E h=> ?_) (fun cdv Ar outer s H vs Q E hr h=> ?_)
 ·obtain⟨b,db,x,y,bw,bh,rfl,_⟩:=h
  rfl
 ·obtain⟨b,db,x,y,bw,bh,rfl,hb,k⟩:=h
  have nd:=yO.nd
  refine⟨_,(ak (aQ (i:=1) nd rfl (Or.inl rfl) (cG aq))
   (ak (dC PassesOwn.never rfl (zg (gQ (aa (bc T.dD 0 (pv 0)) (aa (bc T.dD 1 (pv 0)) (aa (bc T.dD 2 (pv 0)) (aa (bc T.dD 3 (pv 0)) aq)))))) (aX (i:=2) nd rfl (Or.inl rfl) (Or.inl rfl))
    (au (aR (fV PySem.F.plainAttrs_list PySem.F.slot_list_extend PySem.F.type_list_extend d7 (pv 1) (aa (cC (bN T) (hr.mono (by decide)) T.bI rfl (aa (pv 2) (aa aA aq))) aq)))))
   (au (aG (pv 1))))),?_⟩
  refine⟨by decide,fun l hl=> ?_⟩
  have hb1:upd H l (.lst []) b=some (gh A db x y bw bh):=old hl hb
  refine aC rfl (vy rfl hb1 rfl (aC rfl (vy rfl hb1 rfl (aC rfl (vy rfl hb1 rfl (aC rfl (jN rfl hb1 rfl (by rw[dO];simp) (fun t ht=>⟨t,rfl,⟨_,iT.of aj⟩,?_⟩))))))))
  refine Cw (K:=K) (xs:=nv [x,y,bw,bh]) (fun i σ H2=>∃v2,σ= [some (.ref b),some (.ref l),v2]∧bu H H2∧H2 t=some (.tup (nv [x,y,bw,bh]))∧H2 l=some (.lst (nv (([x,y,bw,bh].take i).flatMap (Sw32.be 2))))) ⟨_,rfl,(az hl).trans (az ht),aj,old ht aj⟩ (fun i σ H2 _ ⟨_,_,_,h2,_⟩=>iT.of h2) ?_ ?_
  ·rintro i v σ H2 hi ⟨v2,rfl,s2,ht2,hl2⟩
   obtain⟨n,hn,rfl⟩:=uf hi
   have hil:i<4:=(List.getElem?_eq_some_iff.mp hn).1
   refine cW rfl (.inl ⟨rfl,_,bj.of hl2⟩) (aC rfl ⟨n,2,rfl,by decide,fun l2 hl3=> ?_⟩)
   have h1:=JV 2 ([x,y,bw,bh].take i)
   rw[List.length_take]at h1
   have h2:=bW 2 n
   refine Em (a:=l) (b:=l2) rfl rfl (old hl3 hl2) aj (by rw[aD,aD,dO];omega) ?_
   have htl:t≠l:=aN ht2 hl2 (fun e=>nomatch e)
   refine e13 rfl (fun b o e=>oth (ao e hl) (old hl3 (s2 _ _ e))) (oth htl (old hl3 ht2)) ?_
   rw[aj,take_snoc hn,List.flatMap_append,bG]
   simp
  ·rintro σ H2 ⟨v2,rfl,s2,ht2,hl2⟩
   exact aC rfl (k l H2 s2 hl hl2)
noncomputable abbrev Pz(f:Sw32.Form)(t:Sg):List Nat:=f.bytes t.1++(Sw32.be 2 t.2.1++(Sw32.be 2 t.2.2.1++(Sw32.be 2 t.2.2.2++Sw32.be 2 1)))
theorem Vz{d:FD}(hb:sH d){t:Sg}(ht:t.1<16777216):(Pz (aL d) t).length≤12:=by
 have:((aL d).bytes t.1).length≤4:=by rw[←fQ d ht];exact fu hb _
 simp only[Pz,List.length_append,bW]
 omega
theorem wu{d:FD}(hb:sH d):∀l:List Sg,(∀t ∈ l,t.1<16777216)→(l.flatMap (Pz (aL d))).length≤12*l.length
 | [],_=>by simp
 | t::l,h=>by
  have h1:=Vz hb (h t (by simp))
  have h2:=wu hb l (fun q hq=>h q (by simp[hq]))
  rw[List.flatMap_cons,List.length_append,List.length_cons]
  omega
theorem SN{rows:List (List Nat)}(hne:rows≠ [])(h:∀row ∈ rows,row≠ []∧∀c ∈ row,c<16777216):bH (allStrs 0 rows)<16777216:=by
 rw[←lC]
 have:Sw32.common rows.flatten ∈ rows.flatten:=xg (by
  cases rows with
  | nil=>exact absurd rfl hne
  | cons r rows=>
   have:=(h r (by simp)).1
   cases r with
   | nil=>exact absurd rfl this
   | cons c r=>simp)
 obtain⟨row,hr,hc⟩:=List.mem_flatten.mp this
 exact(h row hr).2 _ hc
noncomputable def Fo(A:bB):Sp:=fun vs H Q _=>∃(a fa dx gl sl kd:Addr)(W:List Addr)(d:FD)(rows:List (List Nat)),vs= [.ref a,.ref fa]∧pC H a rows∧rows≠ []∧(∀row ∈ rows,(row≠ []∧row.length≤640)∧∀c ∈ row,c<16777216)∧rows.flatten.length≤307200∧aW A W H fa dx gl sl kd d∧(∀z ∈ W,∃o,H z=some o)∧sH d∧Pn A W H fa dx gl sl kd d (qJ (aL d) rows) Q
theorem rP:aF ["rows","form","stretches","ground","runs","octets","color","x","y","length","number"] ["rows","form"] (aB oW):=⟨rfl,rfl,rfl,by decide +kernel,rfl,by decide +kernel,by decide +kernel⟩
theorem Ce{A:bB}(T:Txt K mg A):dZ P w K mg base 3 A.gF ["rows","form"] (Fo A):=by
 refine T.gF.ok rP (fun vs H Q E h=> ?_) (fun cdv Ar outer s H vs Q E hr h=> ?_)
 ·obtain⟨a,fa,dx,gl,sl,kd,W,d,rows,rfl,_⟩:=h
  rfl
 ·obtain⟨a,fa,dx,gl,sl,kd,W,d,rows,rfl,Rg,hne,jy,hn,f,hW,hb,k⟩:=h
  have nd:=rP.nd
  have ssn:=Vx hne (fun r hr=>(jy r hr).1.1) 0
  have ssl:(allStrs 0 rows).length≤307200:=by have:=yu rows 0;omega
  have Xy:∀t ∈ allStrs 0 rows,t.1<16777216:=fun t ht=>by
   obtain⟨row,hr,h⟩:=Ac rows 0 t ht
   exact(jy row hr).2 _ h
  have hg:bH (allStrs 0 rows)<16777216:=SN hne fun r hr=>⟨(jy r hr).1.1,(jy r hr).2⟩
  have aeL:qJ (aL d) rows=Sw32.be 4 (du (allStrs 0 rows) (bH (allStrs 0 rows))).length++((aL d).bytes (bH (allStrs 0 rows))++(du (allStrs 0 rows) (bH (allStrs 0 rows))).flatMap (Pz (aL d))):=rfl
  generalize hss:allStrs 0 rows=ss at *
  generalize hgg:bH ss=g at *
  have hrs:∀t ∈ du ss g,t.1<16777216:=fun t ht=>Xy t (List.mem_filter.mp ht).1
  have hrl:(du ss g).length≤307200:=by have:=u9 ss g;omega
  have Gn:∀c,c<16777216→((aL d).bytes c).length≤4:=fun c hc=>by rw[←fQ d hc];exact fu hb _
  refine⟨_,(ak (aQ (i:=2) nd rfl (Or.inl rfl) (cC (rO T) (hr.mono (by decide)) T.fc rfl (aa (pv 0) aq)))
   (ak (aQ (i:=3) nd rfl (Or.inl rfl) (cC (Bl T) (hr.mono (by decide)) T.jU rfl (aa (pv 2) aq)))
   (ak (aQ (i:=4) nd rfl (Or.inl rfl) (cC (Bo T) (hr.mono (by decide)) T.jV rfl (aa (pv 3) (aa (pv 2) aq))))
   (ak (aQ (i:=5) nd rfl (Or.inl rfl) (bf iQ (cC (bN T) (hr.mono (by decide)) T.bI rfl (aa (bO bA rfl T.gM PySem.boot_len (aa (pv 4) aq)) (aa aA aq))) (dJ T.dm T.dX (iJ T) (hr.mono (by decide)) (pv 1) (aa (pv 3) aq))))
   (ak (dC PassesOwn.never rfl (ik (pv 4)) (xZ K 4 rfl (bU (aX (i:=6) nd rfl (Or.inl rfl) (Or.inl rfl)) (bU (aX (i:=7) nd rfl (Or.inl rfl) (Or.inl rfl)) (bU (aX (i:=8) nd rfl (Or.inl rfl) (Or.inl rfl)) (bU (aX (i:=9) nd rfl (Or.inl rfl) (Or.inl rfl)) lW)))))
    (ak (aR (fV PySem.F.plainAttrs_list PySem.F.slot_list_extend PySem.F.type_list_extend d7 (pv 5) (aa (dJ T.dm T.dX (iJ T) (hr.mono (by decide)) (pv 1) (aa (pv 6) aq)) aq)))
   (au (dC PassesOwn.never rfl (zg (gQ (aa (pv 7) (aa (pv 8) (aa (pv 9) (aa aA aq)))))) (aX (i:=10) nd rfl (Or.inl rfl) (Or.inl rfl))
    (au (aR (fV PySem.F.plainAttrs_list PySem.F.slot_list_extend PySem.F.type_list_extend d7 (pv 5) (aa (cC (bN T) (hr.mono (by decide)) T.bI rfl (aa (pv 10) (aa aA aq))) aq))))))))
   (au (aG (pv 5)))))))),?_⟩
  refine aC rfl (YJ (a:=a) (b:=rows) rfl Rg (fun r hr=>(jy r hr).1) (by omega) (fun l3 H1 s1 hl3 sg1=> ?_))
  rw[hss]at sg1
  refine aC rfl (vq (a:=l3) (b:=ss) rfl ⟨sg1,ssn,ssl,fun H2 s2=> ?_⟩)
  rw[hgg]
  refine aC rfl (aC rfl (jM (a:=l3) (b:=ss) (c:=g) rfl (sg1.same s2) ⟨ssl,fun l5 H3 s3 YT sg5=> ?_⟩))
  have Xz:bu H H3:=s1.trans (s2.trans s3)
  generalize hrr:du ss g=rs at *
  obtain⟨ts,hts,pt⟩:=id sg5
  have htl:=pt.len
  have f3:=f.same Xz
  refine⟨_,rfl,l5,_,rfl,.inl (bj.of hts),(ts.map V.ref).length,4,rfl,by decide,fun t ht=> ?_⟩
  rw[List.length_map,htl]
  have f4:=f3.same (az (q:= .lst (nv (Sw32.be 4 rs.length))) ht)
  have s04:bu H (upd H3 t (.lst (nv (Sw32.be 4 rs.length)))):=Xz.trans (az ht)
  refine aC rfl (vU rfl ⟨f4.ob,_,rfl,fa,dx,gl,sl,kd,W,d,g,rfl,f4,fun z hz=>(hW z hz).imp fun o e=>s04 _ _ e,hg,hb,fun b H5 MJ f5 hb5 _=> ?_⟩)
  have ht5:H5 t=_:=f4.stay MJ aj
  have ab4:Kp [kd] H H5:=(s04.kp _).trans MJ
  rw[fQ d hg]at hb5
  refine Em (a:=t) (b:=b) rfl rfl ht5 hb5 (by rw[aD,aD,bW,dO];have:=Gn g hg;omega) (fun o ho=> ?_)
  have hoH:H o=none:=by
   by_cases q:H o=none
   ·exact q
   ·obtain⟨o',ho'⟩:=f5.alive ab4 (Option.ne_none_iff_exists'.mp q)
    rw[ho]at ho'
    cases ho'
  rw[←bG]
  have f6:aW A (o::W) (upd H5 o (.lst (nv (Sw32.be 4 rs.length++(aL d).bytes g)))) fa dx gl sl kd d:=(f5.add ho).same (az ho)
  have aaB:Kp [kd] H (upd H5 o (.lst (nv (Sw32.be 4 rs.length++(aL d).bytes g)))):=ab4.trans ((az ho).kp _)
  have ho6:upd H5 o (.lst (nv (Sw32.be 4 rs.length++(aL d).bytes g))) o=some (.lst (nv (Sw32.be 4 rs.length++(aL d).bytes g))):=aj
  have sg6:sS (upd H5 o (.lst (nv (Sw32.be 4 rs.length++(aL d).bytes g)))) l5 rs:=by
   obtain⟨kvs,hk,_⟩:=f4.kn
   exact((sg5.same (az ht)).stay MJ hk).same (az ho)
  dsimp only[kZ]
  generalize upd H5 o _=H6 at *
  obtain⟨ts6,ab6,pt6⟩:=id sg6
  have hole:o≠l5:=(ao (f5.stay (H:=H5) (H':=H5) (Kp.refl _ _) (f4.stay MJ (old ht hts))) ho).symm
  refine aC rfl (cW (a:=l5) rfl ⟨_,bj.of ab6⟩ ?_)
  refine lu (K:=K) (xs:=ts6.map V.ref) (fun i σ H7=>∃(v6 v7 v8 v9 v10:Option V),σ= [some (.ref a),some (.ref fa),some (.ref l3),some (.int (g:Int)),some (.ref l5),some (.ref o),v6,v7,v8,v9,v10]∧Kp [kd] H H7∧aW A (o::W) H7 fa dx gl sl kd d∧H7 l5=some (.lst (ts6.map V.ref))∧P2 (fun t g=>H7 t=some (.tup (Rh g))) ts6 rs∧H7 o=some (.lst (nv (Sw32.be 4 rs.length++((aL d).bytes g++(rs.take i).flatMap (Pz (aL d))))))) ⟨_,_,_,_,_,rfl,aaB,f6,ab6,pt6,by simpa using ho6⟩ (fun i σ H7 _ ⟨_,_,_,_,_,_,_,_,h7,_⟩=>bj.of h7) ?_ ?_
  ·rintro i v σ H7 hi ⟨v6,v7,v8,v9,v10,rfl,kp7,f7,hl7,pt7,ho7⟩
   rw[List.getElem?_map]at hi
   obtain⟨tt,htt,rfl⟩:=Option.map_eq_some_iff.mp hi
   obtain⟨q,hq,hqt⟩:=pt7.get htt
   have hq1:=hrs q (List.mem_of_getElem? hq)
   have il:i<rs.length:=(List.getElem?_eq_some_iff.mp hq).1
   have hlen:=wu hb (rs.take i) (fun t ht=>hrs t (List.mem_of_mem_take ht))
   rw[List.length_take]at hlen
   have hgl:=Gn g hg
   have hql:=Gn q.1 hq1
   refine nR (a:=tt) rfl (iT.of hqt) rfl (vq rfl (vq rfl (vq rfl (cP rfl rfl ?_))))
   refine cW rfl (.inl ⟨rfl,_,bj.of ho7⟩) (aC rfl (vU rfl ⟨f7.ob,_,rfl,fa,dx,gl,sl,kd,o::W,d,q.1,rfl,f7,f7.uy kp7 hW ho7,hq1,hb,fun b8 H8 Py f8 hb8 hbn=> ?_⟩))
   have ho8:=f7.stay Py ho7
   rw[fQ d hq1]at hb8
   refine Em (a:=o) (b:=b8) rfl rfl ho8 hb8 (by rw[aD,aD,dO,List.length_append,List.length_append,bW];omega) ?_
   rw[←bG]
   have kd7:∀ {z:Addr}{xs:List V},H7 z=some (.tup xs)→H8 z=some (.tup xs):=fun{z xs}e=>by
    obtain⟨kvs,hk,_⟩:=f7.kn
    exact Py _ _ e (by simpa using aN e hk (fun e=>nomatch e))
   obtain⟨C,hC⟩:∃C,C=Sw32.be 4 rs.length++((aL d).bytes g++(rs.take i).flatMap (Pz (aL d)))++(aL d).bytes q.1:=⟨_,rfl⟩
   rw[←hC]
   have hCl:C.length≤4000000:=by rw[hC,List.length_append,List.length_append,List.length_append,bW];omega
   have ab7:o≠l5:=hole
   refine aC rfl (aC rfl (cW rfl (by rw[dO];simp) (fun t9 ht9=>⟨t9,rfl,⟨_,iT.of aj⟩,?_⟩)))
   refine Cw (K:=K) (xs:=nv [q.2.1,q.2.2.1,q.2.2.2,1]) (fun n σ H9=>∃v10,σ= [some (.ref a),some (.ref fa),some (.ref l3),some (.int (g:Int)),some (.ref l5),some (.ref o),some (.int (q.1 :Int)),some (.int (q.2.1 :Int)),some (.int (q.2.2.1 :Int)),some (.int (q.2.2.2 :Int)),v10]∧Kp [kd] H H9∧aW A (o::W) H9 fa dx gl sl kd d∧H9 l5=some (.lst (ts6.map V.ref))∧P2 (fun t u=>H9 t=some (.tup (Rh u))) ts6 rs∧H9 t9=some (.tup (nv [q.2.1,q.2.2.1,q.2.2.2,1]))∧H9 o=some (.lst (nv (C++([q.2.1,q.2.2.1,q.2.2.2,1].take n).flatMap (Sw32.be 2))))) ⟨_,rfl,?_,?_,?_,?_,aj,?_⟩ (fun n σ H9 _ ⟨_,_,_,_,_,_,h9,_⟩=>iT.of h9) ?_ ?_
   ·intro z o' e n
    exact old ht9 (oth (ao e hoH) (Py _ _ (kp7 _ _ e n) n))
   ·exact(f8.at ho8 (by simp)).same (az ht9)
   ·exact old ht9 (oth ab7.symm (f7.stay Py hl7))
   ·exact pt7.imp fun z w e=>old ht9 (oth (aN (kd7 e) ho8 (fun e=>nomatch e)) (kd7 e))
   ·exact old ht9 (by rw[aj,List.take_zero,List.flatMap_nil,List.append_nil])
   ·rintro n v σ H9 hn' ⟨v10,rfl,kp9,f9,hl9,pt9,aaF,ho9⟩
    obtain⟨m,hm,rfl⟩:=uf hn'
    have hil:n<4:=(List.getElem?_eq_some_iff.mp hm).1
    refine cW rfl (.inl ⟨rfl,_,bj.of ho9⟩) (aC rfl ⟨m,2,rfl,by decide,fun l2 hl2=> ?_⟩)
    have h1:=JV 2 ([q.2.1,q.2.2.1,q.2.2.2,1].take n)
    rw[List.length_take]at h1
    have h2:=bW 2 m
    refine Em (a:=o) (b:=l2) rfl rfl (old hl2 ho9) aj (by rw[aD,aD,dO,List.length_append];omega) ?_
    refine⟨_,rfl,fun z o' e n=>oth (ao e hoH) (old hl2 (kp9 _ _ e n)),(f9.same (az hl2)).at (old hl2 ho9) (by simp),oth ab7.symm (old hl2 hl9),?_,oth (aN aaF ho9 (fun e=>nomatch e)) (old hl2 aaF),?_⟩
    ·refine pt9.imp fun z w e=> ?_
     exact oth (aN e ho9 (fun e=>nomatch e)) (old hl2 e)
    ·rw[aj,take_snoc hm,List.flatMap_append,←bG,List.append_assoc]
     simp
   ·rintro σ H9 ⟨v10,rfl,kp9,f9,hl9,pt9,aaF,ho9⟩
    refine e55 rfl kp9 f9 hl9 pt9 ?_
    rw[ho9,take_snoc hq,List.flatMap_append,hC,aD]
    simp[Pz]
  ·rintro σ H7 ⟨v6,v7,v8,v9,v10,rfl,kp7,f7,hl7,pt7,ho7⟩
   rw[List.length_map,pt6.len,List.take_length,←aeL]at ho7
   exact aC rfl (k o H7 kp7 hoH f7 ho7)
noncomputable def SQ(f:Sw32.Form)(way:Nat)(rows:List (List Nat))(w:Nat):List Nat:=if way=2 then qJ f rows else if way=5 then nj f rows w else rows.flatten.flatMap f.bytes
theorem SX{rows:List (List Nat)}{w:Nat}(h:∀row ∈ rows,row.length=w):rows.flatten.length=w*rows.length:=by
 induction rows with
 | nil=>simp
 | cons r rows ih=>rw[List.flatten_cons,List.length_append,ih (fun q hq=>h q (by simp[hq])),h r (by simp),List.length_cons,Nat.mul_add];omega
noncomputable def G4(A:bB):Sp:=fun vs H Q _=>∃(a fa dx gl sl kd:Addr)(W:List Addr)(d:FD)(rows:List (List Nat))(w way:Nat),vs= [.ref a,.int (way:Int),.ref fa]∧pC H a rows∧rows≠ []∧rows.length≤480∧1≤w∧w≤640∧(∀row ∈ rows,row.length=w∧∀c ∈ row,c<16777216)∧aW A W H fa dx gl sl kd d∧(∀z ∈ W,∃o,H z=some o)∧sH d∧Pn A W H fa dx gl sl kd d (SQ (aL d) way rows w) Q
theorem uA:aF ["rows","way","form"] ["rows","way","form"] (aB qu):=⟨rfl,rfl,rfl,by decide +kernel,rfl,by decide +kernel,by decide +kernel⟩
theorem Fp{A:bB}(T:Txt K mg A):dZ P w K mg base 6 A.iw ["rows","way","form"] (G4 A):=by
 refine T.iw.ok uA (fun vs H Q E h=> ?_) (fun cdv Ar outer s H vs Q E hr h=> ?_)
 ·obtain⟨a,fa,dx,gl,sl,kd,W,d,rows,w,way,rfl,_⟩:=h
  rfl
 ·obtain⟨a,fa,dx,gl,sl,kd,W,d,rows,w,way,rfl,Rg,hne,hh,w1,w2,jy,f,hW,hb,k⟩:=h
  have nd:=uA.nd
  have hfl:rows.flatten.length≤307200:=by
   rw[SX (w:=w) fun r hr=>(jy r hr).1]
   exact Nat.le_trans (Nat.mul_le_mul w2 hh) (by decide)
  have Mz:∀c ∈ rows.flatten,c<16777216:=fun c hc=>by
   obtain⟨row,hr,h⟩:=List.mem_flatten.mp hc
   exact(jy row hr).2 c h
  have hr1:∀row ∈ rows,(row≠ []∧row.length≤640)∧∀c ∈ row,c<16777216:=fun row hr=>by
   obtain⟨q1,q2⟩:=jy row hr
   exact⟨⟨fun e=>by rw[e]at q1;simp at q1;omega,by omega⟩,q2⟩
  refine⟨_,(ak (bC (aJ dF (pv 1) (bD T.HB) (aP _))
    (au (aG (cC (Ce T) (hr.mono (by decide)) T.gF rfl (aa (pv 0) (aa (pv 2) aq))))) aM)
   (ak (bC (aJ dF (pv 1) (bD T.Dz) (aP _))
    (au (aG (cC (Fl T) (hr.mono (by decide)) T.iu rfl (aa (pv 0) (aa (pv 2) aq))))) aM)
   (au (aG (cC (uw T) (hr.mono (by decide)) T.gf rfl (aa (pv 0) (aa (pv 2) aq))))))),?_⟩
  refine cW rfl rfl (aC rfl (bJ (fun e=> ?_) fun e=> ?_))
  ·rw[aH]at e
   unfold SQ at k
   rw[if_pos (by omega)]at k
   exact aC rfl (aC rfl ⟨a,fa,dx,gl,sl,kd,W,d,rows,rfl,Rg,hne,hr1,hfl,f,hW,hb,k⟩)
  rw[aH]at e
  refine cW rfl rfl (aC rfl (bJ (fun e2=> ?_) fun e2=> ?_))
  ·rw[aH]at e2
   unfold SQ at k
   rw[if_neg (by omega),if_pos (by omega)]at k
   exact aC rfl (aC rfl ⟨a,fa,dx,gl,sl,kd,W,d,rows,w,rfl,Rg,hne,hh,w1,w2,jy,f,hW,hb,k⟩)
  ·rw[aH]at e2
   unfold SQ at k
   rw[if_neg (by omega),if_neg (by omega),←xF Mz]at k
   exact aC rfl (aC rfl ⟨a,fa,dx,gl,sl,kd,W,d,rows,rfl,Rg,f,hW,hb,fun r hr=>(jy r hr).2,hfl,k⟩)
theorem S5{f:Sw32.Form}{s:Sw32.Screen}{cs:List (List Nat)}{ms:List (List Bool)}(hd:BW s cs ms){r:Sw32.Rect}(hi:Ei s r)(way:Nat):
  Sw32.told f s way r= [0,0] ++ Sw32.be 2 1 ++ [r.x,r.y,r.w,r.h].flatMap (Sw32.be 2)++Sw32.be 4 way++SQ f way (cut cs r.x r.y r.w r.h) r.w:=by
 have e:=Ox hd.ec hd.wc hd.lc hi.2.2.1 hi.2.2.2
 unfold Sw32.told SQ
 rw[HR,Ec,Oz,e]
 have e1:Sw32.be 2 1= [0,1]:=by decide
 rw[e1]
 simp
noncomputable def Fq(A:bB):Sp:=fun vs H Q _=>∃(av ca dc ra ma b db fa dx gl sl kd:Addr)(W:List Addr)(d:FD)(w h way:Nat)(cs:List (List Nat))(ms:List (List Bool))(r:Sw32.Rect)(s0:Sw32.Screen),vs= [.ref ca,.ref b,.int (way:Int),.ref fa]∧Can A av H ca dc ra ma w h cs ms∧H b=some (gh A db r.x r.y r.w r.h)∧BW s0 cs ms∧s0.w=w∧s0.h=h∧Ei s0 r∧(∀row ∈ cs,∀c ∈ row,c<16777216)∧aW A W H fa dx gl sl kd d∧(∀z ∈ W,∃o,H z=some o)∧sH d∧Pn A W H fa dx gl sl kd d (Sw32.told (aL d) s0 way r) Q
theorem rQ:aF ["canvas","box","way","form","octets"] ["canvas","box","way","form"] (aB oV):=⟨rfl,rfl,rfl,by decide +kernel,rfl,by decide +kernel,by decide +kernel⟩
theorem Cg{A:bB}(T:Txt K mg A):dZ P w K mg base 7 A.gD ["canvas","box","way","form"] (Fq A):=by
 refine T.gD.ok rQ (fun vs H Q E h=> ?_) (fun cdv Ar outer s H vs Q E hr h=> ?_)
 ·obtain⟨av,ca,dc,ra,ma,b,db,fa,dx,gl,sl,kd,W,d,w,h,way,cs,ms,r,s0,rfl,_⟩:=h
  rfl
 ·obtain⟨av,ca,dc,ra,ma,b,db,fa,dx,gl,sl,kd,W,d,w,h,way,cs,ms,r,s0,rfl,c,hb0,hd,sw,sh,hi,hcs,f,hW,hb,k⟩:=h
  have nd:=rQ.nd
  have w2:=c.w2
  have h2:=c.h2
  obtain⟨i1,i2,i3,i4⟩:=id hi
  have ab8:=S5 (f:=aL d) hd hi way
  have hlen:=Ej (f:=aL d) (s:=s0) (way:=way) (r:=r) (by show d.bits / 8≤4;omega) (by omega) (by omega) (Nat.le_trans (Nat.mul_le_mul (by omega:r.w≤640) (by omega:r.h≤480)) (by decide))
  rw[ab8]at k hlen
  refine⟨_,(ak (aQ (i:=4) nd rfl (Or.inl rfl) (bf iQ (bf iQ (bf iQ (cG (aa aA (aa aA aq))) (cC (bN T) (hr.mono (by decide)) T.bI rfl (aa aA (aa aA aq)))) (cC (JW T) (hr.mono (by decide)) T.jW rfl (aa (pv 1) aq))) (cC (bN T) (hr.mono (by decide)) T.bI rfl (aa (pv 2) (aa aA aq)))))
   (ak (aR (fV PySem.F.plainAttrs_list PySem.F.slot_list_extend PySem.F.type_list_extend d7 (pv 4) (aa (cC (Fp T) (hr.mono (by decide)) T.iw rfl (aa (dJ T.bV T.cV (sJ T) (hr.mono (by decide)) (pv 0) (aa (pv 1) aq)) (aa (pv 2) (aa (pv 3) aq)))) aq)))
   (au (aG (pv 4))))),?_⟩
  refine⟨by rw[dO];simp,fun t1 h1=> ?_⟩
  refine⟨1,2,rfl,by decide,fun t2 h2'=> ?_⟩
  refine Em (a:=t1) (b:=t2) rfl rfl (old h2' aj) aj (by rw[aD,bW,dO];simp) (fun t3 h3=> ?_)
  have e3:HO.lst ([V.int 0,V.int 0] ++ nv (Sw32.be 2 1))= .lst (nv ([0,0] ++ Sw32.be 2 1)):=rfl
  rw[e3]
  have s3:bu H (upd (upd (upd H t1 (.lst [V.int 0,V.int 0])) t2 (.lst (nv (Sw32.be 2 1)))) t3 (.lst (nv ([0,0] ++ Sw32.be 2 1)))):=((az h1).trans (az h2')).trans (az h3)
  have q3:upd (upd (upd H t1 (.lst [V.int 0,V.int 0])) t2 (.lst (nv (Sw32.be 2 1)))) t3 (.lst (nv ([0,0] ++ Sw32.be 2 1))) t3=some (.lst (nv ([0,0] ++ Sw32.be 2 1))):=aj
  generalize upd (upd (upd H t1 (.lst [V.int 0,V.int 0])) t2 (.lst (nv (Sw32.be 2 1)))) t3 (.lst (nv ([0,0] ++ Sw32.be 2 1)))=H3 at *
  refine aC rfl ⟨b,db,r.x,r.y,r.w,r.h,rfl,s3 _ _ hb0,fun t4 H4 s4 _ q4=> ?_⟩
  have b4:=JV 2 [r.x,r.y,r.w,r.h]
  refine Em (a:=t3) (b:=t4) rfl rfl (s4 _ _ q3) q4 (by rw[aD,aD,b4,List.length_append,bW,dO];simp) (fun t5 h5=> ?_)
  rw[←bG]
  refine aC rfl ⟨way,4,rfl,by decide,fun t6 h6=> ?_⟩
  refine Em (a:=t5) (b:=t6) rfl rfl (old h6 aj) aj (by rw[aD,aD,List.length_append,b4,List.length_append,bW,bW,dO];simp) (fun o ho=> ?_)
  rw[←bG]
  obtain⟨C,hC⟩:∃C,C= [0,0] ++ Sw32.be 2 1 ++ [r.x,r.y,r.w,r.h].flatMap (Sw32.be 2)++Sw32.be 4 way:=⟨_,rfl⟩
  rw[←hC]at k hlen ⊢
  generalize hH5:upd (upd H4 t5 _) t6 _=H5 at *
  have s5:bu H H5:=by rw[←hH5];exact(s3.trans s4).trans ((az h5).trans (az h6))
  have f6:aW A (o::W) (upd H5 o (.lst (nv C))) fa dx gl sl kd d:=((f.same s5).add ho).same (az ho)
  have s6:bu H (upd H5 o (.lst (nv C))):=s5.trans (az ho)
  have o6:upd H5 o (.lst (nv C)) o=some (.lst (nv C)):=aj
  have hoH:H o=none:=by
   by_cases q:H o=none
   ·exact q
   ·obtain⟨o',ho'⟩:=Option.ne_none_iff_exists'.mp q
    rw[s5 _ _ ho']at ho
    cases ho
  dsimp only[kZ]
  generalize upd H5 o (.lst (nv C))=H6 at *
  refine cW rfl (.inl ⟨rfl,_,bj.of o6⟩) (aC rfl (vU rfl ⟨s6 _ _ c.ob,_,rfl,av,ca,dc,ra,ma,b,db,w,h,r.x,r.y,r.w,r.h,cs,ms,rfl,c.same s6,s6 _ _ hb0,fun l7 rs H7 s7 hl7 p7=> ?_⟩))
  have f7:=f6.same s7
  have s07:=s6.trans s7
  refine⟨_,rfl,_,rfl,l7,fa,dx,gl,sl,kd,o::W,d,cut cs r.x r.y r.w r.h,r.w,way,rfl,⟨rs,hl7,p7⟩,?_,?_,i1,by omega,?_,f7,f7.uy (s07.kp _) hW (s7 _ _ o6),hb,fun l8 H8 Py hl8 f8 h8=> ?_⟩
  ·intro e
   have:=congrArg List.length e
   unfold cut at this
   rw[List.length_map,List.length_take,List.length_drop,List.length_nil,c.lc]at this
   omega
  ·unfold cut
   rw[List.length_map,List.length_take]
   omega
  ·intro q hq
   obtain⟨row,hr,rfl⟩:=List.mem_map.mp hq
   have hm:row ∈ cs:=List.mem_of_mem_drop (List.mem_of_mem_take hr)
   refine⟨by rw[List.length_take,List.length_drop,c.wc row hm];omega,fun x hx=>hcs row hm x (List.mem_of_mem_drop (List.mem_of_mem_take hx))⟩
  ·have o8:H8 o=_:=f7.stay Py (s7 _ _ o6)
   rw[List.length_append]at hlen
   refine⟨o,l8,_,_,rfl,rfl,o8,h8,by rw[aD,aD,dO];omega,?_⟩
   refine aC rfl (k o _ (fun z o' e n=>oth (ao e hoH) (Py _ _ (s07 _ _ e) n)) hoH ((f8.less fun z hz=>List.mem_cons_of_mem _ hz).at o8 (by simp)) ?_)
   rw[aj,bG]
structure La where
 li:Addr
 dl:Addr
 ca:Addr
 dc:Addr
 ra:Addr
 ma:Addr
 nm:Addr
 ib:Addr
 di:Addr
 il:Addr
 ob:Addr
 YX:Addr
 ol:Addr
 ev:Addr
 fa:Addr
 df:Addr
 gl:Addr
 sl:Addr
 kd:Addr
 ip:Nat
 op:Nat
 gK:Nat
 oc:Nat
 a1:List Nat
 a2:List Nat
 cs:List (List Nat)
 ms:List (List Bool)
 d:FD
 es:List Addr
 av:V
noncomputable def Ad:Sw32.Event→List Nat
 | .key d k=> [1,d,k,0]
 | .pointer m x y=> [2,m,x,y]
 | .text b=> [3,b.length,0,0]
noncomputable def j6:Sw32.Event→List Nat
 | .text b=>b
 | _=> []
noncomputable def S6(H:Hp)(ev a:Addr)(e:Sw32.Event):Prop:=∃nu tx,H a=some (.tup [.ref nu,.ref tx])∧H nu=some (.tup (nv (Ad e)))∧H tx=some (.lst (nv (j6 e)))∧tx≠ev
noncomputable def Ii(A:bB)(H:Hp)(av:V)(oc:Nat):Option (Bool × Sw32.Rect)→Prop
 | none=>av= .non
 | some (b,r)=>∃bx db,av= .ref bx∧H bx=some (gh A db r.x r.y r.w r.h)∧oc=(if b=true then 1 else 0)
noncomputable abbrev gn(A:bB)(x:La)(st way:Nat):HO:=Io A.cLine bZ x.dl [.ref x.ca,.ref x.nm,.int (st:Int),.int (x.gK:Int),.ref x.ib,.ref x.ob,.ref x.ev,.ref x.fa,.int (way:Int),x.av,.int (x.oc:Int)]
structure LW(A:bB)(H:Hp)(x:La)(s:Sw32.St)(q:List Nat):Prop where
 lo:H x.li=some (gn A x s.state s.way)
 can:Can A x.ev H x.ca x.dc x.ra x.ma s.screen.w s.screen.h x.cs x.ms
 held:BW s.screen x.cs x.ms
 col:∀row ∈ x.cs,∀c ∈ row,c<16777216
 nm:H x.nm=some (.lst (nv s.name))
 yP:x.nm≠x.ev
 ib:H x.ib=some (eU A x.di x.il x.ip)
 il:H x.il=some (.lst (nv x.a1))
 Br:x.il≠x.ev
 Ij:x.ip≤x.a1.length
 Ci:q=x.a1.drop x.ip
 ob:H x.ob=some (eU A x.YX x.ol x.op)
 ol:H x.ol=some (.lst (nv x.a2))
 zf:x.ol≠x.ev
 Gp:x.op≤x.a2.length
 out:s.out=x.a2.drop x.op
 Ik:x.ib≠x.ob
 ev:H x.ev=some (.lst (x.es.map V.ref))
 evs:P2 (S6 H x.ev) x.es s.events
 G5:x.ev≠x.ra
 fm:aW A [x.ev] H x.fa x.df x.gl x.sl x.kd x.d
 G6:aL x.d=s.form
 bits:sH x.d
 ask:s.state≠4→Ii A H x.av x.oc s.asked
 gK:s.state=1→x.gK=s.version
noncomputable abbrev La.cells (x:La):List Addr:= [x.li,x.ra,x.ma,x.ib,x.ob,x.ev,x.kd]
noncomputable def Imm:HO→Prop
 | .lst xs=>∃ns,xs=nv ns
 | .tup _=>True
 | .ins _ _ fs=>fs.length=4∨fs.length=7
 | _=>False
noncomputable def uB(ev:Addr)(H H':Hp):Prop:=∀b o,H b=some o→Imm o→b≠ev→H' b=some o
noncomputable def Cz(H:Hp)(F:List Addr)(H':Hp)(F':List Addr):Prop:=∀b o,H b=some o→b ∉ F→H' b=some o∧b ∉ F'
theorem Cz.trans {H H1 H2:Hp} {F F1 F2:List Addr} (a:Cz H F H1 F1) (b:Cz H1 F1 H2 F2):Cz H F H2 F2:=fun z o e n=>b z o (a z o e n).1 (a z o e n).2
theorem Cz.refl (H:Hp) (F:List Addr):Cz H F H F:=fun z o e n=>⟨e,n⟩
theorem Cz.kp {H H':Hp} {F:List Addr} (k:Kp F H H'):Cz H F H' F:=fun z o e n=>⟨k z o e n,n⟩
theorem cI(ns:List Nat):Imm (.lst (nv ns)):=⟨ns,rfl⟩
theorem yQ(xs:List V):Imm (.tup xs):=trivial
theorem vm{C C2 d d2:Addr}{ns ns2:List Str}{vs vs2:List V}(h:(ns.zip vs).length≠(ns2.zip vs2).length):Io C ns d vs≠Io C2 ns2 d2 vs2:=fun e=>by
 injection e with _ _ e
 exact h (congrArg List.length e)
section
variable{A:bB}{H H':Hp}{x:La}{s:Sw32.St}{q:List Nat}
theorem LW.VB (w:LW A H x s q):∃rs:List Addr,H x.ra=some (.lst (rs.map V.ref))∧rs≠ []:=by
 obtain⟨rs,hr,p⟩:=w.can.rows
 exact aC (a:=rs) hr (fun e=>by have:=p.len;have:=w.can.lc;have:=w.can.h1;rw[e]at *;simp at *;omega)
theorem LW.YZ (w:LW A H x s q):x.ms≠ []:=fun e=>by have h1:=w.can.h1;have:=w.can.lm;rw[e]at this;simp at this;omega
theorem LW.imm (w:LW A H x s q) {b:Addr} {o:HO} (h:H b=some o) (i:Imm o) (n:b≠x.ev):b ∉ x.cells:=by
 obtain⟨rs,hr,hne⟩:=w.VB
 obtain⟨kvs,hk,_⟩:=w.fm.kn
 have hm:=w.YZ
 have key:b≠x.li∧b≠x.ra∧b≠x.ma∧b≠x.ib∧b≠x.ob∧b≠x.kd:=by
  cases o with
  | lst xs=>
   obtain⟨ns,rfl⟩:=i
   exact⟨aN h w.lo (fun e=>nomatch e),(aN hr h (Eu hne)).symm,(aN w.can.yG h (Ew hm)).symm,aN h w.ib (fun e=>nomatch e),aN h w.ob (fun e=>nomatch e),aN h hk (fun e=>nomatch e)⟩
  | tup xs=>exact⟨aN h w.lo (fun e=>nomatch e),aN h hr (fun e=>nomatch e),aN h w.can.yG (fun e=>nomatch e),aN h w.ib (fun e=>nomatch e),aN h w.ob (fun e=>nomatch e),aN h hk (fun e=>nomatch e)⟩
  | ins C d fs=>
   have i:fs.length=4∨fs.length=7:=i
   refine⟨aN h w.lo (fun e=> ?_),aN h hr (fun e=>nomatch e),aN h w.can.yG (fun e=>nomatch e),aN h w.ib (fun e=> ?_),aN h w.ob (fun e=> ?_),aN h hk (fun e=>nomatch e)⟩
   ·injection e with _ _ e;rw[e]at i;simp at i
   ·injection e with _ _ e;rw[e]at i;simp at i
   ·injection e with _ _ e;rw[e]at i;simp at i
  | _=>exact absurd i (by simp[Imm])
 obtain⟨k1,k2,k3,k4,k5,k6⟩:=key
 simp only[La.cells,List.mem_cons,List.not_mem_nil,or_false,not_or]
 exact⟨k1,k2,k3,k4,k5,⟨n,k6⟩⟩
theorem LW.Ft (w:LW A H x s q) (k:Kp x.cells H H'):uB x.ev H H':=fun b o h i n=>k b o h (w.imm h i n)
theorem LW.ne (w:LW A H x s q):(x.li≠x.ra∧x.li≠x.ma∧x.li≠x.ib∧x.li≠x.ob∧x.li≠x.ev∧x.li≠x.kd)∧(x.ra≠x.ma∧x.ra≠x.ib∧x.ra≠x.ob∧x.ra≠x.ev∧x.ra≠x.kd)∧(x.ma≠x.ib∧x.ma≠x.ob∧x.ma≠x.ev∧x.ma≠x.kd)∧(x.ib≠x.ob∧x.ib≠x.ev∧x.ib≠x.kd)∧(x.ob≠x.ev∧x.ob≠x.kd)∧x.ev≠x.kd:=by
 obtain⟨rs,hr,hne⟩:=w.VB
 obtain⟨kvs,hk,_⟩:=w.fm.kn
 have hm:=w.YZ
 have hev:x.ma≠x.ev:=aN w.can.yG w.ev fun e=>by
  injection e with e
  cases h:x.ms with
  | nil=>exact hm h
  | cons a r=>
   rw[h]at e
   cases h2:x.es with
   | nil=>rw[h2]at e;cases e
   | cons b t=>rw[h2]at e;cases e
 exact⟨⟨aN w.lo hr (fun e=>nomatch e),aN w.lo w.can.yG (fun e=>nomatch e),aN w.lo w.ib (vm (by simp)),aN w.lo w.ob (vm (by simp)),aN w.lo w.ev (fun e=>nomatch e),aN w.lo hk (fun e=>nomatch e)⟩,
  ⟨w.can.rm.1,aN hr w.ib (fun e=>nomatch e),aN hr w.ob (fun e=>nomatch e),w.G5.symm,aN hr hk (fun e=>nomatch e)⟩,
  ⟨aN w.can.yG w.ib (fun e=>nomatch e),aN w.can.yG w.ob (fun e=>nomatch e),hev,aN w.can.yG hk (fun e=>nomatch e)⟩,
  ⟨w.Ik,aN w.ib w.ev (fun e=>nomatch e),aN w.ib hk (fun e=>nomatch e)⟩,⟨aN w.ob w.ev (fun e=>nomatch e),aN w.ob hk (fun e=>nomatch e)⟩,aN w.ev hk (fun e=>nomatch e)⟩
theorem S6.kp {ev a:Addr} {e:Sw32.Event} (h:S6 H ev a e) (k:uB ev H H') (na:∀ {b:Addr}{xs:List V},H b=some (.tup xs)→b≠ev):S6 H' ev a e:=by
 obtain⟨nu,tx,h1,h2,h3,h4⟩:=h
 exact nR (a:=nu) (b:=tx) (k _ _ h1 (yQ _) (na h1)) (k _ _ h2 (yQ _) (na h2)) (k _ _ h3 (cI _) h4) h4
theorem Ii.kp {av:V} {oc:Nat} {a:Option (Bool × Sw32.Rect)} (h:Ii A H av oc a) {ev:Addr} (k:uB ev H H') (nb:∀ {b d:Addr}{u y z t:Int},H b=some (gh A d u y z t)→b≠ev):Ii A H' av oc a:=by
 cases a with
 | none=>exact h
 | some a=>
  obtain⟨bx,db,h1,h2,h3⟩:=h
  exact cP (a:=bx) (b:=db) h1 (k _ _ h2 (.inl (by simp)) (nb h2)) h3
theorem LW.part (w:LW A H x s q) (k:uB x.ev H H') (hli:H' x.li=some (gn A x s.state s.way)) (hra:∀o,H x.ra=some o→H' x.ra=some o) (hma:∀o,H x.ma=some o→H' x.ma=some o) (hib:H' x.ib=some (eU A x.di x.il x.ip)) (hob:H' x.ob=some (eU A x.YX x.ol x.op)) (hev:H' x.ev=some (.lst (x.es.map V.ref))) (hkd:∀o,H x.kd=some o→H' x.kd=some o):LW A H' x s q where
 lo:=hli
 can:=w.can.mono (fun o e=>by rw[w.can.ob]at e;cases e;exact k _ _ w.can.ob (.inl (by simp)) (aN w.can.ob w.ev (fun e=>nomatch e))) hra hma fun l ns e n=>k _ _ e (cI _) n
 held:=w.held
 col:=w.col
 nm:=k _ _ w.nm (cI _) w.yP
 yP:=w.yP
 ib:=hib
 il:=k _ _ w.il (cI _) w.Br
 Br:=w.Br
 Ij:=w.Ij
 Ci:=w.Ci
 ob:=hob
 ol:=k _ _ w.ol (cI _) w.zf
 zf:=w.zf
 Gp:=w.Gp
 out:=w.out
 Ik:=w.Ik
 ev:=hev
 evs:=w.evs.imp fun a b h=>h.kp k fun e=>aN e w.ev (fun e=>nomatch e)
 G5:=w.G5
 fm:=w.fm.mono (fun o e=>by rw[w.fm.ob]at e;cases e;exact k _ _ w.fm.ob (.inr (by simp)) (aN w.fm.ob w.ev (fun e=>nomatch e))) hkd fun b ns n e=>k _ _ e (cI _) (by simpa using n)
 G6:=w.G6
 bits:=w.bits
 ask:=fun h=>(w.ask h).kp k fun e=>aN e w.ev (fun e=>nomatch e)
 gK:=w.gK
theorem LW.same (w:LW A H x s q) (k:bu H H'):LW A H' x s q:=
 w.part (fun b o e _ _=>k _ _ e) (k _ _ w.lo) (fun o e=>k _ _ e) (fun o e=>k _ _ e) (k _ _ w.ib) (k _ _ w.ob) (k _ _ w.ev) fun o e=>k _ _ e
theorem LW.PB (w:LW A H x s q) (k:uB x.ev H H') (hra:∀o,H x.ra=some o→H' x.ra=some o) (hma:∀o,H x.ma=some o→H' x.ma=some o):Can A x.ev H' x.ca x.dc x.ra x.ma s.screen.w s.screen.h x.cs x.ms:=
 w.can.mono (fun o e=>by rw[w.can.ob]at e;cases e;exact k _ _ w.can.ob (.inl (by simp)) (aN w.can.ob w.ev (fun e=>nomatch e))) hra hma fun l ns e n=>k _ _ e (cI _) n
theorem LW.PJ (w:LW A H x s q) (k:uB x.ev H H'):P2 (S6 H' x.ev) x.es s.events:=w.evs.imp fun a b h=>h.kp k fun e=>aN e w.ev (fun e=>nomatch e)
theorem LW.mFm (w:LW A H x s q) (k:uB x.ev H H') (hkd:∀o,H x.kd=some o→H' x.kd=some o):aW A [x.ev] H' x.fa x.df x.gl x.sl x.kd x.d:=
 w.fm.mono (fun o e=>by rw[w.fm.ob]at e;cases e;exact k _ _ w.fm.ob (.inr (by simp)) (aN w.fm.ob w.ev (fun e=>nomatch e))) hkd fun b ns n e=>k _ _ e (cI _) (by simpa using n)
theorem LW.S7 (w:LW A H x s q) (k:uB x.ev H H') (h:s.state≠4):Ii A H' x.av x.oc s.asked:=(w.ask h).kp k fun e=>aN e w.ev (fun e=>nomatch e)
theorem LW.Y0 (w:LW A H x s q) {l:Addr} {a2:List Nat} {op:Nat} (kp:Kp [x.ob] H H') (h1:H' x.ob=some (eU A x.YX l op)) (h2:H' l=some (.lst (nv a2))) (h3:l≠x.ev) (h4:op≤a2.length):LW A H' {x with ol:=l,op:=op,a2:=a2} {s with out:=a2.drop op} q:=by
 obtain⟨⟨n1,n2,n3,n4,n5,n6⟩,⟨m1,m2,m3,m4,m5⟩,⟨p1,p2,p3,p4⟩,⟨r1,r2,r3⟩,⟨t1,t2⟩,u1⟩:=w.ne
 have qX:=kp _ _ w.lo (by simp[n4])
 have lO:=kp _ _ w.ib (by simp[r1])
 have j7:=kp _ _ w.ev (by simp[t1.symm])
 have j8:∀o,H x.ra=some o→H' x.ra=some o:=fun o e=>kp _ _ e (by simp[m3])
 have j9:∀o,H x.ma=some o→H' x.ma=some o:=fun o e=>kp _ _ e (by simp[p2])
 have lQ:∀o,H x.kd=some o→H' x.kd=some o:=fun o e=>kp _ _ e (by simp[t2.symm])
 have k:uB x.ev H H':=w.Ft (kp.more fun b hb=>by simp at hb;simp[La.cells];simp[hb])
 exact {
  lo:=qX
  can:=w.PB k j8 j9
  held:=w.held
  col:=w.col
  nm:=k _ _ w.nm (cI _) w.yP
  yP:=w.yP
  ib:=lO
  il:=k _ _ w.il (cI _) w.Br
  Br:=w.Br
  Ij:=w.Ij
  Ci:=w.Ci
  ob:=h1
  ol:=h2
  zf:=h3
  Gp:=h4
  out:=rfl
  Ik:=w.Ik
  ev:=j7
  evs:=w.PJ k
  G5:=w.G5
  fm:=w.mFm k lQ
  G6:=w.G6
  bits:=w.bits
  ask:=fun h=>w.S7 k h
  gK:=w.gK}
theorem LW.Y4 (w:LW A H x s q) {l:Addr} {a1:List Nat} {ip:Nat} (kp:Kp [x.ib] H H') (h1:H' x.ib=some (eU A x.di l ip)) (h2:H' l=some (.lst (nv a1))) (h3:l≠x.ev) (h4:ip≤a1.length):LW A H' {x with il:=l,ip:=ip,a1:=a1} s (a1.drop ip):=by
 obtain⟨⟨n1,n2,n3,n4,n5,n6⟩,⟨m1,m2,m3,m4,m5⟩,⟨p1,p2,p3,p4⟩,⟨r1,r2,r3⟩,⟨t1,t2⟩,u1⟩:=w.ne
 have qX:=kp _ _ w.lo (by simp[n3])
 have kh:=kp _ _ w.ob (by simp[r1.symm])
 have j7:=kp _ _ w.ev (by simp[r2.symm])
 have j8:∀o,H x.ra=some o→H' x.ra=some o:=fun o e=>kp _ _ e (by simp[m2])
 have j9:∀o,H x.ma=some o→H' x.ma=some o:=fun o e=>kp _ _ e (by simp[p1])
 have lQ:∀o,H x.kd=some o→H' x.kd=some o:=fun o e=>kp _ _ e (by simp[r3.symm])
 have k:uB x.ev H H':=w.Ft (kp.more fun b hb=>by simp at hb;simp[La.cells];simp[hb])
 exact {
  lo:=qX
  can:=w.PB k j8 j9
  held:=w.held
  col:=w.col
  nm:=k _ _ w.nm (cI _) w.yP
  yP:=w.yP
  ib:=h1
  il:=h2
  Br:=h3
  Ij:=h4
  Ci:=rfl
  ob:=kh
  ol:=k _ _ w.ol (cI _) w.zf
  zf:=w.zf
  Gp:=w.Gp
  out:=w.out
  Ik:=w.Ik
  ev:=j7
  evs:=w.PJ k
  G5:=w.G5
  fm:=w.mFm k lQ
  G6:=w.G6
  bits:=w.bits
  ask:=fun h=>w.S7 k h
  gK:=w.gK}
theorem LW.setEv (w:LW A H x s q) {es:List Addr} {evs:List Sw32.Event} (kp:Kp [x.ev] H H') (h1:H' x.ev=some (.lst (es.map V.ref))) (h2:uB x.ev H H'→P2 (S6 H' x.ev) es evs):LW A H' {x with es:=es} {s with events:=evs} q:=by
 obtain⟨⟨n1,n2,n3,n4,n5,n6⟩,⟨m1,m2,m3,m4,m5⟩,⟨p1,p2,p3,p4⟩,⟨r1,r2,r3⟩,⟨t1,t2⟩,u1⟩:=w.ne
 have qX:=kp _ _ w.lo (by simp[n5])
 have lO:=kp _ _ w.ib (by simp[r2])
 have kh:=kp _ _ w.ob (by simp[t1])
 have j8:∀o,H x.ra=some o→H' x.ra=some o:=fun o e=>kp _ _ e (by simp[m4])
 have j9:∀o,H x.ma=some o→H' x.ma=some o:=fun o e=>kp _ _ e (by simp[p3])
 have lQ:∀o,H x.kd=some o→H' x.kd=some o:=fun o e=>kp _ _ e (by simp[u1.symm])
 have k:uB x.ev H H':=w.Ft (kp.more fun b hb=>by simp at hb;simp[La.cells];simp[hb])
 exact {
  lo:=qX
  can:=w.PB k j8 j9
  held:=w.held
  col:=w.col
  nm:=k _ _ w.nm (cI _) w.yP
  yP:=w.yP
  ib:=lO
  il:=k _ _ w.il (cI _) w.Br
  Br:=w.Br
  Ij:=w.Ij
  Ci:=w.Ci
  ob:=kh
  ol:=k _ _ w.ol (cI _) w.zf
  zf:=w.zf
  Gp:=w.Gp
  out:=w.out
  Ik:=w.Ik
  ev:=h1
  evs:=h2 k
  G5:=w.G5
  fm:=w.mFm k lQ
  G6:=w.G6
  bits:=w.bits
  ask:=fun h=>w.S7 k h
  gK:=w.gK}
theorem LW.PK (w:LW A H x s q) {cs:List (List Nat)} {ms:List (List Bool)} {sc:Sw32.Screen} (kp:Kp [x.ra,x.ma] H H') (hw:sc.w=s.screen.w) (hh:sc.h=s.screen.h) (h1:Can A x.ev H' x.ca x.dc x.ra x.ma s.screen.w s.screen.h cs ms) (h2:BW sc cs ms) (h3:∀row ∈ cs,∀c ∈ row,c<16777216):LW A H' {x with cs:=cs,ms:=ms} {s with screen:=sc} q:=by
 obtain⟨⟨n1,n2,n3,n4,n5,n6⟩,⟨m1,m2,m3,m4,m5⟩,⟨p1,p2,p3,p4⟩,⟨r1,r2,r3⟩,⟨t1,t2⟩,u1⟩:=w.ne
 have qX:=kp _ _ w.lo (by simp[n1,n2])
 have lO:=kp _ _ w.ib (by simp[m2.symm,p1.symm])
 have kh:=kp _ _ w.ob (by simp[m3.symm,p2.symm])
 have j7:=kp _ _ w.ev (by simp[m4.symm,p3.symm])
 have lQ:∀o,H x.kd=some o→H' x.kd=some o:=fun o e=>kp _ _ e (by simp[m5.symm,p4.symm])
 have k:uB x.ev H H':=w.Ft (kp.more fun b hb=>by simp at hb;simp[La.cells];rcases hb with hb | hb<;>simp[hb])
 exact {
  lo:=qX
  can:=(by show Can A x.ev H' x.ca x.dc x.ra x.ma sc.w sc.h cs ms;rw[hw,hh];exact h1)
  held:=h2
  col:=h3
  nm:=k _ _ w.nm (cI _) w.yP
  yP:=w.yP
  ib:=lO
  il:=k _ _ w.il (cI _) w.Br
  Br:=w.Br
  Ij:=w.Ij
  Ci:=w.Ci
  ob:=kh
  ol:=k _ _ w.ol (cI _) w.zf
  zf:=w.zf
  Gp:=w.Gp
  out:=w.out
  Ik:=w.Ik
  ev:=j7
  evs:=w.PJ k
  G5:=w.G5
  fm:=w.mFm k lQ
  G6:=w.G6
  bits:=w.bits
  ask:=fun h=>w.S7 k h
  gK:=w.gK}
theorem LW.acb (w:LW A H x s q) (kp:Kp [x.kd] H H') (h:aW A [x.ev] H' x.fa x.df x.gl x.sl x.kd x.d):LW A H' x s q:=by
 obtain⟨⟨n1,n2,n3,n4,n5,n6⟩,⟨m1,m2,m3,m4,m5⟩,⟨p1,p2,p3,p4⟩,⟨r1,r2,r3⟩,⟨t1,t2⟩,u1⟩:=w.ne
 have qX:=kp _ _ w.lo (by simp[n6])
 have lO:=kp _ _ w.ib (by simp[r3])
 have kh:=kp _ _ w.ob (by simp[t2])
 have j7:=kp _ _ w.ev (by simp[u1])
 have j8:∀o,H x.ra=some o→H' x.ra=some o:=fun o e=>kp _ _ e (by simp[m5])
 have j9:∀o,H x.ma=some o→H' x.ma=some o:=fun o e=>kp _ _ e (by simp[p4])
 have k:uB x.ev H H':=w.Ft (kp.more fun b hb=>by simp at hb;simp[La.cells];simp[hb])
 exact {
  lo:=qX
  can:=w.PB k j8 j9
  held:=w.held
  col:=w.col
  nm:=k _ _ w.nm (cI _) w.yP
  yP:=w.yP
  ib:=lO
  il:=k _ _ w.il (cI _) w.Br
  Br:=w.Br
  Ij:=w.Ij
  Ci:=w.Ci
  ob:=kh
  ol:=k _ _ w.ol (cI _) w.zf
  zf:=w.zf
  Gp:=w.Gp
  out:=w.out
  Ik:=w.Ik
  ev:=j7
  evs:=w.PJ k
  G5:=w.G5
  fm:=h
  G6:=w.G6
  bits:=w.bits
  ask:=fun h=>w.S7 k h
  gK:=w.gK}
theorem LW.MN (w:LW A H x s q) {gK oc st way version:Nat} {av:V} {asked:Option (Bool × Sw32.Rect)} (kp:Kp [x.li] H H') (h0:H' x.li=some (gn A {x with gK:=gK,oc:=oc,av:=av} st way)) (h1:st≠4→Ii A H' av oc asked) (h2:st=1→gK=version):LW A H' {x with gK:=gK,oc:=oc,av:=av} {s with state:=st,way:=way,asked:=asked,version:=version} q:=by
 obtain⟨⟨n1,n2,n3,n4,n5,n6⟩,⟨m1,m2,m3,m4,m5⟩,⟨p1,p2,p3,p4⟩,⟨r1,r2,r3⟩,⟨t1,t2⟩,u1⟩:=w.ne
 have lO:=kp _ _ w.ib (by simp[n3.symm])
 have kh:=kp _ _ w.ob (by simp[n4.symm])
 have j7:=kp _ _ w.ev (by simp[n5.symm])
 have j8:∀o,H x.ra=some o→H' x.ra=some o:=fun o e=>kp _ _ e (by simp[n1.symm])
 have j9:∀o,H x.ma=some o→H' x.ma=some o:=fun o e=>kp _ _ e (by simp[n2.symm])
 have lQ:∀o,H x.kd=some o→H' x.kd=some o:=fun o e=>kp _ _ e (by simp[n6.symm])
 have k:uB x.ev H H':=w.Ft (kp.more fun b hb=>by simp at hb;simp[La.cells];simp[hb])
 exact {
  lo:=h0
  can:=w.PB k j8 j9
  held:=w.held
  col:=w.col
  nm:=k _ _ w.nm (cI _) w.yP
  yP:=w.yP
  ib:=lO
  il:=k _ _ w.il (cI _) w.Br
  Br:=w.Br
  Ij:=w.Ij
  Ci:=w.Ci
  ob:=kh
  ol:=k _ _ w.ol (cI _) w.zf
  zf:=w.zf
  Gp:=w.Gp
  out:=w.out
  Ik:=w.Ik
  ev:=j7
  evs:=w.PJ k
  G5:=w.G5
  fm:=w.mFm k lQ
  G6:=w.G6
  bits:=w.bits
  ask:=h1
  gK:=h2}
theorem LW.XM (w:LW A H x s q) {fa df gl sl kd:Addr} {d:FD} (kp:Kp [x.li] H H') (h0:H' x.li=some (gn A {x with fa:=fa,df:=df,gl:=gl,sl:=sl,kd:=kd,d:=d} s.state s.way)) (h1:aW A [x.ev] H' fa df gl sl kd d) (h2:sH d):LW A H' {x with fa:=fa,df:=df,gl:=gl,sl:=sl,kd:=kd,d:=d} {s with form:=aL d} q:=by
 obtain⟨⟨n1,n2,n3,n4,n5,n6⟩,⟨m1,m2,m3,m4,m5⟩,⟨p1,p2,p3,p4⟩,⟨r1,r2,r3⟩,⟨t1,t2⟩,u1⟩:=w.ne
 have lO:=kp _ _ w.ib (by simp[n3.symm])
 have kh:=kp _ _ w.ob (by simp[n4.symm])
 have j7:=kp _ _ w.ev (by simp[n5.symm])
 have j8:∀o,H x.ra=some o→H' x.ra=some o:=fun o e=>kp _ _ e (by simp[n1.symm])
 have j9:∀o,H x.ma=some o→H' x.ma=some o:=fun o e=>kp _ _ e (by simp[n2.symm])
 have lQ:∀o,H x.kd=some o→H' x.kd=some o:=fun o e=>kp _ _ e (by simp[n6.symm])
 have k:uB x.ev H H':=w.Ft (kp.more fun b hb=>by simp at hb;simp[La.cells];simp[hb])
 exact {
  lo:=h0
  can:=w.PB k j8 j9
  held:=w.held
  col:=w.col
  nm:=k _ _ w.nm (cI _) w.yP
  yP:=w.yP
  ib:=lO
  il:=k _ _ w.il (cI _) w.Br
  Br:=w.Br
  Ij:=w.Ij
  Ci:=w.Ci
  ob:=kh
  ol:=k _ _ w.ol (cI _) w.zf
  zf:=w.zf
  Gp:=w.Gp
  out:=w.out
  Ik:=w.Ik
  ev:=j7
  evs:=w.PJ k
  G5:=w.G5
  fm:=h1
  G6:=rfl
  bits:=h2
  ask:=fun h=>w.S7 k h
  gK:=w.gK}
theorem LW.VD (w:LW A H x s q) {ib di il:Addr} (kp:Kp [x.li] H H') (h0:H' x.li=some (gn A {x with ib:=ib,di:=di,il:=il,ip:=0,a1:= []} 4 s.way)) (h1:H' ib=some (eU A di il 0)) (h2:H' il=some (.lst [])) (h3:il≠x.ev) (h4:ib≠x.ob):LW A H' {x with ib:=ib,di:=di,il:=il,ip:=0,a1:= []} (Sw32.close s) []:=by
 obtain⟨⟨n1,n2,n3,n4,n5,n6⟩,⟨m1,m2,m3,m4,m5⟩,⟨p1,p2,p3,p4⟩,⟨r1,r2,r3⟩,⟨t1,t2⟩,u1⟩:=w.ne
 have lO:=kp _ _ w.ib (by simp[n3.symm])
 have kh:=kp _ _ w.ob (by simp[n4.symm])
 have j7:=kp _ _ w.ev (by simp[n5.symm])
 have j8:∀o,H x.ra=some o→H' x.ra=some o:=fun o e=>kp _ _ e (by simp[n1.symm])
 have j9:∀o,H x.ma=some o→H' x.ma=some o:=fun o e=>kp _ _ e (by simp[n2.symm])
 have lQ:∀o,H x.kd=some o→H' x.kd=some o:=fun o e=>kp _ _ e (by simp[n6.symm])
 have k:uB x.ev H H':=w.Ft (kp.more fun b hb=>by simp at hb;simp[La.cells];simp[hb])
 exact {
  lo:=h0
  can:=w.PB k j8 j9
  held:=w.held
  col:=w.col
  nm:=k _ _ w.nm (cI _) w.yP
  yP:=w.yP
  ib:=h1
  il:=h2
  Br:=h3
  Ij:=Nat.le_refl _
  Ci:=rfl
  ob:=kh
  ol:=k _ _ w.ol (cI _) w.zf
  zf:=w.zf
  Gp:=w.Gp
  out:=w.out
  Ik:=h4
  ev:=j7
  evs:=w.PJ k
  G5:=w.G5
  fm:=w.mFm k lQ
  G6:=w.G6
  bits:=w.bits
  ask:=fun h=>absurd rfl h
  gK:=fun h=>absurd (show (4 :Nat)=1 from h) (by decide)}
structure fH(A:bB)(H:Hp)(x:La)(H':Hp)(x':La)(s:Sw32.St)(q:List Nat):Prop where
 w:LW A H' x' s q
 li:x'.li=x.li
 ca:x'.ca=x.ca
 fr:Cz H x.cells H' x'.cells
theorem fH.trans {x1 x2:La} {H1 H2:Hp} {s1 s2:Sw32.St} {q1 q2:List Nat} (a:fH A H x H1 x1 s1 q1) (b:fH A H1 x1 H2 x2 s2 q2):fH A H x H2 x2 s2 q2:=⟨b.w,b.li.trans a.li,b.ca.trans a.ca,a.fr.trans b.fr⟩
theorem LW.go (w:LW A H x s q):fH A H x H x s q:=⟨w,rfl,rfl,Cz.refl _ _⟩
end
noncomputable def Fv(A:bB):Sp:=fun vs H Q _=>∃(x:La)(s0:Sw32.St)(q bs:List Nat)(l:Addr),vs= [.ref x.li,.ref l]∧LW A H x s0 q∧H l=some (.lst (nv bs))∧s0.out.length+bs.length≤16777216∧∀x' H',fH A H x H' x' {s0 with out:=s0.out++bs} q→Kp [x.ob] H H'→(x'.ev=x.ev∧x'.gK=x.gK)→Q .non H'
theorem Bs:aF ["self","octets"] ["self","octets"] (aB zQ):=⟨rfl,rfl,rfl,by decide +kernel,rfl,by decide +kernel,by decide +kernel⟩
theorem eV{A:bB}(T:Txt K mg A):dZ P w K mg base 2 A.dz ["self","octets"] (Fv A):=by
 refine T.dz.ok Bs (fun vs H Q E h=> ?_) (fun cdv Ar outer s H vs Q E hr h=> ?_)
 ·obtain⟨x,s0,q,bs,l,rfl,_⟩:=h
  rfl
 ·obtain⟨x,s0,q,bs,l,rfl,w,hl,hn,k⟩:=h
  have nd:=Bs.nd
  refine aC (au (aR (dJ T.gk T.m7 (Ep T) (hr.mono (by decide)) (bc T.aY 5 (pv 0)) (aa (pv 1) aq)))) ?_
  apply cz w.lo;rfl;rfl
  refine vU rfl ⟨w.ob,_,rfl,x.ob,x.YX,x.ol,l,x.op,x.a2,bs,rfl,w.ob,w.ol,hl,by rw[←w.out];exact hn,fun l' H' hl' h1 h2 kp=> ?_⟩
  have e:s0.out++bs=(x.a2.drop x.op++bs).drop 0:=by rw[w.out];rfl
  refine k {x with ol:=l',op:=0,a2:=x.a2.drop x.op++bs} H' ⟨?_,rfl,rfl,Cz.kp (kp.one (by simp))⟩ kp ⟨rfl,rfl⟩
  rw[e]
  exact w.Y0 kp h2 h1 (ao w.ev hl').symm (Nat.zero_le _)
noncomputable def MP(A:bB):Sp:=fun vs H Q _=>∃(x:La)(s0:Sw32.St)(q:List Nat),vs= [.ref x.li]∧LW A H x s0 q∧∀x' H',fH A H x H' x' (Sw32.close s0) []→Q .non H'
theorem yR:aF ["self"] ["self"] (aB wR):=⟨rfl,rfl,rfl,by decide +kernel,rfl,by decide +kernel,by decide +kernel⟩
theorem qY{A:bB}(T:Txt K mg A):dZ P w K mg base 3 A.gZ ["self"] (MP A):=by
 refine T.gZ.ok yR (fun vs H Q E h=> ?_) (fun cdv Ar outer s H vs Q E hr h=> ?_)
 ·obtain⟨x,s0,q,rfl,_⟩:=h
  rfl
 ·obtain⟨x,s0,q,rfl,w,k⟩:=h
  have nd:=yR.nd
  refine⟨_,(ak (oH T.aY 2 (pv 0) (bD T.kI))
   (au (oH T.aY 4 (pv 0) (Dn T.gk T.Jz (ug T) (hr.mono (by decide)) rfl)))),?_⟩
  refine aC rfl (lJ rfl w.lo (by simp) ?_)
  refine fun p dp hp hdp hne=>⟨p,dp,rfl,aj,fun il hil=>⟨rfl,?_⟩⟩
  obtain⟨hp1,hpl⟩:=aU hp
  obtain⟨hd1,hdl⟩:=aU hdp
  obtain⟨hi1,hip⟩:=aU hil
  obtain⟨hi2,hid⟩:=aU hi1
  obtain⟨hi3,aeQ⟩:=aU hi2
  refine aC rfl (lJ rfl (oth hpl.symm (old hil (oth hpl.symm (old hdp aj)))) (by simp) ?_)
  have kp:Kp [x.li] H (upd (upd (upd (upd (upd (upd H x.li (Io A.cLine bZ x.dl [.ref x.ca,.ref x.nm,.int 4,.int (x.gK:Int),.ref x.ib,.ref x.ob,.ref x.ev,.ref x.fa,.int (s0.way:Int),x.av,.int (x.oc:Int)])) dp (.own p)) p (Io A.gY gW dp [])) il (.lst [])) p (eU A dp il 0)) x.li (gn A {x with ib:=p,di:=dp,il:=il,ip:=0,a1:= []} 4 s0.way)):=fun b o e n=>oth (by simpa using n) (oth (ao e hp1) (old hil (oth (ao e hp1) (old hdp (oth (by simpa using n) e)))))
  refine k {x with ib:=p,di:=dp,il:=il,ip:=0,a1:= []} _ ⟨w.VD (ib:=p) (di:=dp) (il:=il) kp aj (oth hpl aj) (oth aeQ (oth hip aj)) (ao w.ev hi3).symm (ao w.ob hp1).symm,rfl,rfl,fun b o e n=>⟨kp b o e (fun z=>n (by simp at z;simp[z])),fun z=> ?_⟩⟩
  simp only[La.cells,List.mem_cons,List.not_mem_nil,or_false,not_or]at n z
  rcases z with z | z | z | z | z | z | z
  ·exact n.1 z
  ·exact n.2.1 z
  ·exact n.2.2.1 z
  ·exact ao e hp1 z
  ·exact n.2.2.2.2.1 z
  ·exact n.2.2.2.2.2.1 z
  ·exact n.2.2.2.2.2.2 z
noncomputable def JX(A:bB):Sp:=fun vs H Q _=>∃(x:La)(s0:Sw32.St)(q:List Nat)(nu tx:Addr)(e:Sw32.Event),vs= [.ref x.li,.ref nu,.ref tx]∧LW A H x s0 q∧H nu=some (.tup (nv (Ad e)))∧H tx=some (.lst (nv (j6 e)))∧tx≠x.ev∧∀x' H',fH A H x H' x' (Sw32.event s0 e) q→Q .non H'
theorem wy:aF ["self","numbers","text"] ["self","numbers","text"] (aB tO):=⟨rfl,rfl,rfl,by decide +kernel,rfl,by decide +kernel,by decide +kernel⟩
theorem pD{A:bB}(T:Txt K mg A):dZ P w K mg base 1 A.fX ["self","numbers","text"] (JX A):=by
 refine T.fX.ok wy (fun vs H Q E h=> ?_) (fun cdv Ar outer s H vs Q E hr h=> ?_)
 ·obtain⟨x,s0,q,nu,tx,e,rfl,_⟩:=h
  rfl
 ·obtain⟨x,s0,q,nu,tx,e,rfl,w,hnu,htx,hne,k⟩:=h
  have nd:=wy.nd
  have hlen:x.es.length=s0.events.length:=w.evs.len
  refine⟨_,(au (bC (aJ xR (bO bA rfl T.gM PySem.boot_len (aa (bc T.aY 6 (pv 0)) aq)) (bD T.vP) (aP _))
    (au (aR (fV PySem.F.plainAttrs_list PySem.F.slot_list_append PySem.F.type_list_append ji (bc T.aY 6 (pv 0)) (aa (gQ (aa (pv 1) (aa (pv 2) aq))) aq)))) aM)),?_⟩
  apply cz w.lo;rfl;rfl
  refine⟨x.ev,cW rfl (.inl (bj.of w.ev)) (cP rfl rfl (aC rfl (bJ (fun c=> ?_) fun c=> ?_)))⟩
  ·rw[List.length_map]at c
   apply cz w.lo;rfl;rfl
   refine⟨.inl ⟨rfl,_,bj.of w.ev⟩,aC rfl (cW rfl (by rw[dO];simp) (fun t ht=>⟨x.ev,_,_,rfl,rfl,old ht w.ev,by rw[List.length_map,dO];omega,?_⟩))⟩
   have kp:Kp [x.ev] H (upd (upd H t (.tup [.ref nu,.ref tx])) x.ev (.lst (x.es.map V.ref ++ [.ref t]))):=fun b o e n=>oth (by simpa using n) (old ht e)
   have htn:t≠x.ev:=(ao w.ev ht).symm
   have ee:Sw32.event s0 e= {s0 with events:=s0.events ++ [e]}:=by
    unfold Sw32.event
    rw[if_neg (by unfold Sw32.EVENTS;omega)]
   refine k {x with es:=x.es ++ [t]} _ ⟨?_,rfl,rfl,Cz.kp (kp.one (by simp))⟩
   rw[ee]
   refine w.setEv kp (by rw[aj,List.map_append];rfl) fun im=> ?_
   have tn:∀ {b:Addr}{xs:List V},H b=some (.tup xs)→b≠x.ev:=fun e=>aN e w.ev (fun e=>nomatch e)
   refine P2.snoc (w.evs.imp fun a b h=>h.kp im tn) ⟨nu,tx,oth htn aj,im _ _ hnu (yQ _) (tn hnu),im _ _ htx (cI _) hne,hne⟩
  ·rw[List.length_map]at c
   have ee:Sw32.event s0 e=s0:=by
    unfold Sw32.event
    rw[if_pos (by unfold Sw32.EVENTS;omega)]
   have:=w.go
   rw[←ee]at this
   exact k x H this
noncomputable def Ae(A:bB):Sp:=fun vs H Q _=>∃(x:La)(s0:Sw32.St)(q:List Nat),vs= [.ref x.li]∧LW A H x s0 q∧(x.es= []→Q .non H)∧∀a r,x.es=a::r→Q (.ref a) H
theorem oA:aF ["self"] ["self"] (aB lK):=⟨rfl,rfl,rfl,by decide +kernel,rfl,by decide +kernel,by decide +kernel⟩
theorem yS{A:bB}(T:Txt K mg A):dZ P w K mg base 1 A.d8 ["self"] (Ae A):=by
 refine T.d8.ok oA (fun vs H Q E h=> ?_) (fun cdv Ar outer s H vs Q E hr h=> ?_)
 ·obtain⟨x,s0,q,rfl,_⟩:=h
  rfl
 ·obtain⟨x,s0,q,rfl,w,kn,ks⟩:=h
  have nd:=oA.nd
  refine aC (au (aG (Kg (pI (bc T.aY 6 (pv 0)) (fun _=>rfl)) (bL (aO K) (bc T.aY 6 (pv 0)) aA (fun _ _=>rfl)) gP))) ?_
  have hev:=w.ev
  apply cz w.lo;rfl;rfl
  refine aC (.inl ⟨_,bj.of hev,rfl⟩) ?_
  cases hes:x.es with
  | nil=>exact kn hes
  | cons a r=>
   rw[hes]at hev
   exact⟨_,rfl,_,_,_,_,rfl,w.lo,rfl,x.ev,_,_,_,rfl,rfl,bj.of hev,aV (j:=0) rfl,ks a r hes⟩
noncomputable def Cj(A:bB):Sp:=fun vs H Q _=>∃(x:La)(s0:Sw32.St)(q:List Nat)(e:Sw32.Event)(r:List Sw32.Event),vs= [.ref x.li]∧LW A H x s0 q∧s0.events=e::r∧∀x' H',fH A H x H' x' {s0 with events:=r} q→Q .non H'
theorem pZ:aF ["self"] ["self"] (aB mY):=⟨rfl,rfl,rfl,by decide +kernel,rfl,by decide +kernel,by decide +kernel⟩
theorem Af{A:bB}(T:Txt K mg A):dZ P w K mg base 1 A.fL ["self"] (Cj A):=by
 refine T.fL.ok pZ (fun vs H Q E h=> ?_) (fun cdv Ar outer s H vs Q E hr h=> ?_)
 ·obtain⟨x,s0,q,e,r,rfl,_⟩:=h
  rfl
 ·obtain⟨x,s0,q,e,r,rfl,w,he,k⟩:=h
  have nd:=pZ.nd
  refine aC (au (aR (fV PySem.F.plainAttrs_list PySem.F.slot_list_pop PySem.F.type_list_pop Uo (bc T.aY 6 (pv 0)) (aa aA aq)))) ?_
  have hev:=w.ev
  have vA:=w.evs
  rw[he]at vA
  cases hes:x.es with
  | nil=>rw[hes]at vA;exact absurd vA.len (by simp)
  | cons a es=>
   rw[hes]at hev vA
   obtain⟨_,vA⟩:=vA
   apply cz w.lo;rfl;rfl
   refine⟨.inl ⟨rfl,_,bj.of hev⟩,?_⟩
   have hix:Qy ((a::es).map V.ref).length 0=some 0:=by
    unfold Qy
    rw[if_pos (by decide),if_pos (by rw[List.length_map,List.length_cons];omega)]
    rfl
   refine⟨x.ev,⟨_,_,0,.ref a,rfl,rfl,hev,by decide,by decide,(Jf hix).1,rfl,?_⟩⟩
   have kp:Kp [x.ev] H (upd H x.ev (.lst (((a::es).map V.ref).eraseIdx 0))):=cH
   exact k {x with es:=es} _ ⟨w.setEv kp aj fun im=>vA.imp fun a b h=>h.kp im fun e=>aN e w.ev (fun e=>nomatch e),rfl,rfl,Cz.kp (kp.one (by simp))⟩
noncomputable def S8(A:bB):Sp:=fun vs H Q _=>∃(x:La)(s0:Sw32.St)(q:List Nat)(bx db:Addr)(b:Bool)(r:Sw32.Rect),vs= [.ref x.li,.int ((if b=true then 1 else 0 :Nat):Int),.ref bx]∧LW A H x s0 q∧H bx=some (gh A db r.x r.y r.w r.h)∧∀x' H',fH A H x H' x' {s0 with asked:=some (b,r)} q→Q .non H'
theorem Fw:aF ["self","only_changed","box"] ["self","only_changed","box"] (aB Du):=⟨rfl,rfl,rfl,by decide +kernel,rfl,by decide +kernel,by decide +kernel⟩
theorem PL{A:bB}(T:Txt K mg A):dZ P w K mg base 1 A.pM ["self","only_changed","box"] (S8 A):=by
 refine T.pM.ok Fw (fun vs H Q E h=> ?_) (fun cdv Ar outer s H vs Q E hr h=> ?_)
 ·obtain⟨x,s0,q,bx,db,b,r,rfl,_⟩:=h
  rfl
 ·obtain⟨x,s0,q,bx,db,b,r,rfl,w,hb,k⟩:=h
  have nd:=Fw.nd
  refine⟨_,(ak (oH T.aY 10 (pv 0) (pv 1))
   (au (oH T.aY 9 (pv 0) (pv 2)))),?_⟩
  refine aC rfl (aC rfl (lJ rfl w.lo (by simp) ?_))
  refine aC rfl (aC rfl (lJ rfl aj (by simp) ?_))
  rw[bM]
  have kp:Kp [x.li] H (upd H x.li (gn A {x with gK:=x.gK,oc:=(if b=true then 1 else 0),av:= .ref bx} s0.state s0.way)):=cH
  have Gn:bx≠x.li:=aN hb w.lo (vm (by simp))
  refine k {x with gK:=x.gK,oc:=(if b=true then 1 else 0),av:= .ref bx} _ ⟨w.MN (st:=s0.state) (way:=s0.way) (version:=s0.version) (asked:=some (b,r)) kp aj (fun _=>⟨bx,db,rfl,oth Gn hb,rfl⟩) w.gK,rfl,rfl,Cz.kp (kp.one (by simp))⟩
theorem JZ(f:Sw32.Form)(s:Sw32.Screen)(m:List Bool)(way:Nat)(r:Sw32.Rect):Sw32.told f {s with changed:=m} way r=Sw32.told f s way r:=rfl
theorem vo{s:Sw32.St}(h:s.state≠3∨s.out≠ []):Sw32.tells s=s:=by unfold Sw32.tells;rw[if_pos h]
theorem xG{s:Sw32.St}(h:Sw32.due s=none):Sw32.tells s=s:=by
 unfold Sw32.tells
 split
 ·rfl
 ·rw[h]
theorem PN{s:Sw32.St}{r:Sw32.Rect}(h1:s.state=3)(h2:s.out= [])(h:Sw32.due s=some r):Sw32.tells s= {s with asked:=none,out:=Sw32.told s.form s.screen s.way r,screen:= {s.screen with changed:=s.screen.changed.zipIdx.map fun x=>x.1 && !r.has (x.2 % s.screen.w) (x.2 / s.screen.w)} }:=by
 unfold Sw32.tells
 rw[if_neg (by simp[h1,h2]),h]
theorem fH.same {A:bB} {H H':Hp} {x:La} {s:Sw32.St} {q:List Nat} (w:LW A H x s q) (k:bu H H'):fH A H x H' x s q:=⟨w.same k,rfl,rfl,Cz.kp (k.kp _)⟩
noncomputable def Ag(A:bB):Sp:=fun vs H Q _=>∃(x:La)(s0:Sw32.St)(q:List Nat),vs= [.ref x.li]∧LW A H x s0 q∧Ok s0∧∀x' H',fH A H x H' x' (Sw32.tells s0) q→Q .non H'
theorem oE:aF ["self","box"] ["self"] (aB lL):=⟨rfl,rfl,rfl,by decide +kernel,rfl,by decide +kernel,by decide +kernel⟩
theorem gO{A:bB}(T:Txt K mg A):dZ P w K mg base 8 A.cJ ["self"] (Ag A):=by
 refine T.cJ.ok oE (fun vs H Q E h=> ?_) (fun cdv Ar outer s H vs Q E hr h=> ?_)
 ·obtain⟨x,s0,q,rfl,_⟩:=h
  rfl
 ·obtain⟨x,s0,q,rfl,w,ok,k⟩:=h
  have nd:=oE.nd
  have off:Sw32.tells s0=s0→∀H',bu H H'→Q .non H':=fun e H' s'=>by
   have:=fH.same w s'
   rw[←e]at this
   exact k x H' this
  refine⟨_,(ak (bC (PW.pt (vD (aJ xQ (bc T.aY 2 (pv 0)) (bD T.iZ) (aP _)) (vD (aJ Jb (bc T.aY 9 (pv 0)) gP (aP _)) (wD (aJ Ak (cY T.gk T.jm (uh T) (hr.mono (by decide)) (bc T.aY 5 (pv 0))) aA (aP _))))))
    (au IW) aM)
   (ak (aQ (i:=1) nd rfl (Or.inl rfl) (bc T.aY 9 (pv 0)))
   (ak (bC (aJ dF (bc T.aY 10 (pv 0)) aA (aP _))
    (au (aQ (i:=1) nd rfl (Or.inl rfl) (dJ T.bV T.cM (qT T) (hr.mono (by decide)) (bc T.aY 0 (pv 0)) (aa (pv 1) aq)))) aM)
   (au (bC (aJ Ww (pv 1) gP (aP _))
    (ak (oH T.aY 9 (pv 0) gP)
   (ak (aR (dJ T.bV T.gA (BZ T) (hr.mono (by decide)) (bc T.aY 0 (pv 0)) (aa (pv 1) aq)))
   (au (aR (dJ T.aY T.dz (eV T) (hr.mono (by decide)) (pv 0) (aa (cC (Cg T) (hr.mono (by decide)) T.gD rfl (aa (bc T.aY 0 (pv 0)) (aa (pv 1) (aa (bc T.aY 8 (pv 0)) (aa (bc T.aY 7 (pv 0)) aq))))) aq)))))) aM))))),?_⟩
  apply cz w.lo;rfl;rfl
  refine⟨rfl,aC rfl (qQ (fun c=>Dl ?_) fun c1=> ?_)⟩
  ·rw[aH]at c
   exact off (vo (.inl (by omega))) H (bu.refl H)
  rw[aH]at c1
  have hst:s0.state=3:=by omega
  have Ls:=w.ask (by omega)
  apply cz w.lo;rfl;rfl
  refine⟨rfl,aC rfl (bJ (fun c=>Dl ?_) fun c2=> ?_)⟩
  ·refine off (xG ?_) H (bu.refl H)
   cases ha:s0.asked with
   | none=>unfold Sw32.due;rw[ha];rfl
   | some a=>
    rw[ha]at Ls
    obtain⟨bx,db,e,_⟩:=Ls
    have c:x.av= .non:=c
    rw[e]at c
    cases c
  have c2:¬x.av= .non:=c2
  apply cz w.lo;rfl;rfl
  refine vU rfl ⟨w.ob,x.ob,x.YX,x.ol,x.op,x.a2,rfl,w.ob,w.ol,w.Gp,_,_,rfl,rfl,_,rfl,bJ (fun c=> ?_) fun c3=> ?_⟩
  ·refine off (vo (.inr fun e=> ?_)) H (bu.refl H)
   rw[←w.out,e]at c
   exact absurd c (by decide)
  have hout:s0.out= []:=by
   rw[←w.out]at c3
   cases ho:s0.out with
   | nil=>rfl
   | cons a b=>rw[ho]at c3;exact absurd (by simp) c3
  obtain⟨⟨b,r⟩,ha⟩:∃a,s0.asked=some a:=by
   cases ha:s0.asked with
   | none=>rw[ha]at Ls;exact absurd Ls c2
   | some a=>exact⟨a,rfl⟩
  rw[ha]at Ls
  obtain⟨bx,db,eav,hb,hoc⟩:=Ls
  have hin:=ok.asked b r ha
  have hlo:=w.lo
  unfold gn at hlo
  rw[eav,hoc]at hlo
  refine aC rfl (vy rfl hlo rfl ?_)
  dsimp only[kZ]
  refine ux (fun σ H2=>∃v,σ= [some (.ref x.li),some v]∧bu H H2∧(Sw32.due s0=none→v= .non)∧∀r',Sw32.due s0=some r'→∃b2 d2,v= .ref b2∧H2 b2=some (gh A d2 r'.x r'.y r'.w r'.h)) (fun N hN=> ?_) ?_
  ·apply cz hlo;rfl;rfl
   refine⟨rfl,aC rfl (bJ (fun c=> ?_) fun c=> ?_)⟩
   ·rw[aH]at c
    have hbt:b=true:=by
     cases b with
     | true=>rfl
     | false=>exact absurd c (by decide)
    subst hbt
    have Ck:Sw32.due s0=Sw32.around (r.points.filter s0.screen.new):=by unfold Sw32.due;rw[ha];rfl
    apply cz hlo;rfl;rfl
    refine vU rfl ⟨w.can.ob,_,rfl,x.ev,x.ca,x.dc,x.ra,x.ma,bx,db,s0.screen.w,s0.screen.h,r,s0.screen,x.cs,x.ms,rfl,w.can,hb,hin.2.2.1,hin.2.2.2,w.held,rfl,fun hn H2 s2=> ?_,fun q' b2 d2 H2 hq s2 _ hb2=> ?_⟩
    ·exact hN _ _ ⟨_,rfl,s2,fun _=>rfl,fun r' e=>by rw[Ck,hn]at e;cases e⟩
    ·refine hN _ _ ⟨_,rfl,s2,(fun e=>by rw[Ck,hq]at e;cases e),fun r' e=> ?_⟩
     rw[Ck,hq]at e
     cases e
     exact vq (a:=b2) (b:=d2) rfl hb2
   ·rw[aH]at c
    have hbt:b=false:=by
     cases b with
     | false=>rfl
     | true=>exact absurd rfl c
    subst hbt
    have Ck:Sw32.due s0=some r:=by unfold Sw32.due;rw[ha];rfl
    refine hN _ _ ⟨_,rfl,bu.refl H,(fun e=>by rw[Ck]at e;cases e),fun r' e=> ?_⟩
    rw[Ck]at e
    cases e
    exact vq (a:=bx) (b:=db) rfl hb
  ·rintro σ H2 ⟨v,rfl,s2,hn,hs⟩
   cases Ck:Sw32.due s0 with
   | none=>
    rw[hn Ck]
    refine cW rfl rfl (aC rfl ?_)
    exact off (xG Ck) H2 s2
   | some r'=>
    obtain⟨b2,d2,rfl,hb2⟩:=hs r' Ck
    have S9:=Ek ok Ck
    refine cW rfl rfl (aC rfl ?_)
    have w2:=w.same s2
    refine aC rfl (lJ rfl (s2 _ _ hlo) (by simp) ?_)
    have ig:Kp [x.li] H2 (upd H2 x.li (gn A {x with gK:=x.gK,oc:=x.oc,av:= .non} s0.state s0.way)):=cH
    have w3:=w2.MN (gK:=x.gK) (oc:=x.oc) (av:= .non) (st:=s0.state) (way:=s0.way) (version:=s0.version) (asked:=none) ig aj (fun _=>rfl) w.gK
    have hb3:(upd H2 x.li (gn A {x with gK:=x.gK,oc:=x.oc,av:= .non} s0.state s0.way)) b2=some (gh A d2 r'.x r'.y r'.w r'.h):=oth (aN hb2 w2.lo (vm (by simp))) hb2
    have eH:upd H2 x.li (Io A.cLine bZ x.dl ([.ref x.ca,.ref x.nm,.int (s0.state:Int),.int (x.gK:Int),.ref x.ib,.ref x.ob,.ref x.ev,.ref x.fa,.int (s0.way:Int),.ref bx,.int ((if b=true then 1 else 0 :Nat):Int)].set 9 .non))=upd H2 x.li (gn A {x with gK:=x.gK,oc:=x.oc,av:= .non} s0.state s0.way):=by rw[←hoc];rfl
    rw[eH]
    generalize upd H2 x.li (gn A {x with gK:=x.gK,oc:=x.oc,av:= .non} s0.state s0.way)=H3 at *
    apply cz w3.lo;rfl;rfl
    refine⟨_,_,_,rfl,w3.can.ob,_,rfl,x.ev,x.ca,x.dc,x.ra,x.ma,b2,d2,s0.screen.w,s0.screen.h,r'.x,r'.y,r'.w,r'.h,x.cs,x.ms,rfl,w3.can,hb3,S9.2.2.1,S9.2.2.2,fun H4 kp4 c4=> ?_⟩
    have hd4:=Ma (r:=r') w.held S9.2.2.1 S9.2.2.2
    have w4:=w3.PK (sc:= {s0.screen with changed:=s0.screen.changed.zipIdx.map fun x=>x.1 && !r'.has (x.2 % s0.screen.w) (x.2 / s0.screen.w)}) (kp4.one (by simp)) rfl rfl c4 hd4 w.col
    have hb4:H4 b2=some (gh A d2 r'.x r'.y r'.w r'.h):=kp4 _ _ hb3 (by simpa using aN hb3 w3.can.yG (fun e=>nomatch e))
    refine aC rfl (jM rfl w4.lo ?_)
    apply cz w4.lo;rfl;rfl
    refine aC rfl ?_
    apply cz w4.lo;rfl;rfl
    apply cz w4.lo;rfl;rfl
    refine⟨x.ev,x.ca,x.dc,x.ra,x.ma,b2,d2,x.fa,x.df,x.gl,x.sl,x.kd,[x.ev],x.d,s0.screen.w,s0.screen.h,s0.way,x.cs,_,r',_,rfl,w4.can,hb4,hd4,rfl,rfl,S9,w.col,w4.fm,fun z hz=>by simp at hz;exact⟨_,hz▸w4.ev⟩,w.bits,fun l H5 MJ YT f5 h5=> ?_⟩
    have w5:=w4.acb MJ (f5.less fun z hz=>List.mem_cons_of_mem _ hz)
    obtain⟨a1,a2,a3⟩:=Rb ok.w2 ok.h2 S9
    have hlen:=Ej (f:=aL x.d) (s:= {s0.screen with changed:=s0.screen.changed.zipIdx.map fun x=>x.1 && !r'.has (x.2 % s0.screen.w) (x.2 / s0.screen.w)}) (way:=s0.way) (r:=r') (by rw[w.G6];exact ok.size) a1 a2 a3
    refine⟨{x with gK:=x.gK,oc:=x.oc,av:= .non,cs:=x.cs,ms:=d9 x.ms r'.x r'.y r'.w r'.h},⟨_,q,_,l,rfl,w5,h5,?_,fun x' H' go kp _=> ?_⟩⟩
    ·show s0.out.length+_≤_
     rw[hout]
     exact Nat.le_trans (Nat.le_trans (Nat.le_of_eq (Nat.zero_add _)) hlen) (by decide)
    ·have e:=PN hst hout Ck
     have go0:fH A H x H5 {x with gK:=x.gK,oc:=x.oc,av:= .non,cs:=x.cs,ms:=d9 x.ms r'.x r'.y r'.w r'.h} _ q:=⟨w5,rfl,rfl,Cz.kp (fun z o e n=>MJ _ _ (kp4 _ _ (ig _ _ (s2 _ _ e) (fun y=>n (by simp at y;simp[y]))) (fun y=>n (by simp at y;simp[y]))) (fun y=>n (by simp at y;simp[y])))⟩
     have Tu:=go0.trans go
     refine k x' H' ?_
     rw[e]
     have e2:s0.out++Sw32.told (aL x.d) {s0.screen with changed:=s0.screen.changed.zipIdx.map fun x=>x.1 && !r'.has (x.2 % s0.screen.w) (x.2 / s0.screen.w)} s0.way r'=Sw32.told s0.form s0.screen s0.way r':=by rw[hout,JZ,w.G6];rfl
     rw[←e2]
     exact Tu
noncomputable def G7(A:bB):Sp:=fun vs H Q _=>∃(x:La)(s0:Sw32.St)(q:List Nat)(n:Nat),vs= [.ref x.li,.int (n:Int)]∧LW A H x s0 q∧Ok s0∧∀l x' H',fH A H x H' x' (Sw32.tells {s0 with out:=s0.out.drop n}) q→H' l=some (.lst (nv (s0.out.take n)))→l ∉ x'.cells→Q (.ref l) H'
theorem uC:aF ["self","most","octets"] ["self","most"] (aB qw):=⟨rfl,rfl,rfl,by decide +kernel,rfl,by decide +kernel,by decide +kernel⟩
theorem Fx{A:bB}(T:Txt K mg A):dZ P w K mg base 9 A.iy ["self","most"] (G7 A):=by
 refine T.iy.ok uC (fun vs H Q E h=> ?_) (fun cdv Ar outer s H vs Q E hr h=> ?_)
 ·obtain⟨x,s0,q,n,rfl,_⟩:=h
  rfl
 ·obtain⟨x,s0,q,n,rfl,w,ok,k⟩:=h
  have nd:=uC.nd
  refine⟨_,(ak (aQ (i:=2) nd rfl (Or.inl rfl) (dJ T.gk T.jT (Bg T) (hr.mono (by decide)) (bc T.aY 5 (pv 0)) (aa (pv 1) aq)))
   (ak (aR (cY T.aY T.cJ (gO T) (hr.mono (by decide)) (pv 0)))
   (au (aG (pv 2))))),?_⟩
  apply cz w.lo;rfl;rfl
  refine⟨_,_,_,rfl,w.ob,_,rfl,x.ob,x.YX,x.ol,x.op,n,x.a2,rfl,w.ob,w.ol,fun l H1 hl h1 h2 kp=> ?_⟩
  rw[←w.out]at h1 h2
  have hlen:(s0.out.take n).length≤s0.out.length:=by rw[List.length_take];omega
  have hol:s0.out.length=x.a2.length-x.op:=by rw[w.out,List.length_drop]
  have ah1:=w.Gp
  have w1:=w.Y0 (l:=x.ol) (a2:=x.a2) (op:=x.op+(s0.out.take n).length) kp h2 (kp _ _ w.ol (by simpa using aN w.ol w.ob (fun e=>nomatch e))) w.zf (by omega)
  have e1:x.a2.drop (x.op+(s0.out.take n).length)=s0.out.drop n:=by
   rw[←List.drop_drop,←w.out,List.length_take]
   by_cases c:n≤s0.out.length
   ·rw[Nat.min_eq_left c]
   ·rw[Nat.min_eq_right (by omega),List.drop_length,List.drop_eq_nil_of_le (by omega)]
  rw[e1]at w1
  have hlev:l≠x.ev:=(ao w.ev hl).symm
  refine aC rfl (jM rfl w1.lo (vU (a:= {x with ol:=x.ol,op:=x.op+(s0.out.take n).length,a2:=x.a2}) (c:=q) rfl ⟨w1,Vm ok n,fun x' H' go=> ?_⟩))
  obtain⟨q1,q2⟩:=go.fr l _ h1 (w1.imm h1 (cI _) hlev)
  exact aC rfl (k l x' H' (fH.trans ⟨w1,rfl,rfl,Cz.kp (kp.one (by simp))⟩ go) q1 q2)
theorem Can.av {A:bB} {av av':Addr} {H:Hp} {ca dx ra ma:Addr} {w h:Nat} {cs:List (List Nat)} {ms:List (List Bool)} (c:Can A av H ca dx ra ma w h cs ms) (hn:H av'=none):Can A av' H ca dx ra ma w h cs ms:=by
 obtain⟨rs,h1,p⟩:=c.rows
 exact⟨c.ob,⟨rs,h1,p.imp fun a b q=>⟨q.1,ao q.1 hn⟩⟩,c.yG,c.wc,c.wm,c.lc,c.lm,c.w1,c.w2,c.h1,c.h2⟩
noncomputable def J0(A:bB):Sp:=fun vs H Q _=>∃(a:Addr)(bs:List Nat),vs= [.ref a]∧H a=some (.lst (nv bs))∧∀H',bu H H'→Q (.int (Sw32.field bs 4 4 :Nat)) H'
theorem wz:aF ["message"] ["message"] (aB tQ):=⟨rfl,rfl,rfl,by decide +kernel,rfl,by decide +kernel,by decide +kernel⟩
theorem pF{A:bB}(T:Txt K mg A):dZ P w K mg base 2 A.fY ["message"] (J0 A):=by
 refine T.fY.ok wz (fun vs H Q E h=> ?_) (fun cdv Ar outer s H vs Q E hr h=> ?_)
 ·obtain⟨a,bs,rfl,_⟩:=h
  rfl
 ·obtain⟨a,bs,rfl,ha,k⟩:=h
  have nd:=wz.nd
  refine⟨_,(au (aG (cC (cX T) (hr.mono (by decide)) T.bY rfl (aa (bQ (cA K) (pv 0) (bz aA) (bz aA)) aq)))),?_⟩
  refine aC rfl (aC rfl (aC rfl (cP (a:=a) rfl (bj.of ha) (fun t ht=> ?_))))
  rw[show (some (4 :Int))=some ((4 :Nat):Int) from rfl,show (some (8 :Int))=some ((8 :Nat):Int) from rfl,dg,dY,fG]
  exact cP (a:=t) rfl (.inl aj) (k _ (az ht))
noncomputable def MT(A:bB):Sp:=fun vs H Q _=>∃(a:Addr)(bs:List Nat),vs= [.ref a]∧H a=some (.lst (nv bs))∧∀H',bu H H'→Q (.bl (decide (4096<Sw32.field bs 4 4))) H'
theorem yU:aF ["message"] ["message"] (aB wU):=⟨rfl,rfl,rfl,by decide +kernel,rfl,by decide +kernel,by decide +kernel⟩
theorem yV{A:bB}(T:Txt K mg A):dZ P w K mg base 3 A.jf ["message"] (MT A):=by
 refine T.jf.ok yU (fun vs H Q E h=> ?_) (fun cdv Ar outer s H vs Q E hr h=> ?_)
 ·obtain⟨a,bs,rfl,_⟩:=h
  rfl
 ·obtain⟨a,bs,rfl,ha,k⟩:=h
  have nd:=yU.nd
  refine⟨_,(au (aG (qg Ak (cC (pF T) (hr.mono (by decide)) T.fY rfl (aa (pv 0) aq)) (bD T.Aw) (aP _)))),?_⟩
  refine aC rfl (cP (a:=a) (b:=bs) rfl ha (fun H1 s1=>⟨_,_,rfl,rfl,?_⟩))
  have:=k H1 s1
  rw[show decide (4096<Sw32.field bs 4 4)=decide (((Sw32.field bs 4 4 :Nat):Int) > 4096) from decide_eq_decide.mpr (by omega)]at this
  exact this
theorem Kp.alive {z:Addr} {H H':Hp} (k:Kp [z] H H') {oz:HO} (hz:H' z=some oz) {b:Addr} (h:H' b=none):H b=none:=by
 by_cases q:H b=none
 ·exact q
 ·obtain⟨o,ho⟩:=Option.ne_none_iff_exists'.mp q
  by_cases e:b=z
  ·rw[e,hz]at h;cases h
  ·rw[k _ _ ho (by simpa using e)]at h;cases h
theorem VF:(Str.ofString "RFB 003.008\n").cps.toList=Sw32.ascii "RFB 003.008\n" :=by decide +kernel
noncomputable def PQ(A:bB):Sp:=fun vs H Q _=>∃(av0 p dl ca dc ra ma nm:Addr)(w h:Nat)(name:List Nat),vs= [.ref p,.ref ca,.ref nm]∧H p=some (Io A.cLine bZ dl [])∧Can A av0 H ca dc ra ma w h (List.replicate h (List.replicate w 0)) (List.replicate h (List.replicate w true))∧H nm=some (.lst (nv name))∧∀x H',LW A H' x (Sw32.first w h name) []→x.li=p→x.ca=ca→Kp [p] H H'→(∀b o,H b=some o→b≠p→b≠ra→b≠ma→b ∉ x.cells)→Q .non H'
theorem Bt:aF ["self","canvas","name"] ["self","canvas","name"] (aB zP):=⟨rfl,rfl,rfl,by decide +kernel,rfl,by decide +kernel,by decide +kernel⟩
theorem M3{A:bB}(T:Txt K mg A):dZ P w K mg base 4 A.mJ ["self","canvas","name"] (PQ A):=by
 refine T.mJ.ok Bt (fun vs H Q E h=> ?_) (fun cdv Ar outer s H vs Q E hr h=> ?_)
 ·obtain⟨av0,p,dl,ca,dc,ra,ma,nm,w,h,name,rfl,_⟩:=h
  rfl
 ·obtain⟨av0,p,dl,ca,dc,ra,ma,nm,w,h,name,rfl,hp,c,hnm,k⟩:=h
  have nd:=Bt.nd
  refine⟨_,(ak (dw T.aY 0 (pv 0) (pv 1))
   (ak (dw T.aY 1 (pv 0) (pv 2))
   (ak (dw T.aY 2 (pv 0) (bD T.my))
   (ak (dw T.aY 3 (pv 0) aA)
   (ak (dw T.aY 4 (pv 0) (Dn T.gk T.Jz (ug T) (hr.mono (by decide)) rfl))
   (ak (dw T.aY 5 (pv 0) (Dn T.gk T.Jz (ug T) (hr.mono (by decide)) rfl))
   (ak (dw T.aY 6 (pv 0) (cG aq))
   (ak (dw T.aY 7 (pv 0) (vI T.dm T.Oo (Bj T) (hr.mono (by decide)) rfl (aa (QW T.qI) aq)))
   (ak (dw T.aY 8 (pv 0) (bD T.tW))
   (ak (dw T.aY 9 (pv 0) gP)
   (ak (dw T.aY 10 (pv 0) aA)
   (au (aR (dJ T.aY T.dz (eV T) (hr.mono (by decide)) (pv 0) (aa (cC (pA T) (hr.mono (by decide)) T.fW rfl (aa (vJ T.Q0) aq)) aq))))))))))))))),?_⟩
  refine aC rfl (aC rfl (lJ rfl hp rfl ?_))
  refine aC rfl (aC rfl (lJ rfl aj rfl ?_))
  rw[bM]
  refine aC rfl (lJ rfl aj rfl ?_)
  rw[bM]
  refine aC rfl (lJ rfl aj rfl ?_)
  rw[bM]
  have k4:Kp [p] H (upd H p (Io A.cLine bZ dl [.ref ca,.ref nm,.int 0,.int 0])):=cH
  have o4:(upd H p (Io A.cLine bZ dl [.ref ca,.ref nm,.int 0,.int 0])) p=some (Io A.cLine bZ dl [.ref ca,.ref nm,.int 0,.int 0]):=aj
  show Gq _ _ _ _ (upd H p (Io A.cLine bZ dl [.ref ca,.ref nm,.int 0,.int 0]))
  generalize upd H p (Io A.cLine bZ dl [.ref ca,.ref nm,.int 0,.int 0])=H4 at *
  refine fun b di hb hdi hne=>⟨b,di,rfl,aj,fun il hil=>⟨rfl,?_⟩⟩
  have bp:b≠p:=(ao o4 hb).symm
  obtain⟨hi1,hib⟩:=aU hil
  obtain⟨hi2,hid⟩:=aU hi1
  have ip:il≠p:=(ao o4 hi2).symm
  refine aC rfl (lJ rfl (oth bp.symm (old hil (oth bp.symm (old hdi o4)))) rfl ?_)
  have k5:Kp [p] H4 (upd (upd (upd (upd (upd H4 di (.own b)) b (Io A.gY gW di [])) il (.lst [])) b (eU A di il 0)) p (Io A.cLine bZ dl [.ref ca,.ref nm,.int 0,.int 0,.ref b])):=fun z o e n=>oth (by simpa using n) (oth (ao e hb) (old hil (oth (ao e hb) (old hdi e))))
  have o5:(upd (upd (upd (upd (upd H4 di (.own b)) b (Io A.gY gW di [])) il (.lst [])) b (eU A di il 0)) p (Io A.cLine bZ dl [.ref ca,.ref nm,.int 0,.int 0,.ref b])) p=some (Io A.cLine bZ dl [.ref ca,.ref nm,.int 0,.int 0,.ref b]):=aj
  have b5:(upd (upd (upd (upd (upd H4 di (.own b)) b (Io A.gY gW di [])) il (.lst [])) b (eU A di il 0)) p (Io A.cLine bZ dl [.ref ca,.ref nm,.int 0,.int 0,.ref b])) b=some (eU A di il 0):=oth bp aj
  have i5:(upd (upd (upd (upd (upd H4 di (.own b)) b (Io A.gY gW di [])) il (.lst [])) b (eU A di il 0)) p (Io A.cLine bZ dl [.ref ca,.ref nm,.int 0,.int 0,.ref b])) il=some (.lst []):=oth ip (oth hib aj)
  show Gq _ _ _ _ (upd (upd (upd (upd (upd H4 di (.own b)) b (Io A.gY gW di [])) il (.lst [])) b (eU A di il 0)) p (Io A.cLine bZ dl [.ref ca,.ref nm,.int 0,.int 0,.ref b]))
  generalize upd (upd (upd (upd (upd H4 di (.own b)) b (Io A.gY gW di [])) il (.lst [])) b (eU A di il 0)) p (Io A.cLine bZ dl [.ref ca,.ref nm,.int 0,.int 0,.ref b])=H5 at *
  refine fun b' G8 hb' acd hne'=>⟨b',G8,rfl,aj,fun ol hol=>⟨rfl,?_⟩⟩
  have bp':b'≠p:=(ao o5 hb').symm
  obtain⟨ho1,hob⟩:=aU hol
  obtain⟨ho2,hod⟩:=aU ho1
  have op:ol≠p:=(ao o5 ho2).symm
  refine aC rfl (lJ rfl (oth bp'.symm (old hol (oth bp'.symm (old acd o5)))) rfl ?_)
  have k6:Kp [p] H5 (upd (upd (upd (upd (upd H5 G8 (.own b')) b' (Io A.gY gW G8 [])) ol (.lst [])) b' (eU A G8 ol 0)) p (Io A.cLine bZ dl [.ref ca,.ref nm,.int 0,.int 0,.ref b,.ref b'])):=fun z o e n=>oth (by simpa using n) (oth (ao e hb') (old hol (oth (ao e hb') (old acd e))))
  have o6:(upd (upd (upd (upd (upd H5 G8 (.own b')) b' (Io A.gY gW G8 [])) ol (.lst [])) b' (eU A G8 ol 0)) p (Io A.cLine bZ dl [.ref ca,.ref nm,.int 0,.int 0,.ref b,.ref b'])) p=some (Io A.cLine bZ dl [.ref ca,.ref nm,.int 0,.int 0,.ref b,.ref b']):=aj
  have b6':(upd (upd (upd (upd (upd H5 G8 (.own b')) b' (Io A.gY gW G8 [])) ol (.lst [])) b' (eU A G8 ol 0)) p (Io A.cLine bZ dl [.ref ca,.ref nm,.int 0,.int 0,.ref b,.ref b'])) b'=some (eU A G8 ol 0):=oth bp' aj
  have i6':(upd (upd (upd (upd (upd H5 G8 (.own b')) b' (Io A.gY gW G8 [])) ol (.lst [])) b' (eU A G8 ol 0)) p (Io A.cLine bZ dl [.ref ca,.ref nm,.int 0,.int 0,.ref b,.ref b'])) ol=some (.lst []):=oth op (oth hob aj)
  show Gq _ _ _ _ (upd (upd (upd (upd (upd H5 G8 (.own b')) b' (Io A.gY gW G8 [])) ol (.lst [])) b' (eU A G8 ol 0)) p (Io A.cLine bZ dl [.ref ca,.ref nm,.int 0,.int 0,.ref b,.ref b']))
  generalize upd (upd (upd (upd (upd H5 G8 (.own b')) b' (Io A.gY gW G8 [])) ol (.lst [])) b' (eU A G8 ol 0)) p (Io A.cLine bZ dl [.ref ca,.ref nm,.int 0,.int 0,.ref b,.ref b'])=H6 at *
  have b6:=k6 _ _ b5 (by simpa using bp)
  have i6:=k6 _ _ i5 (by simpa using ip)
  have nbb:b≠b':=ao b5 hb'
  refine⟨by decide,fun ev hev=> ?_⟩
  have evp:ev≠p:=(ao o6 hev).symm
  refine aC rfl (lJ rfl (old hev o6) rfl ?_)
  have k7:Kp [p] H6 (upd (upd H6 ev (.lst [])) p (Io A.cLine bZ dl [.ref ca,.ref nm,.int 0,.int 0,.ref b,.ref b',.ref ev])):=fun z o e n=>oth (by simpa using n) (old hev e)
  have o7:upd (upd H6 ev (.lst [])) p (Io A.cLine bZ dl [.ref ca,.ref nm,.int 0,.int 0,.ref b,.ref b',.ref ev]) p=some (Io A.cLine bZ dl [.ref ca,.ref nm,.int 0,.int 0,.ref b,.ref b',.ref ev]):=aj
  have e7:upd (upd H6 ev (.lst [])) p (Io A.cLine bZ dl [.ref ca,.ref nm,.int 0,.int 0,.ref b,.ref b',.ref ev]) ev=some (.lst []):=oth evp aj
  show Gq _ _ _ _ (upd (upd H6 ev (.lst [])) p (Io A.cLine bZ dl [.ref ca,.ref nm,.int 0,.int 0,.ref b,.ref b',.ref ev]))
  generalize upd (upd H6 ev (.lst [])) p (Io A.cLine bZ dl [.ref ca,.ref nm,.int 0,.int 0,.ref b,.ref b',.ref ev])=H7 at *
  refine fun fa df hfa hdf hnf=>⟨fa,df,A.lA,[ev],pY,rfl,aj,.inr ⟨rfl,rfl⟩,by decide,by decide,?_,fun gl sl kd H8 hgl hsl hkd Py f8=>⟨rfl,?_⟩⟩
  ·intro z hz
   simp at hz
   subst hz
   exact⟨_,oth (ao e7 hfa) (old hdf e7)⟩
  have fp:fa≠p:=(ao o7 hfa).symm
  have k8:Kp [p] H7 H8:=fun z o e n=>Py _ _ (oth (ao e hfa) (old hdf e)) (by simpa using ao e hfa)
  have o8:H8 p=_:=Py _ _ (oth fp.symm (old hdf o7)) (by simpa using fp.symm)
  have kdp:H7 kd=none:=(aU (aU hkd).1).1
  have kdf:kd≠fa:=(aU hkd).2
  refine aC rfl (vU rfl ⟨o8,rfl,?_⟩)
  refine aC rfl (lJ rfl aj rfl ?_)
  rw[bM]
  refine aC rfl (lJ rfl aj rfl ?_)
  rw[bM]
  refine aC rfl (lJ rfl aj rfl ?_)
  rw[bM]
  have k11:Kp [p] H8 (upd H8 p (Io A.cLine bZ dl [.ref ca,.ref nm,.int 0,.int 0,.ref b,.ref b',.ref ev,.ref fa,.int 0,.non,.int 0])):=cH
  have o11:upd H8 p (Io A.cLine bZ dl [.ref ca,.ref nm,.int 0,.int 0,.ref b,.ref b',.ref ev,.ref fa,.int 0,.non,.int 0]) p=some (Io A.cLine bZ dl [.ref ca,.ref nm,.int 0,.int 0,.ref b,.ref b',.ref ev,.ref fa,.int 0,.non,.int 0]):=aj
  have f11:aW A [ev] (upd H8 p (Io A.cLine bZ dl [.ref ca,.ref nm,.int 0,.int 0,.ref b,.ref b',.ref ev,.ref fa,.int 0,.non,.int 0])) fa df gl sl kd (fdOf pY):=f8.mono (fun o e=>oth fp e) (fun o e=>oth (ao o7 kdp).symm e) fun z ns _ e=>oth (aN e o8 (fun e=>nomatch e)) e
  show Yi (tM A.cLine bZ (Fv A) (CN 0) (Ku (tC0 (yE A) (Ku (tC (V.str (Str.ofString "RFB 003.008\n"))) N7)) N7)) _ _ (upd H8 p (Io A.cLine bZ dl [.ref ca,.ref nm,.int 0,.int 0,.ref b,.ref b',.ref ev,.ref fa,.int 0,.non,.int 0]))
  generalize upd H8 p (Io A.cLine bZ dl [.ref ca,.ref nm,.int 0,.int 0,.ref b,.ref b',.ref ev,.ref fa,.int 0,.non,.int 0])=HF at *
  have kF6:Kp [p] H6 HF:=(k7.trans k8).trans k11
  have kF5:Kp [p] H5 HF:=k6.trans kF6
  have kF4:Kp [p] H4 HF:=k5.trans kF5
  have kF:Kp [p] H HF:=k4.trans kF4
  have acf:H5 ev=none:=k6.alive o6 hev
  have acg:H4 ev=none:=k5.alive o5 acf
  have XN:H ev=none:=k4.alive o4 acg
  have cp:ca≠p:=aN c.ob hp (vm (by simp))
  obtain⟨rs,hra,prs⟩:=id c.rows
  have rap:ra≠p:=aN hra hp (fun e=>nomatch e)
  have map:ma≠p:=aN c.yG hp (fun e=>nomatch e)
  have cF:Can A ev HF ca dc ra ma w h (List.replicate h (List.replicate w 0)) (List.replicate h (List.replicate w true)):=(c.av XN).mono (fun o e=>kF _ _ e (by simpa using cp)) (fun o e=>kF _ _ e (by simpa using rap)) (fun o e=>kF _ _ e (by simpa using map)) fun l ns e _=>kF _ _ e (by simpa using aN e hp (fun e=>nomatch e))
  have eF:HF ev=some (.lst []):=k11 _ _ (k8 _ _ e7 (by simpa using evp)) (by simpa using evp)
  have wF:LW A HF {li:=p,dl:=dl,ca:=ca,dc:=dc,ra:=ra,ma:=ma,nm:=nm,ib:=b,di:=di,il:=il,ob:=b',YX:=G8,ol:=ol,ev:=ev,fa:=fa,df:=df,gl:=gl,sl:=sl,kd:=kd,ip:=0,op:=0,gK:=0,oc:=0,a1:= [],a2:= [],cs:=List.replicate h (List.replicate w 0),ms:=List.replicate h (List.replicate w true),d:=fdOf pY,es:= [],av:= .non} {Sw32.first w h name with out:= []} []:= {
   lo:=o11
   can:=cF
   held:=O6 w h name c.w1
   col:=fun row hr z hz=>by rw[List.eq_of_mem_replicate hr]at hz;rw[List.eq_of_mem_replicate hz];decide
   nm:=kF _ _ hnm (by simpa using aN hnm hp (fun e=>nomatch e))
   yP:=ao hnm XN
   ib:=kF6 _ _ b6 (by simpa using bp)
   il:=kF6 _ _ i6 (by simpa using ip)
   Br:=ao i6 hev
   Ij:=Nat.le_refl _
   Ci:=rfl
   ob:=kF6 _ _ b6' (by simpa using bp')
   ol:=kF6 _ _ i6' (by simpa using op)
   zf:=ao i6' hev
   Gp:=Nat.le_refl _
   out:=rfl
   Ik:=nbb
   ev:=eF
   evs:=trivial
   G5:=(ao hra XN).symm
   fm:=f11
   G6:=show aL (fdOf pY)=Sw32.usual from by decide +kernel
   bits:= .inr (.inr rfl)
   ask:=fun _=>rfl
   gK:=fun h=>absurd (show (0 :Nat)=1 from h) (by decide)}
  refine aC rfl (vU rfl ⟨o11,_,rfl,by decide +kernel,fun l hl=> ?_⟩)
  rw[VF]
  have wL:∃x0:La,x0.li=p∧x0.ca=ca∧x0.cells= [p,ra,ma,b,b',ev,kd]∧x0.ob=b'∧LW A (upd HF l (.lst (nv (Sw32.ascii "RFB 003.008\n")))) x0 {Sw32.first w h name with out:= []} []:=⟨_,rfl,rfl,rfl,rfl,wF.same (az hl)⟩
  obtain⟨x0,x1,x2,x3,x4,wL⟩:=wL
  refine⟨x0,⟨_,_,Sw32.ascii "RFB 003.008\n",l,by rw[x1],wL,aj,by show 0+_≤_;decide,fun x' H' go kp _=> ?_⟩⟩
  rw[x4]at kp
  refine k x' H' go.w (go.li.trans x1) (go.ca.trans x2) (fun z o e n=>kp _ _ (old hl (kF _ _ e n)) ?_) fun z o e n1 n2 n3=> ?_
  ·have:H b'=none:=k4.alive o4 (k5.alive o5 hb')
   simpa using ao e this
  ·have hbH:H b=none:=k4.alive o4 hb
   have aeT:H b'=none:=k4.alive o4 (k5.alive o5 hb')
   have hkH:H kd=none:=k4.alive o4 (k5.alive o5 (k6.alive o6 (k7.alive o7 kdp)))
   refine(go.fr z o (old hl (kF _ _ e (by simpa using n1))) ?_).2
   rw[x3]
   simp only[List.mem_cons,List.not_mem_nil,or_false,not_or]
   exact⟨n1,n2,n3,ao e hbH,ao e aeT,ao e XN,ao e hkH⟩
structure Y5(A:bB)(H:Hp)(x:La)(s0:Sw32.St)(q:List Nat)(m:Addr)(b:List Nat):Prop where
 w:LW A H x s0 q
 ok:Ok s0
 st:s0.state=3
 hm:H m=some (.lst (nv b))
 me:m≠x.ev
 lt:∀z ∈ b,z<256
theorem PX{d:FD}(h:nA d=true):sH d:=by
 unfold nA at h
 split at h
 ·rename_i c;exact c.1
 ·cases h
theorem Fy{s:Sw32.St}{b:List Nat}(h:s.state=3)(hb:b.getD 0 0=0):Sw32.whole s b=(match Sw32.formOf (b.drop 4)with | some f=> {s with form:=f} | none=>Sw32.close s):=by
 unfold Sw32.whole
 rw[if_neg (by omega),if_neg (by omega),if_neg (by omega),hb]
 rfl
noncomputable def P0(A:bB):Sp:=fun vs H Q _=>∃(x:La)(s0:Sw32.St)(q b:List Nat)(m:Addr),vs= [.ref x.li,.ref m]∧Y5 A H x s0 q m b∧b.getD 0 0=0∧b.length=20∧((Sw32.whole s0 b).state=3→∀x' H',fH A H x H' x' (Sw32.whole s0 b) q→Q (.bl true) H')∧(Sw32.whole s0 b=Sw32.close s0→∀x' H',fH A H x H' x' s0 q→Q (.bl false) H')
theorem Bu:aF ["line","message","form"] ["line","message"] (aB zR):=⟨rfl,rfl,rfl,by decide +kernel,rfl,by decide +kernel,by decide +kernel⟩
theorem M4{A:bB}(T:Txt K mg A):dZ P w K mg base 4 A.mK ["line","message"] (P0 A):=by
 refine T.mK.ok Bu (fun vs H Q E h=> ?_) (fun cdv Ar outer s H vs Q E hr h=> ?_)
 ·obtain⟨x,s0,q,b,m,rfl,_⟩:=h
  rfl
 ·obtain⟨x,s0,q,b,m,rfl,M,hb0,Gn,kt,kf⟩:=h
  have nd:=Bu.nd
  have w:=M.w
  refine⟨_,(ak (aQ (i:=2) nd rfl (Or.inl rfl) (vI T.dm T.Oo (Bj T) (hr.mono (by decide)) rfl (aa (bQ (cA K) (pv 1) (bz aA) (bz aA)) aq)))
   (ak (bC (mV (oF (cY T.dm T.ir (EY T) (hr.mono (by decide)) (pv 2))))
    (au (aG lR)) aM)
   (ak (oH T.aY 7 (pv 0) (pv 2))
   (au (aG lR))))),?_⟩
  refine aC rfl (aC rfl (aC rfl (cP (a:=m) rfl (bj.of M.hm) (fun t ht=> ?_))))
  rw[show (some (4 :Int))=some ((4 :Nat):Int) from rfl,show (some (20 :Int))=some ((20 :Nat):Int) from rfl,dg,dY,fG,List.take_of_length_le (by rw[List.length_drop];omega)]
  have hlt:∀z ∈ b.drop 4,z<256:=fun z hz=>M.lt z (List.mem_of_mem_drop hz)
  have w1:=w.same (az (q:= .lst (nv (b.drop 4))) ht)
  refine fun p dx hp hdx hne=>⟨p,dx,t,[x.ev],b.drop 4,rfl,aj,.inl (oth (ao aj hp) (old hdx aj)),by rw[List.length_drop];omega,hlt,?_,fun gl sl kd H2 hgl hsl hkd kp f2=>⟨rfl,?_⟩⟩
  ·intro z hz
   simp at hz
   subst hz
   exact⟨_,oth (ao w1.ev hp) (old hdx w1.ev)⟩
  have s2:bu H H2:=fun z o e=>by
   have e1:=old (q:=HO.lst (nv (b.drop 4))) ht e
   exact kp _ _ (oth (ao e1 hp) (old hdx e1)) (by simpa using ao e1 hp)
  have hp0:H p=none:=(aU hp).1
  have w2:=w.same s2
  refine aC rfl (jM rfl f2.ob ⟨p,Xr (a:=dx) (b:=gl) (c:=sl) (d:=kd) (e:= [x.ev]) (f:=fdOf (b.drop 4)) rfl f2 (fun H3 s3=>⟨_,rfl,Vn (fun c=> ?_) fun c=> ?_⟩)⟩)
  ·have hr:nA (fdOf (b.drop 4))=false:=by simpa using c
   have e:Sw32.whole s0 b=Sw32.close s0:=by
    rw[Fy M.st hb0,Ia hlt,hr]
    rfl
   exact kf e x H3 (fH.same w (s2.trans s3))
  ·have hr:nA (fdOf (b.drop 4))=true:=by simpa using c
   have e:Sw32.whole s0 b= {s0 with form:=aL (fdOf (b.drop 4))}:=by
    rw[Fy M.st hb0,Ia hlt,if_pos hr]
   have w3:=w2.same s3
   refine aC rfl (aC rfl (lJ rfl w3.lo (by simp) ?_))
   have kp4:Kp [x.li] H3 (upd H3 x.li (gn A {x with fa:=p,df:=dx,gl:=gl,sl:=sl,kd:=kd,d:=fdOf (b.drop 4)} s0.state s0.way)):=cH
   have f3:=f2.same s3
   have npl:p≠x.li:=(ao w.lo hp0).symm
   have f4:aW A [x.ev] (upd H3 x.li (gn A {x with fa:=p,df:=dx,gl:=gl,sl:=sl,kd:=kd,d:=fdOf (b.drop 4)} s0.state s0.way)) p dx gl sl kd (fdOf (b.drop 4)):=by
    obtain⟨kvs,hk,_⟩:=f3.kn
    exact f3.mono (fun o e=>oth npl e) (fun o e=>oth (aN hk w3.lo (fun e=>nomatch e)) e) fun z ns _ e=>oth (aN e w3.lo (fun e=>nomatch e)) e
   have w4:=w3.XM kp4 aj f4 (PX hr)
   rw[e]at kt
   have hk0:H kd=none:=by
    have h1:=(aU (aU hkd).1).1
    exact(aU h1).1
   refine kt M.st {x with fa:=p,df:=dx,gl:=gl,sl:=sl,kd:=kd,d:=fdOf (b.drop 4)} _ ⟨w4,rfl,rfl,fun z o e n=>⟨kp4 _ _ (s3 _ _ (s2 _ _ e)) (fun y=>n (by simp at y;simp[y])),fun y=> ?_⟩⟩
   simp only[La.cells,List.mem_cons,List.not_mem_nil,or_false,not_or]at n y
   rcases y with y | y | y | y | y | y | y
   ·exact n.1 y
   ·exact n.2.1 y
   ·exact n.2.2.1 y
   ·exact n.2.2.2.1 y
   ·exact n.2.2.2.2.1 y
   ·exact n.2.2.2.2.2.1 y
   ·exact ao e hk0 y
theorem Tc{s:Sw32.St}{b:List Nat}(h:s.state=3)(hb:b.getD 0 0=2):Sw32.whole s b= {s with way:=Sw32.wayOf b}:=by
 unfold Sw32.whole
 rw[if_neg (by omega),if_neg (by omega),if_neg (by omega),hb]
 rfl
theorem xH(f:Nat→Nat)(p:Nat→Bool):∀n,((∀i,i<n→p (f i)=false)→(((List.range n).map f).find? p)=none)∧∀i,i<n→(∀j,j<i→p (f j)=false)→p (f i)=true→(((List.range n).map f).find? p)=some (f i)
 | 0=>⟨fun _=>rfl,fun i h=>absurd h (by omega)⟩
 | n+1=>by
  obtain⟨h1,h2⟩:=xH f p n
  rw[j5,List.find?_append]
  refine⟨fun h=> ?_,fun i hi hj hp=> ?_⟩
  ·rw[h1 (fun i hi=>h i (by omega))]
   simp[h n (by omega)]
  ·by_cases e:i<n
   ·rw[h2 i e hj hp];rfl
   ·have:i=n:=by omega
    subst this
    rw[h1 hj]
    simp[hp]
theorem aeU(n:Nat):inV (.int (n:Int)) [.int 0,.int 2,.int 5]=(n==0||(n==2||n==5)):=by
 rw[in3,Bool.eq_iff_iff,decide_eq_true_iff,Bool.or_eq_true,Bool.or_eq_true,beq_iff_eq,beq_iff_eq,beq_iff_eq]
 omega
noncomputable def Qa(A:bB):Sp:=fun vs H Q _=>∃(x:La)(s0:Sw32.St)(q b:List Nat)(m:Addr),vs= [.ref x.li,.ref m]∧Y5 A H x s0 q m b∧b.getD 0 0=2∧b.length=4+4*Sw32.field b 2 2∧((Sw32.whole s0 b).state=3→∀x' H',fH A H x H' x' (Sw32.whole s0 b) q→Q (.bl true) H')
theorem Bv:aF ["line","message","place","way"] ["line","message"] (aB zT):=⟨rfl,rfl,rfl,by decide +kernel,rfl,by decide +kernel,by decide +kernel⟩
theorem M5{A:bB}(T:Txt K mg A):dZ P w K mg base 2 A.mL ["line","message"] (Qa A):=by
 refine T.mL.ok Bv (fun vs H Q E h=> ?_) (fun cdv Ar outer s H vs Q E hr h=> ?_)
 ·obtain⟨x,s0,q,b,m,rfl,_⟩:=h
  rfl
 ·obtain⟨x,s0,q,b,m,rfl,M,hb0,Gn,kt⟩:=h
  have nd:=Bv.nd
  have w:=M.w
  have aeV:m≠x.li:=aN M.hm w.lo (fun e=>nomatch e)
  have hwy:Sw32.field b 2 2<65536:=oh M.lt 2
  rw[Tc M.st hb0]at kt
  have aeW:∀(H2:Hp)(way:Nat),LW A H2 x s0 q→LW A (upd H2 x.li (gn A x s0.state way)) x {s0 with way:=way} q:=fun H2 way w2=>
   w2.MN (gK:=x.gK) (oc:=x.oc) (av:=x.av) (st:=s0.state) (way:=way) (version:=s0.version) (asked:=s0.asked) cH aj (fun h=>(w2.ask h).kp (w2.Ft (cH.one (by simp))) fun e=>aN e w2.ev (fun e=>nomatch e)) w.gK
  refine⟨_,(ak (oH T.aY 8 (pv 0) (bD T.tW))
   (ak (dC PassesOwn.never rfl (uR rfl T.jb (aa aA (aa (bO bA rfl T.gM PySem.boot_len (aa (pv 1) aq)) (aa aA aq)))) (aX (i:=2) nd rfl (Or.inl rfl) (Or.inl rfl))
    (ak (aQ (i:=3) nd rfl (Or.inl rfl) (cC (cX T) (hr.mono (by decide)) T.bY rfl (aa (bQ (cA K) (pv 1) (bz (pv 2)) (bz (bf eY (pv 2) aA))) aq)))
   (au (bC (aJ RK (pv 3) (QW T.U6) (by with_unfolding_all rfl))
    (ak (oH T.aY 8 (pv 0) (pv 3))
   (au T4)) aM))))
   (au (aG lR)))),?_⟩
  refine aC rfl (lJ rfl w.lo (by simp) ?_)
  have w1:=aeW H 0 w
  have kp1:Kp [x.li] H (upd H x.li (gn A x s0.state 0)):=cH
  dsimp only
  have m1:upd H x.li (gn A x s0.state 0) m=some (.lst (nv b)):=oth aeV M.hm
  refine ux (H:=upd H x.li (gn A x s0.state 0)) (fun σ H2=>fH A H x H2 x {s0 with way:=Sw32.wayOf b} q) (fun N hN=> ?_) ?_
  ·generalize upd H x.li (gn A x s0.state 0)=H1 at *
   refine aC rfl (cP (a:=m) rfl (.inl (bj.of m1)) (e42 (a:=((4 :Nat):Int)) (c:=4) (d:=Sw32.field b 2 2) rfl ?_ ?_))
   ·rw[aD]
    exact aeu (by omega) (by omega) (by omega)
   refine ou (Sw32.field b 2 2) (fun i σ H2=>∃v2 v3,σ= [some (.ref x.li),some (.ref m),v2,v3]∧bu H1 H2∧∀j,j<i→(Sw32.field b (4+4*j) 4==0||(Sw32.field b (4+4*j) 4==2||Sw32.field b (4+4*j) 4==5))=false) ⟨_,_,rfl,bu.refl _,fun j hj=>absurd hj (by omega)⟩ (fun i σ H2 hi _=>hi) (fun σ H2 _=>Nat.le_refl _) ?_ ?_
   ·rintro i σ H2' v H2 hi ⟨v2,v3,rfl,s2,hno⟩ ⟨rfl,rfl⟩
    have ei:((4 :Nat):Int)+(i:Nat)*4=((4+4*i:Nat):Int):=by omega
    rw[ei]
    refine aC rfl (aC rfl (aC rfl (aC rfl (cP rfl rfl (aC rfl (cP (a:=m) rfl (bj.of (s2 _ _ m1)) (fun t ht=> ?_)))))))
    dsimp only
    rw[show ((4+4*i:Nat):Int)+4=((4+4*i+4 :Nat):Int) by omega,dg,dY,fG,Nat.add_sub_cancel_left]
    refine cP (a:=t) rfl (.inl aj) ?_
    refine aC rfl (YJ (a:=A.UW) rfl (.inr (T.U5 _)) rfl rfl (aC rfl ?_))
    have w2:LW A (upd H2 t (.lst (nv ((b.drop (4+4*i)).take 4)))) x {s0 with way:=0} q:=(w1.same s2).same (az ht)
    have lN:Kp [x.li] H (upd H2 t (.lst (nv ((b.drop (4+4*i)).take 4)))):=(kp1.trans (s2.kp _)).trans ((az ht).kp _)
    have ein:inV (.int ((Sw32.num ((b.drop (4+4*i)).take 4):Nat):Int)) [.int 0,.int 2,.int 5]=(Sw32.field b (4+4*i) 4==0||(Sw32.field b (4+4*i) 4==2||Sw32.field b (4+4*i) 4==5)):=by
     exact aeU _
    show (if (inV (.int ((Sw32.num ((b.drop (4+4*i)).take 4):Nat):Int)) [.int 0,.int 2,.int 5])=true then _ else _)
    rw[ein]
    refine Vn (fun c=> ?_) fun c=> ?_
    ·refine aC rfl (aC rfl (lJ rfl w2.lo (by simp) ?_))
     have ewy:Sw32.wayOf b=Sw32.field b (4+4*i) 4:=by
      unfold Sw32.wayOf
      rw[(xH (fun i=>Sw32.field b (4+4*i) 4) (fun x=>x==0||(x==2||x==5)) (Sw32.field b 2 2)).2 i hi hno c]
      rfl
     rw[ewy]at hN
     refine hN _ _ ⟨w2.MN (gK:=x.gK) (oc:=x.oc) (av:=x.av) (st:=s0.state) (way:=Sw32.field b (4+4*i) 4) (version:=s0.version) (asked:=s0.asked) cH aj (fun h=>(w2.ask h).kp (w2.Ft (cH.one (by simp))) fun e=>aN e w2.ev (fun e=>nomatch e)) w.gK,rfl,rfl,Cz.kp (fun z o e n=> ?_)⟩
     have nz:z≠x.li:=fun y=>n (by simp[y])
     exact oth nz (lN _ _ e (by simpa using nz))
    ·refine vq rfl ⟨s2.trans (az ht),fun j hj=> ?_⟩
     by_cases e:j=i
     ·rw[e];exact c
     ·exact hno j (by omega)
   ·rintro σ H2 ⟨v2,v3,rfl,s2,hno⟩
    have ewy:Sw32.wayOf b=0:=by
     unfold Sw32.wayOf
     rw[(xH (fun i=>Sw32.field b (4+4*i) 4) (fun x=>x==0||(x==2||x==5)) (Sw32.field b 2 2)).1 hno]
     rfl
    rw[ewy]at hN
    refine hN _ _ ⟨w1.same s2,rfl,rfl,Cz.kp (fun z o e n=> ?_)⟩
    exact s2 _ _ (kp1 _ _ e (fun y=>n (by simp at y;simp[y])))
  ·intro σ H2 go
   exact kt M.st x H2 go
noncomputable abbrev fU(b:List Nat):Sw32.Rect:=⟨Sw32.field b 2 2,Sw32.field b 4 2,Sw32.field b 6 2,Sw32.field b 8 2⟩
theorem Td{s:Sw32.St}{b:List Nat}(h:s.state=3)(hb:b.getD 0 0=3):Sw32.whole s b=if (fU b).w=0∨(fU b).h=0∨s.screen.w<(fU b).x+(fU b).w∨s.screen.h<(fU b).y+(fU b).h∨1<b.getD 1 0 then Sw32.close s else {s with asked:=some (b.getD 1 0==1,fU b)}:=by
 unfold Sw32.whole
 rw[if_neg (by omega),if_neg (by omega),if_neg (by omega),hb]
 rfl
theorem Te{s:Sw32.St}{b:List Nat}(h:s.state=3)(hb:b.getD 0 0=4):Sw32.whole s b=if 1<b.getD 1 0 then Sw32.close s else Sw32.event s (.key (b.getD 1 0) (Sw32.field b 4 4)):=by
 unfold Sw32.whole
 rw[if_neg (by omega),if_neg (by omega),if_neg (by omega),hb]
 rfl
theorem G9{s:Sw32.St}{b:List Nat}(h:s.state=3)(hb:b.getD 0 0=5):Sw32.whole s b=Sw32.event s (.pointer (b.getD 1 0) (Sw32.field b 2 2) (Sw32.field b 4 2)):=by
 unfold Sw32.whole
 rw[if_neg (by omega),if_neg (by omega),if_neg (by omega),hb]
 rfl
theorem Qc{s:Sw32.St}{b:List Nat}(h:s.state=3)(hb:b.getD 0 0=6):Sw32.whole s b=Sw32.event s (.text (b.drop 8)):=by
 unfold Sw32.whole
 rw[if_neg (by omega),if_neg (by omega),if_neg (by omega),hb]
 rfl
theorem VG{s:Sw32.St}(h:s.state=3)(e:Sw32.Event):(Sw32.event s e).state=3:=by
 unfold Sw32.event
 split<;>exact h
noncomputable def Tf(A:bB):Sp:=fun vs H Q _=>∃(x:La)(s0:Sw32.St)(q b:List Nat)(m:Addr),vs= [.ref x.li,.ref m]∧Y5 A H x s0 q m b∧b.getD 0 0=3∧b.length=10∧((Sw32.whole s0 b).state=3→∀x' H',fH A H x H' x' (Sw32.whole s0 b) q→Q (.bl true) H')∧(Sw32.whole s0 b=Sw32.close s0→∀x' H',fH A H x H' x' s0 q→Q (.bl false) H')
theorem Fz:aF ["line","message","numbers","box","place"] ["line","message"] (aB ye):=⟨rfl,rfl,rfl,by decide +kernel,rfl,by decide +kernel,by decide +kernel⟩
theorem Qe{A:bB}(T:Txt K mg A):dZ P w K mg base 4 A.pN ["line","message"] (Tf A):=by
 refine T.pN.ok Fz (fun vs H Q E h=> ?_) (fun cdv Ar outer s H vs Q E hr h=> ?_)
 ·obtain⟨x,s0,q,b,m,rfl,_⟩:=h
  rfl
 ·obtain⟨x,s0,q,b,m,rfl,M,hb0,Gn,kt,kf⟩:=h
  have nd:=Fz.nd
  have w:=M.w
  rw[Td M.st hb0]at kt kf
  refine⟨_,(ak (Df (i:=2) rfl nd rfl rfl (Jk rfl rfl rfl rfl) (zg (gQ (aa aA (aa aA (aa aA (aa aA aq)))))) (gj (own:= [("place",4)]) (show xY ["line","message","numbers","box","place"] (aB ye) _ _=true by decide +kernel)) (fun _ _ _ _ _=>(aX (i:=4) nd rfl (Or.inl rfl) (Or.inr rfl))) (fun _ _ _ _ _=>jz) (fun _ _ _ _ _=>(cC (cX T) (hr.mono (by decide)) T.bY rfl (aa (bQ (cA K) (pv 1) (bz (pv 4)) (bz (bf eY (pv 4) aA))) aq))))
   (ak (aQ (i:=3) nd rfl (Or.inl rfl) (vI T.dD T.Hy (nH T) (hr.mono (by decide)) rfl (aa (bL (aO K) (pv 2) aA (fun _ _=>rfl)) (aa (bL (aO K) (pv 2) aA (fun _ _=>rfl)) (aa (bL (aO K) (pv 2) aA (fun _ _=>rfl)) (aa (bL (aO K) (pv 2) aA (fun _ _=>rfl)) aq))))))
   (ak (bC (PW.pt (vD (aJ lX (bL (aO K) (pv 1) aA (fun _ _=>rfl)) (gQ (aa aA (aa aA aq))) (by with_unfolding_all rfl)) (wD (mV (oF (dJ T.bV T.eQ (nJ T) (hr.mono (by decide)) (bc T.aY 0 (pv 0)) (aa (pv 3) aq)))))))
    (au (aG lR)) aM)
   (ak (aR (dJ T.aY T.pM (PL T) (hr.mono (by decide)) (pv 0) (aa (bL (aO K) (pv 1) aA (fun _ _=>rfl)) (aa (pv 3) aq))))
   (au (aG lR)))))),?_⟩
  refine⟨by rw[dO];simp,fun t ht=>⟨t,rfl,⟨_,iT.of aj⟩,fun D hD=> ?_⟩⟩
  obtain⟨hD1,hDt⟩:=aU hD
  have quad:∀i:Nat,i<4→ [V.int 2,V.int 4,V.int 6,V.int 8][i]? =some (.int ((2+2*i:Nat):Int)):=fun i hi=>by
   rcases i with _ | _ | _ | _ | i
   ·rfl
   ·rfl
   ·rfl
   ·rfl
   ·omega
  refine xr 4 (fun i H5=>bu H H5∧H5 t=some (.tup [.int 2,.int 4,.int 6,.int 8])∧H5 D=some (.lst (nv ((List.range i).map fun j=>Sw32.field b (2+2*j) 2)))) ⟨(az ht).trans (az hD),old hD aj,aj⟩ (fun i H5 hi ⟨_,h2,_⟩=>⟨_,_,iT.of h2,quad i hi⟩) (fun H5 ⟨_,h2,_⟩=>⟨_,iT.of h2,Nat.le_refl _⟩) ?_ ?_
  ·rintro i H6 v H5 hi ⟨s5,h2,hd⟩ ⟨rfl,hv⟩
   have hv:=hv _ (iT.of h2)
   rw[quad i hi]at hv
   cases hv
   refine⟨rfl,aC rfl (aC rfl (aC rfl (aC rfl (cP rfl rfl (aC rfl (cP (a:=m) rfl (bj.of (s5 _ _ M.hm)) (fun t2 ht2=> ?_)))))))⟩
   dsimp only
   rw[show ((2+2*i:Nat):Int)+2=((2+2*i+2 :Nat):Int) by omega,dg,dY,fG,Nat.add_sub_cancel_left]
   refine cP (a:=t2) rfl (.inl aj) ?_
   refine⟨_,old ht2 hd,by rw[aD,List.length_map,List.length_range,dO];omega,fun b o e=>oth (ao e hD1) (old ht2 (s5 _ _ e)),oth hDt.symm (old ht2 h2),?_⟩
   rw[aj,j5,bG]
   rfl
  ·rintro H5 ⟨s5,h2,hd⟩
   have hd:H5 D=some (.lst (nv [Sw32.field b 2 2,Sw32.field b 4 2,Sw32.field b 6 2,Sw32.field b 8 2])):=hd
   refine aC rfl (jN (a:=D) rfl rfl (bj.of hd) (aV (j:=0) rfl) (aC rfl (jN (a:=D) rfl rfl (bj.of hd) (aV (j:=1) rfl) (aC rfl (jN (a:=D) rfl rfl (bj.of hd) (aV (j:=2) rfl) (aC rfl (jN (a:=D) rfl rfl (bj.of hd) (aV (j:=3) rfl) (fun p dx hp hdx hne=>⟨p,dx,_,_,_,_,rfl,aj,rfl,?_⟩))))))))
   rw[bM]
   have s6:bu H (upd (upd H5 dx (.own p)) p (gh A dx (Sw32.field b 2 2) (Sw32.field b 4 2) (Sw32.field b 6 2) (Sw32.field b 8 2))):=fun z o e=>oth (ao (s5 _ _ e) hp) (old hdx (s5 _ _ e))
   have b6:upd (upd H5 dx (.own p)) p (gh A dx (Sw32.field b 2 2) (Sw32.field b 4 2) (Sw32.field b 6 2) (Sw32.field b 8 2)) p=some (gh A dx (fU b).x (fU b).y (fU b).w (fU b).h):=aj
   dsimp only[kZ]
   generalize upd (upd H5 dx (.own p)) p (gh A dx (Sw32.field b 2 2) (Sw32.field b 4 2) (Sw32.field b 6 2) (Sw32.field b 8 2))=H6 at *
   have at1:Oe (nv b) 1=some (.int ((b.getD 1 0 :Nat):Int)):=aV (j:=1) (vh (by omega))
   refine⟨_,rfl,m,_,_,_,rfl,rfl,bj.of (s6 _ _ M.hm),at1,by rw[dO];simp,fun t7 ht7=>⟨t7,_,rfl,.inr (iT.of aj),rfl,rfl,_,rfl,?_⟩⟩
   have s7:bu H (upd H6 t7 (.tup [.int 0,.int 1])):=s6.trans (az ht7)
   have b7:=old (q:=HO.tup [.int 0,.int 1]) ht7 b6
   generalize upd H6 t7 (.tup [.int 0,.int 1])=H7 at *
   have w7:=w.same s7
   rw[in2]
   refine qQ (fun c=>Dl ?_) fun c1=> ?_
   ·rw[if_pos (by omega)]at kf
    exact kf rfl x H7 (fH.same w s7)
   apply cz w7.lo;rfl;rfl
   refine⟨_,_,_,rfl,w7.can.ob,_,rfl,x.ev,x.ca,x.dc,x.ra,x.ma,p,dx,s0.screen.w,s0.screen.h,_,_,_,_,x.cs,x.ms,rfl,w7.can,b7,_,rfl,qQ (fun c=> ?_) fun c2=> ?_⟩
   ·rw[if_pos (by simp only[fU]at c ⊢;omega)]at kf
    exact kf rfl x H7 (fH.same w s7)
   have c2':¬((fU b).w=0∨(fU b).h=0∨s0.screen.w<(fU b).x+(fU b).w∨s0.screen.h<(fU b).y+(fU b).h∨1<b.getD 1 0):=by simp only[fU]at c2 ⊢;omega
   rw[if_neg c2']at kt
   refine⟨_,rfl,_,_,_,rfl,w7.lo,_,rfl,m,_,_,_,rfl,rfl,bj.of (s7 _ _ M.hm),at1,_,rfl,x,s0,q,p,dx,b.getD 1 0==1,fU b,?_,w7,b7,fun x' H' go=> ?_⟩
   ·have:(b.getD 1 0 :Nat)=if (b.getD 1 0==1)=true then 1 else 0:=by
     by_cases e:b.getD 1 0=1
     ·simp only[e];rfl
     ·have:b.getD 1 0=0:=by omega
      simp only[this];rfl
    rw[←this]
   ·exact kt M.st x' H' ((fH.same w s7).trans go)
noncomputable def Tg(A:bB):Sp:=fun vs H Q _=>∃(x:La)(s0:Sw32.St)(q b:List Nat)(m:Addr),vs= [.ref x.li,.ref m]∧Y5 A H x s0 q m b∧b.getD 0 0=4∧b.length=8∧((Sw32.whole s0 b).state=3→∀x' H',fH A H x H' x' (Sw32.whole s0 b) q→Q (.bl true) H')∧(Sw32.whole s0 b=Sw32.close s0→∀x' H',fH A H x H' x' s0 q→Q (.bl false) H')
theorem FJ:aF ["line","message"] ["line","message"] (aB Dv):=⟨rfl,rfl,rfl,by decide +kernel,rfl,by decide +kernel,by decide +kernel⟩
theorem Qg{A:bB}(T:Txt K mg A):dZ P w K mg base 2 A.pO ["line","message"] (Tg A):=by
 refine T.pO.ok FJ (fun vs H Q E h=> ?_) (fun cdv Ar outer s H vs Q E hr h=> ?_)
 ·obtain⟨x,s0,q,b,m,rfl,_⟩:=h
  rfl
 ·obtain⟨x,s0,q,b,m,rfl,M,hb0,Gn,kt,kf⟩:=h
  have nd:=FJ.nd
  have w:=M.w
  rw[Te M.st hb0]at kt kf
  have at1:Oe (nv b) 1=some (.int ((b.getD 1 0 :Nat):Int)):=aV (j:=1) (vh (by omega))
  refine⟨_,(ak (bC (aJ lX (bL (aO K) (pv 1) aA (fun _ _=>rfl)) (gQ (aa aA (aa aA aq))) (by with_unfolding_all rfl))
    (au (aG lR)) aM)
   (ak (aR (dJ T.aY T.fX (pD T) (hr.mono (by decide)) (pv 0) (aa (gQ (aa (bD T.Ax) (aa (bL (aO K) (pv 1) aA (fun _ _=>rfl)) (aa (cC (cX T) (hr.mono (by decide)) T.bY rfl (aa (bQ (cA K) (pv 1) (bz aA) (bz aA)) aq)) (aa aA aq))))) (aa (cG aq) aq))))
   (au (aG lR)))),?_⟩
  refine⟨_,rfl,m,_,_,_,rfl,rfl,bj.of M.hm,at1,by rw[dO];simp,fun t7 ht7=>⟨t7,_,rfl,.inr (iT.of aj),rfl,rfl,_,rfl,?_⟩⟩
  have s7:bu H (upd H t7 (.tup [.int 0,.int 1])):=az ht7
  generalize upd H t7 (.tup [.int 0,.int 1])=H7 at *
  have w7:=w.same s7
  rw[in2]
  refine qQ (fun c=> ?_) fun c1=> ?_
  ·rw[if_pos (by omega)]at kf
   exact kf rfl x H7 (fH.same w s7)
  rw[if_neg (by omega)]at kt
  refine aC rfl (jM rfl w7.lo (aC rfl ⟨m,lJ rfl rfl (bj.of (s7 _ _ M.hm)) ⟨at1,aC rfl (aC rfl (aC rfl ⟨m,cW rfl (bj.of (s7 _ _ M.hm)) (fun t ht=> ?_)⟩))⟩⟩))
  rw[show (some (4 :Int))=some ((4 :Nat):Int) from rfl,show (some (8 :Int))=some ((8 :Nat):Int) from rfl,dg,dY,fG]
  refine nR (a:=t) rfl (.inl aj) (by rw[dO];simp) (fun nu hnu=>⟨by decide,fun tx htx=> ?_⟩)
  have s8:bu H (upd (upd (upd H7 t (.lst (nv ((b.drop 4).take (8-4))))) nu (.tup [.int 1,.int ((b.getD 1 0 :Nat):Int),.int ((Sw32.num ((b.drop 4).take (8-4)):Nat):Int),.int 0])) tx (.lst [])):=((s7.trans (az ht)).trans (az hnu)).trans (az htx)
  have w8:=w.same s8
  have hev:x.ev≠tx:=ao ((w7.same ((az ht).trans (az hnu))).ev) htx
  exact⟨x,s0,q,nu,tx,.key (b.getD 1 0) (Sw32.field b 4 4),rfl,w8,old htx aj,aj,hev.symm,fun x' H' go=>kt (VG M.st _) x' H' ((fH.same w s8).trans go)⟩
noncomputable def Ha(A:bB):Sp:=fun vs H Q _=>∃(x:La)(s0:Sw32.St)(q b:List Nat)(m:Addr),vs= [.ref x.li,.ref m]∧Y5 A H x s0 q m b∧b.getD 0 0=5∧b.length=6∧((Sw32.whole s0 b).state=3→∀x' H',fH A H x H' x' (Sw32.whole s0 b) q→Q (.bl true) H')
theorem uD:aF ["line","message","x","y"] ["line","message"] (aB qz):=⟨rfl,rfl,rfl,by decide +kernel,rfl,by decide +kernel,by decide +kernel⟩
theorem FN{A:bB}(T:Txt K mg A):dZ P w K mg base 2 A.iC ["line","message"] (Ha A):=by
 refine T.iC.ok uD (fun vs H Q E h=> ?_) (fun cdv Ar outer s H vs Q E hr h=> ?_)
 ·obtain⟨x,s0,q,b,m,rfl,_⟩:=h
  rfl
 ·obtain⟨x,s0,q,b,m,rfl,M,hb0,Gn,kt⟩:=h
  have nd:=uD.nd
  have w:=M.w
  rw[G9 M.st hb0]at kt
  have at1:Oe (nv b) 1=some (.int ((b.getD 1 0 :Nat):Int)):=aV (j:=1) (vh (by omega))
  refine⟨_,(ak (aQ (i:=2) nd rfl (Or.inl rfl) (cC (cX T) (hr.mono (by decide)) T.bY rfl (aa (bQ (cA K) (pv 1) (bz aA) (bz aA)) aq)))
   (ak (aQ (i:=3) nd rfl (Or.inl rfl) (cC (cX T) (hr.mono (by decide)) T.bY rfl (aa (bQ (cA K) (pv 1) (bz aA) (bz aA)) aq)))
   (ak (aR (dJ T.aY T.fX (pD T) (hr.mono (by decide)) (pv 0) (aa (gQ (aa (bD T.rC) (aa (bL (aO K) (pv 1) aA (fun _ _=>rfl)) (aa (pv 2) (aa (pv 3) aq))))) (aa (cG aq) aq))))
   (au (aG lR))))),?_⟩
  refine aC rfl (aC rfl (aC rfl (cP (a:=m) rfl (bj.of M.hm) (fun t ht=> ?_))))
  rw[show (some (2 :Int))=some ((2 :Nat):Int) from rfl,show (some (4 :Int))=some ((4 :Nat):Int) from rfl,dg,dY,fG]
  refine cP (a:=t) rfl (.inl aj) ?_
  have s1:bu H (upd H t (.lst (nv ((b.drop 2).take (4-2))))):=az ht
  generalize upd H t (.lst (nv ((b.drop 2).take (4-2))))=H1 at *
  refine aC rfl (aC rfl (aC rfl (cP (a:=m) rfl (bj.of (s1 _ _ M.hm)) (fun t2 ht2=> ?_))))
  rw[show (some (4 :Int))=some ((4 :Nat):Int) from rfl,show (some (6 :Int))=some ((6 :Nat):Int) from rfl,dg,dY,fG]
  refine cP (a:=t2) rfl (.inl aj) ?_
  have s2:bu H (upd H1 t2 (.lst (nv ((b.drop 4).take (6-4))))):=s1.trans (az ht2)
  generalize upd H1 t2 (.lst (nv ((b.drop 4).take (6-4))))=H2 at *
  have w2:=w.same s2
  refine⟨_,rfl,_,_,_,rfl,w2.lo,_,rfl,m,_,_,_,rfl,rfl,bj.of (s2 _ _ M.hm),at1,_,rfl,_,rfl,by rw[dO];simp,fun nu hnu=>⟨by decide,fun tx htx=> ?_⟩⟩
  have s8:=(s2.trans (az (q:= .tup [.int 2,.int ((b.getD 1 0 :Nat):Int),.int ((Sw32.num ((b.drop 2).take (4-2)):Nat):Int),.int ((Sw32.num ((b.drop 4).take (6-4)):Nat):Int)]) hnu)).trans (az (q:= .lst []) htx)
  have w8:=w.same s8
  have hev:x.ev≠tx:=ao ((w2.same (az hnu)).ev) htx
  exact⟨x,s0,q,nu,tx,.pointer (b.getD 1 0) (Sw32.field b 2 2) (Sw32.field b 4 2),rfl,w8,old htx aj,aj,hev.symm,fun x' H' go=>kt (VG M.st _) x' H' ((fH.same w s8).trans go)⟩
noncomputable def Qh(A:bB):Sp:=fun vs H Q _=>∃(x:La)(s0:Sw32.St)(q b:List Nat)(m:Addr),vs= [.ref x.li,.ref m]∧Y5 A H x s0 q m b∧b.getD 0 0=6∧8≤b.length∧(¬4096<Sw32.field b 4 4→b.length=8+Sw32.field b 4 4)∧(¬4096<Sw32.field b 4 4→(Sw32.whole s0 b).state=3→∀x' H',fH A H x H' x' (Sw32.whole s0 b) q→Q (.bl true) H')∧(4096<Sw32.field b 4 4→∀x' H',fH A H x H' x' s0 q→Q (.bl false) H')
theorem Bw:aF ["line","message"] ["line","message"] (aB zU):=⟨rfl,rfl,rfl,by decide +kernel,rfl,by decide +kernel,by decide +kernel⟩
theorem M6{A:bB}(T:Txt K mg A):dZ P w K mg base 4 A.mO ["line","message"] (Qh A):=by
 refine T.mO.ok Bw (fun vs H Q E h=> ?_) (fun cdv Ar outer s H vs Q E hr h=> ?_)
 ·obtain⟨x,s0,q,b,m,rfl,_⟩:=h
  rfl
 ·obtain⟨x,s0,q,b,m,rfl,M,hb0,hb8,Gn,kt,kf⟩:=h
  have nd:=Bw.nd
  have w:=M.w
  rw[Qc M.st hb0]at kt
  refine⟨_,(ak (bC (oF (cC (yV T) (hr.mono (by decide)) T.jf rfl (aa (pv 1) aq)))
    (au (aG lR)) aM)
   (ak (aR (dJ T.aY T.fX (pD T) (hr.mono (by decide)) (pv 0) (aa (gQ (aa (bD T.yg) (aa (cC (pF T) (hr.mono (by decide)) T.fY rfl (aa (pv 1) aq)) (aa aA (aa aA aq))))) (aa (bQ (cA K) (pv 1) (bz (bD T.Ou)) nT) aq))))
   (au (aG lR)))),?_⟩
  refine aC rfl (cP (a:=m) (b:=b) rfl M.hm (fun H1 s1=>⟨_,rfl,bJ (fun c=> ?_) fun c=> ?_⟩))
  ·exact kf c x H1 (fH.same w s1)
  ·have w1:=w.same s1
   refine aC rfl (jM rfl w1.lo (aC rfl (vq (a:=m) (b:=b) rfl ⟨s1 _ _ M.hm,fun H2 s2=> ?_⟩)))
   have YS:=s1.trans s2
   refine⟨by rw[dO];simp,fun nu hnu=> ?_⟩
   refine aC rfl (aC rfl (cP (a:=m) rfl (bj.of (old hnu (YS _ _ M.hm))) (fun tx htx=> ?_)))
   rw[show (some (8 :Int))=some ((8 :Nat):Int) from rfl,Aa,dY]
   have s8:=(YS.trans (az (q:= .tup [.int 3,.int ((Sw32.field b 4 4 :Nat):Int),.int 0,.int 0]) hnu)).trans (az (q:= .lst (nv (b.drop 8))) htx)
   have w8:=w.same s8
   have hev:x.ev≠tx:=ao ((w.same (YS.trans (az hnu))).ev) htx
   have hl:(b.drop 8).length=Sw32.field b 4 4:=by rw[List.length_drop];have:=Gn c;omega
   refine⟨x,s0,q,nu,tx,.text (b.drop 8),rfl,w8,?_,aj,hev.symm,fun x' H' go=>kt c (VG M.st _) x' H' ((fH.same w s8).trans go)⟩
   show _=some (HO.tup (nv [3,(b.drop 8).length,0,0]))
   rw[hl]
   exact old htx aj
structure XQ(b:List Nat):Prop where
 ne:b≠ []
 l0:b.getD 0 0=0→b.length=20
 l2:b.getD 0 0=2→b.length=4+4*Sw32.field b 2 2
 l3:b.getD 0 0=3→b.length=10
 l4:b.getD 0 0=4→b.length=8
 l5:b.getD 0 0=5→b.length=6
 l6:b.getD 0 0=6→8≤b.length∧(¬4096<Sw32.field b 4 4→b.length=8+Sw32.field b 4 4)
theorem M7(s:Sw32.St):Sw32.tells (Sw32.close s)=Sw32.close s:=vo (.inl (by show (4 :Nat)≠3;decide))
theorem qZ{s:Sw32.St}{b:List Nat}(h:Sw32.whole s b=Sw32.close s):dG s b=Sw32.close s:=by
 unfold dG
 split
 ·rfl
 ·rw[h,M7]
theorem uE{s:Sw32.St}{b:List Nat}(h:b.getD 0 0≠6):Sw32.tooLong s b=false:=by
 unfold Sw32.tooLong
 rw[show (b.getD 0 0==6)=false from beq_false_of_ne h]
 simp
theorem M8{s:Sw32.St}{b:List Nat}(h:s.state=3)(h0:b.getD 0 0≠0)(h2:b.getD 0 0≠2)(h3:b.getD 0 0≠3)(h4:b.getD 0 0≠4)(h5:b.getD 0 0≠5)(h6:b.getD 0 0≠6):Sw32.whole s b=Sw32.close s:=by
 unfold Sw32.whole
 rw[if_neg (by omega),if_neg (by omega),if_neg (by omega)]
 split
 ·contradiction
 ·contradiction
 ·contradiction
 ·contradiction
 ·contradiction
 ·contradiction
 ·rfl
noncomputable def VH(A:bB):Sp:=fun vs H Q _=>∃(x:La)(s0:Sw32.St)(q b:List Nat)(m:Addr),vs= [.ref x.li,.ref m]∧Y5 A H x s0 q m b∧XQ b∧(Sw32.tooLong s0 b=false→(Sw32.whole s0 b).state=3→∀x' H',fH A H x H' x' (Sw32.whole s0 b) q→Q (.bl true) H')∧(dG s0 b=Sw32.close s0→∀x' H',fH A H x H' x' s0 q→Q (.bl false) H')
theorem Il:aF ["line","message"] ["line","message"] (aB Jw):=⟨rfl,rfl,rfl,by decide +kernel,rfl,by decide +kernel,by decide +kernel⟩
theorem Th{A:bB}(T:Txt K mg A):dZ P w K mg base 5 A.uX ["line","message"] (VH A):=by
 refine T.uX.ok Il (fun vs H Q E h=> ?_) (fun cdv Ar outer s H vs Q E hr h=> ?_)
 ·obtain⟨x,s0,q,b,m,rfl,_⟩:=h
  rfl
 ·obtain⟨x,s0,q,b,m,rfl,M,L,kt,kf⟩:=h
  have nd:=Il.nd
  have at0:Oe (nv b) 0=some (.int ((b.getD 0 0 :Nat):Int)):=aV (j:=0) (vh (by have:=L.ne;cases b with | nil=>exact absurd rfl this | cons a r=>simp))
  refine⟨_,(ak (bC (aJ dF (bL (aO K) (pv 1) aA (fun _ _=>rfl)) (bD T.DG) (aP _))
    (au (aG (cC (M4 T) (hr.mono (by decide)) T.mK rfl (aa (pv 0) (aa (pv 1) aq))))) aM)
   (ak (bC (aJ dF (bL (aO K) (pv 1) aA (fun _ _=>rfl)) (bD T.w6) (aP _))
    (au (aG (cC (M5 T) (hr.mono (by decide)) T.mL rfl (aa (pv 0) (aa (pv 1) aq))))) aM)
   (ak (bC (aJ dF (bL (aO K) (pv 1) aA (fun _ _=>rfl)) (bD T.Yx) (aP _))
    (au (aG (cC (Qe T) (hr.mono (by decide)) T.pN rfl (aa (pv 0) (aa (pv 1) aq))))) aM)
   (ak (bC (aJ dF (bL (aO K) (pv 1) aA (fun _ _=>rfl)) (bD T.Yy) (aP _))
    (au (aG (cC (Qg T) (hr.mono (by decide)) T.pO rfl (aa (pv 0) (aa (pv 1) aq))))) aM)
   (ak (bC (aJ dF (bL (aO K) (pv 1) aA (fun _ _=>rfl)) (bD T.HD) (aP _))
    (au (aG (cC (FN T) (hr.mono (by decide)) T.iC rfl (aa (pv 0) (aa (pv 1) aq))))) aM)
   (ak (bC (aJ dF (bL (aO K) (pv 1) aA (fun _ _=>rfl)) (bD T.Ot) (aP _))
    (au (aG (cC (M6 T) (hr.mono (by decide)) T.mO rfl (aa (pv 0) (aa (pv 1) aq))))) aM)
   (au (aG lR)))))))),?_⟩
  refine aC rfl ⟨m,lJ rfl rfl (bj.of M.hm) ⟨at0,rfl,aC rfl (bJ (fun c=> ?_) fun c0=> ?_)⟩⟩
  ·rw[aH]at c
   have c:b.getD 0 0=0:=by omega
   exact aC rfl (aC rfl (e51 (a:=x) (b:=s0) (c:=q) (d:=b) (e:=m) rfl ⟨M,c,L.l0 c,kt (uE (by omega)),fun e=>kf (qZ e)⟩))
  rw[aH]at c0
  refine aC rfl ⟨m,lJ rfl rfl (bj.of M.hm) ⟨at0,rfl,aC rfl (bJ (fun c=> ?_) fun c2=> ?_)⟩⟩
  ·rw[aH]at c
   have c:b.getD 0 0=2:=by omega
   exact aC rfl (aC rfl (e51 (a:=x) (b:=s0) (c:=q) (d:=b) (e:=m) rfl ⟨M,c,L.l2 c,kt (uE (by omega))⟩))
  rw[aH]at c2
  refine aC rfl ⟨m,lJ rfl rfl (bj.of M.hm) ⟨at0,rfl,aC rfl (bJ (fun c=> ?_) fun c3=> ?_)⟩⟩
  ·rw[aH]at c
   have c:b.getD 0 0=3:=by omega
   exact aC rfl (aC rfl (e51 (a:=x) (b:=s0) (c:=q) (d:=b) (e:=m) rfl ⟨M,c,L.l3 c,kt (uE (by omega)),fun e=>kf (qZ e)⟩))
  rw[aH]at c3
  refine aC rfl ⟨m,lJ rfl rfl (bj.of M.hm) ⟨at0,rfl,aC rfl (bJ (fun c=> ?_) fun c4=> ?_)⟩⟩
  ·rw[aH]at c
   have c:b.getD 0 0=4:=by omega
   exact aC rfl (aC rfl (e51 (a:=x) (b:=s0) (c:=q) (d:=b) (e:=m) rfl ⟨M,c,L.l4 c,kt (uE (by omega)),fun e=>kf (qZ e)⟩))
  rw[aH]at c4
  refine aC rfl ⟨m,lJ rfl rfl (bj.of M.hm) ⟨at0,rfl,aC rfl (bJ (fun c=> ?_) fun c5=> ?_)⟩⟩
  ·rw[aH]at c
   have c:b.getD 0 0=5:=by omega
   exact aC rfl (aC rfl (e51 (a:=x) (b:=s0) (c:=q) (d:=b) (e:=m) rfl ⟨M,c,L.l5 c,kt (uE (by omega))⟩))
  rw[aH]at c5
  refine aC rfl ⟨m,lJ rfl rfl (bj.of M.hm) ⟨at0,rfl,aC rfl (bJ (fun c=> ?_) fun c6=> ?_)⟩⟩
  ·rw[aH]at c
   have c:b.getD 0 0=6:=by omega
   obtain⟨l1,l2⟩:=L.l6 c
   refine aC rfl (aC rfl ⟨x,s0,q,b,m,rfl,M,c,l1,l2,fun h=>kt ?_,fun h=>kf ?_⟩)
   ·unfold Sw32.tooLong Sw32.TEXT
    rw[decide_eq_false h]
    simp
   ·unfold dG
    rw[if_pos]
    unfold Sw32.tooLong Sw32.TEXT
    rw[decide_eq_true h,decide_eq_true l1,M.st,c]
    rfl
  ·rw[aH]at c6
   refine kf (qZ (M8 M.st ?_ ?_ ?_ ?_ ?_ ?_)) x H M.w.go<;>omega
noncomputable def Hb(A:bB):Sp:=fun vs H Q _=>∃(x:La)(s0:Sw32.St)(q b:List Nat)(m:Addr),vs= [.ref x.li,.ref m]∧Y5 A H x s0 q m b∧s0.pending= []∧XQ b∧(∀x' H',fH A H x H' x' (dG s0 b) (if (dG s0 b).state=4 then []else q)→Q .non H')
theorem uF:aF ["line","message"] ["line","message"] (aB qy):=⟨rfl,rfl,rfl,by decide +kernel,rfl,by decide +kernel,by decide +kernel⟩
theorem FP{A:bB}(T:Txt K mg A):dZ P w K mg base 9 A.iB ["line","message"] (Hb A):=by
 refine T.iB.ok uF (fun vs H Q E h=> ?_) (fun cdv Ar outer s H vs Q E hr h=> ?_)
 ·obtain⟨x,s0,q,b,m,rfl,_⟩:=h
  rfl
 ·obtain⟨x,s0,q,b,m,rfl,M,hp,L,k⟩:=h
  have nd:=uF.nd
  refine⟨_,(au (bC (oF (cC (Th T) (hr.mono (by decide)) T.uX rfl (aa (pv 0) (aa (pv 1) aq))))
    (au (aR (cY T.aY T.cJ (gO T) (hr.mono (by decide)) (pv 0)))) (au (aR (cY T.aY T.gZ (qY T) (hr.mono (by decide)) (pv 0)))))),?_⟩
  refine aC rfl (aC rfl ⟨x,s0,q,b,m,rfl,M,L,fun hl hst x' H' go=> ?_,fun hc x' H' go=> ?_⟩)
  ·refine aC rfl ?_
   have e:dG s0 b=Sw32.tells (Sw32.whole s0 b):=by unfold dG;rw[hl];rfl
   have est:(dG s0 b).state=3:=by
    rw[e]
    unfold Sw32.tells
    split
    ·exact hst
    ·split<;>exact hst
   rw[if_neg (by omega),e]at k
   refine⟨_,rfl,_,_,_,rfl,go.li▸go.w.lo,x',Sw32.whole s0 b,q,by rw[go.li],go.w,Mh M.ok (by have:=M.st;omega) hp b,fun x2 H2 go2=> ?_⟩
   exact k x2 H2 (go.trans go2)
  ·refine aC rfl ?_
   refine⟨_,rfl,_,_,_,rfl,go.li▸go.w.lo,x',s0,q,by rw[go.li],go.w,fun x2 H2 go2=> ?_⟩
   rw[hc,if_pos (show (Sw32.close s0).state=4 from rfl)]at k
   exact k x2 H2 (go.trans go2)
theorem VJ(n:Nat):tabAt [(0,20),(2,4),(3,10),(4,8),(5,6),(6,8)] (n:Int) 1=((cZ n:Nat):Int):=by
 unfold cZ
 simp only[tabAt]
 by_cases h0:n=0
 ·subst h0;rfl
 by_cases h2:n=2
 ·subst h2;rfl
 by_cases h3:n=3
 ·subst h3;rfl
 by_cases h4:n=4
 ·subst h4;rfl
 by_cases h5:n=5
 ·subst h5;rfl
 by_cases h6:n=6
 ·subst h6;rfl
 rw[if_neg h0,if_neg h2,if_neg h3,if_neg h4,if_neg h5,if_neg h6,if_neg (by omega),if_neg (by omega),if_neg (by omega),if_neg (by omega),if_neg (by omega),if_neg (by omega)]
 rfl
noncomputable def Hc(A:bB):Sp:=fun vs H Q _=>∃(a:Addr)(h:List Nat),vs= [.ref a]∧H a=some (.lst (nv h))∧∀H',bu H H'→Q (.int ((Mg h:Nat):Int)) H'
theorem uG:aF ["head","size"] ["head"] (aB qx):=⟨rfl,rfl,rfl,by decide +kernel,rfl,by decide +kernel,by decide +kernel⟩
theorem FQ{A:bB}(T:Txt K mg A):dZ P w K mg base 4 A.iz ["head"] (Hc A):=by
 refine T.iz.ok uG (fun vs H Q E h=> ?_) (fun cdv Ar outer s H vs Q E hr h=> ?_)
 ·obtain⟨a,h,rfl,_⟩:=h
  rfl
 ·obtain⟨a,h,rfl,ha,k⟩:=h
  have nd:=uG.nd
  refine⟨_,(ak (bC (mV (pI (pv 0) (fun _=>rfl)))
    (au (aG aA)) aM)
   (ak (aQ (i:=1) nd rfl (Or.inl rfl) (Xe T.Q3 (QW T.Q4) (bL (aO K) (pv 0) aA (fun _ _=>rfl)) aA ⟨rfl,rfl,rfl,rfl⟩))
   (ak (bC (aJ xR (bO bA rfl T.gM PySem.boot_len (aa (pv 0) aq)) (pv 1) (aP _))
    (au (aG (pv 1))) aM)
   (ak (bC (aJ dF (bL (aO K) (pv 0) aA (fun _ _=>rfl)) (bD T.w6) (aP _))
    (au (aG (bf eY (pv 1) (bf qe aA (cC (cX T) (hr.mono (by decide)) T.bY rfl (aa (bQ (cA K) (pv 0) (bz aA) (bz aA)) aq)))))) aM)
   (ak (bC (PW.pt (TX (aJ dF (bL (aO K) (pv 0) aA (fun _ _=>rfl)) (bD T.Ot) (aP _)) (Qs (mV (oF (cC (yV T) (hr.mono (by decide)) T.jf rfl (aa (pv 0) aq)))))))
    (au (aG (bf eY (pv 1) (cC (pF T) (hr.mono (by decide)) T.fY rfl (aa (pv 0) aq))))) aM)
   (au (aG (pv 1)))))))),?_⟩
  refine aC rfl (aC (.inl ⟨_,bj.of ha,rfl⟩) ?_)
  cases h with
  | nil=>exact k H (bu.refl H)
  | cons c r=>
   generalize hh:c::r=h at *
   have hne:h≠ []:=by rw[←hh];simp
   have at0:Oe (nv h) 0=some (.int ((h.getD 0 0 :Nat):Int)):=aV (j:=0) (vh (by rw[←hh];simp))
   have em:Mg h=if h.length<cZ (h.getD 0 0)then cZ (h.getD 0 0)else if h.getD 0 0=2 then cZ (h.getD 0 0)+4*Sw32.field h 2 2 else if h.getD 0 0=6∧¬4096<Sw32.field h 4 4 then cZ (h.getD 0 0)+Sw32.field h 4 4 else cZ (h.getD 0 0):=by
    unfold Mg
    rw[if_neg hne]
   have ei:(!(nv h).isEmpty)=true:=by rw[←hh];rfl
   rw[ei]
   refine aC rfl ⟨a,lJ rfl rfl (bj.of ha) ⟨at0,cP rfl rfl ?_⟩⟩
   rw[VJ]
   refine aC rfl (cP (a:=a) rfl (.inl (bj.of ha)) (aC rfl (cP rfl rfl (aC rfl (bJ (fun c=> ?_) fun c1=> ?_)))))
   ·rw[aD]at c
    rw[if_pos (by omega)]at em
    rw[em]at k
    exact aC rfl (k H (bu.refl H))
   rw[aD]at c1
   rw[if_neg (by omega)]at em
   refine aC rfl ⟨a,lJ rfl rfl (bj.of ha) ⟨at0,rfl,aC rfl (bJ (fun c=> ?_) fun c2=> ?_)⟩⟩
   ·rw[aH]at c
    rw[if_pos (by omega)]at em
    rw[em]at k
    refine aC rfl (aC rfl (aC rfl (aC rfl (cP (a:=a) rfl (bj.of ha) (fun t ht=> ?_)))))
    rw[show (some (2 :Int))=some ((2 :Nat):Int) from rfl,show (some (4 :Int))=some ((4 :Nat):Int) from rfl,dg,dY,fG]
    refine cP (a:=t) rfl (.inl aj) (nR rfl rfl (.inl ⟨by decide,by decide⟩) (cP rfl rfl ?_))
    have:=k _ (az (q:= .lst (nv ((h.drop 2).take (4-2)))) ht)
    rw[Int.natCast_add,Int.natCast_mul]at this
    exact this
   rw[aH]at c2
   rw[if_neg (by omega)]at em
   refine aC rfl ⟨a,lJ rfl rfl (bj.of ha) ⟨at0,rfl,aC rfl (bJ (fun c=> ?_) fun c3=> ?_)⟩⟩
   ·rw[aH]at c
    refine⟨_,rfl,a,h,rfl,ha,fun H1 s1=>⟨_,rfl,qQ (fun c4=> ?_) fun c4=> ?_⟩⟩
    ·rw[if_pos ⟨by omega,c4⟩]at em
     rw[em]at k
     refine⟨_,rfl,_,rfl,a,h,rfl,s1 _ _ ha,fun H2 s2=>⟨_,_,rfl,rfl,?_⟩⟩
     have:=k _ (s1.trans s2)
     rw[Int.natCast_add]at this
     exact this
    ·rw[if_neg (fun q=>q.2 c4)]at em
     rw[em]at k
     exact aC rfl (k H1 s1)
   ·rw[aH]at c3
    rw[if_neg (fun q=>c3 (by omega))]at em
    rw[em]at k
    exact aC rfl (k H (bu.refl H))
noncomputable def VL(A:bB):Sp:=fun vs H Q _=>∃(x:La)(s0:Sw32.St)(q:List Nat),vs= [.ref x.li]∧LW A H x s0 q∧∀H',bu H H'→Q (.int ((cu s0.state q:Nat):Int)) H'
theorem Im:aF ["line"] ["line"] (aB Jx):=⟨rfl,rfl,rfl,by decide +kernel,rfl,by decide +kernel,by decide +kernel⟩
theorem Ip{A:bB}(T:Txt K mg A):dZ P w K mg base 5 A.qH ["line"] (VL A):=by
 refine T.qH.ok Im (fun vs H Q E h=> ?_) (fun cdv Ar outer s H vs Q E hr h=> ?_)
 ·obtain⟨x,s0,q,rfl,_⟩:=h
  rfl
 ·obtain⟨x,s0,q,rfl,w,k⟩:=h
  have nd:=Im.nd
  refine⟨_,(ak (bC (aJ dF (bc T.aY 2 (pv 0)) (bD T.my) (aP _))
    (au (aG (bD T.yh))) aM)
   (ak (bC (aJ dF (bc T.aY 2 (pv 0)) (bD T.iZ) (aP _))
    (au (aG (cC (FQ T) (hr.mono (by decide)) T.iz rfl (aa (dJ T.gk T.je (yD T) (hr.mono (by decide)) (bc T.aY 4 (pv 0)) (aa (bD T.Ou) aq)) aq)))) aM)
   (au (aG aA)))),?_⟩
  apply cz w.lo;rfl;rfl
  refine⟨rfl,aC rfl (bJ (fun c=> ?_) fun c=> ?_)⟩
  ·rw[aH]at c
   unfold cu at k
   rw[if_pos (by omega)]at k
   exact k H (bu.refl H)
  rw[aH]at c
  apply cz w.lo;rfl;rfl
  refine⟨rfl,aC rfl (bJ (fun c2=> ?_) fun c2=> ?_)⟩
  ·rw[aH]at c2
   unfold cu at k
   rw[if_neg (by omega),if_pos (by omega)]at k
   apply cz w.lo;rfl;rfl
   refine⟨_,_,_,rfl,w.ib,x.ib,x.di,x.il,x.ip,8,x.a1,rfl,w.ib,w.il,fun l hl=> ?_⟩
   rw[←w.Ci]
   exact cP (a:=l) rfl aj (fun H2 s2=>k H2 ((az hl).trans s2))
  ·rw[aH]at c2
   unfold cu at k
   rw[if_neg (by omega),if_neg (by omega)]at k
   exact k H (bu.refl H)
theorem VM:∀v:Nat,(v=3∨v=7∨v=8)→(Str.ofString "RFB 003.00" ++ Str.ofString (toString (v:Int))++Str.ofString "\n").cps.toList=Sw32.ascii "RFB 003.00" ++ [48+v,10]∧(Str.ofString "RFB 003.00" ++ Str.ofString (toString (v:Int))++Str.ofString "\n").cps.size≤100∧(Str.ofString (toString (v:Int))).length≤100∧(v:Int).natAbs.log2<1920:=by
 rintro v (rfl | rfl | rfl)<;>decide +kernel
noncomputable def M9(A:bB):Sp:=fun vs H Q _=>∃(a:Addr)(b:List Nat),vs= [.ref a]∧H a=some (.lst (nv b))∧∀H',bu H H'→Q (.int (((Sw32.versionOf b).getD 0 :Nat):Int)) H'
theorem yW:aF ["octets","version"] ["octets"] (aB wX):=⟨rfl,rfl,rfl,by decide +kernel,rfl,by decide +kernel,by decide +kernel⟩
theorem J1{A:bB}(T:Txt K mg A):dZ P w K mg base 2 A.jZ ["octets"] (M9 A):=by
 refine T.jZ.ok yW (fun vs H Q E h=> ?_) (fun cdv Ar outer s H vs Q E hr h=> ?_)
 ·obtain⟨a,b,rfl,_⟩:=h
  rfl
 ·obtain⟨a,b,rfl,ha,k⟩:=h
  have nd:=yW.nd
  have three:∀i n,[3,7,8][i]? =some n→n=3∨n=7∨n=8:=fun i n h=>by
   have:=List.mem_of_getElem? h
   simpa using this
  refine⟨_,(ak (dC PassesOwn.never rfl (zg (gQ (aa aA (aa aA (aa aA aq))))) (aX (i:=1) nd rfl (Or.inl rfl) (Or.inl rfl))
    (au (bC (aJ (Vq hr.units) (pv 0) (cC (pA T) (hr.mono (by decide)) T.fW rfl (aa (W9 (pv 1)) aq)) (aP _))
    (au (aG (pv 1))) aM)))
   (au (aG aA))),?_⟩
  refine⟨by rw[dO];simp,fun t ht=>⟨t,rfl,⟨_,iT.of aj⟩,?_⟩⟩
  refine Cw (K:=K) (xs:=nv [3,7,8]) (fun i σ H2=>∃v1,σ= [some (.ref a),v1]∧bu H H2∧H2 t=some (.tup (nv [3,7,8]))∧∀j n,j<i→ [3,7,8][j]? =some n→Sw32.ascii "RFB 003.00" ++ [48+n,10]≠b) ⟨_,rfl,az ht,aj,fun j n h=>absurd h (by omega)⟩ (fun i σ H2 _ ⟨_,_,_,h2,_⟩=>iT.of h2) ?_ ?_
  ·rintro i v σ H2 hi ⟨v1,rfl,s2,ht2,hno⟩
   obtain⟨n,hn,rfl⟩:=uf hi
   obtain⟨e1,e2,e3,e4⟩:=VM n (three i n hn)
   refine aC rfl (aC rfl (e13 rfl e4 e3 (cW rfl e2 (fun l hl=> ?_))))
   refine⟨a,l,b,cW rfl rfl ⟨old hl (s2 _ _ ha),aj,aC rfl (bJ (fun c=> ?_) fun c=> ?_)⟩⟩
   ·rw[e1]at c
    have ev:Sw32.versionOf b=some n:=by
     unfold Sw32.versionOf
     rcases i with _ | _ | _ | i
     ·cases hn
      rw[List.find?_cons_of_pos (by simp[c])]
     ·cases hn
      rw[List.find?_cons_of_neg (by simpa using hno 0 3 (by omega) rfl),List.find?_cons_of_pos (by simp[c])]
     ·cases hn
      rw[List.find?_cons_of_neg (by simpa using hno 0 3 (by omega) rfl),List.find?_cons_of_neg (by simpa using hno 1 7 (by omega) rfl),List.find?_cons_of_pos (by simp[c])]
     ·cases hn
    rw[ev]at k
    exact aC rfl (k _ (s2.trans (az hl)))
   ·rw[e1]at c
    refine aC rfl ⟨s2.trans (az hl),old hl ht2,fun j m hj hm=> ?_⟩
    by_cases e:j=i
    ·subst e
     rw[hn]at hm
     cases hm
     exact fun q=>c q.symm
    ·exact hno j m (by omega) hm
  ·rintro σ H2 ⟨v1,rfl,s2,ht2,hno⟩
   have ev:Sw32.versionOf b=none:=by
    unfold Sw32.versionOf
    rw[List.find?_cons_of_neg (by simpa using hno 0 3 (by decide) rfl),List.find?_cons_of_neg (by simpa using hno 1 7 (by decide) rfl),List.find?_cons_of_neg (by simpa using hno 2 8 (by decide) rfl)]
    rfl
   rw[ev]at k
   exact k H2 s2
theorem aaG{b:List Nat}{v:Nat}(h:Sw32.versionOf b=some v):v=3∨v=7∨v=8:=by
 have:=List.mem_of_find?_eq_some h
 simpa using this
section
variable{A:bB}{H H':Hp}{x:La}{s:Sw32.St}{q:List Nat}
theorem LW.step (w:LW A H x s q) (st gK version:Nat) (h4:s.state≠4) (h:st=1→gK=version):fH A H x (upd H x.li (gn A {x with gK:=gK,oc:=x.oc,av:=x.av} st s.way)) {x with gK:=gK,oc:=x.oc,av:=x.av} {s with state:=st,version:=version} q:=
 ⟨w.MN (gK:=gK) (oc:=x.oc) (av:=x.av) (st:=st) (way:=s.way) (version:=version) (asked:=s.asked) cH aj (fun _=>(w.ask h4).kp (w.Ft (cH.one (by simp))) fun e=>aN e w.ev (fun e=>nomatch e)) h,rfl,rfl,Cz.kp (cH.one (by simp))⟩
end
theorem nP{s:Sw32.St}(b:List Nat)(h:s.state≠3)(h2:(Sw32.whole s b).state≠3):dG s b=Sw32.whole s b:=by
 unfold dG Sw32.tooLong
 rw[show (s.state==3)=false from beq_false_of_ne h]
 exact vo (.inl h2)
noncomputable def Nb(A:bB):Sp:=fun vs H Q _=>∃(x:La)(s0:Sw32.St)(q b:List Nat)(m:Addr),vs= [.ref x.li,.ref m]∧LW A H x s0 q∧Ok s0∧s0.state=0∧H m=some (.lst (nv b))∧∀x' H',fH A H x H' x' (dG s0 b) (if (dG s0 b).state=4 then []else q)→Q .non H'
theorem yX:aF ["line","octets"] ["line","octets"] (aB wW):=⟨rfl,rfl,rfl,by decide +kernel,rfl,by decide +kernel,by decide +kernel⟩
theorem J2{A:bB}(T:Txt K mg A):dZ P w K mg base 4 A.jY ["line","octets"] (Nb A):=by
 refine T.jY.ok yX (fun vs H Q E h=> ?_) (fun cdv Ar outer s H vs Q E hr h=> ?_)
 ·obtain⟨x,s0,q,b,m,rfl,_⟩:=h
  rfl
 ·obtain⟨x,s0,q,b,m,rfl,w,ok,hst,hm,k⟩:=h
  have nd:=yX.nd
  have hout:=ok.out2 (by omega)
  rw[hst]at hout
  refine⟨_,(ak (oH T.aY 3 (pv 0) (cC (J1 T) (hr.mono (by decide)) T.jZ rfl (aa (pv 1) aq)))
   (au (bC (aJ dF (bc T.aY 3 (pv 0)) aA (aP _))
    (au (aR (cY T.aY T.gZ (qY T) (hr.mono (by decide)) (pv 0)))) (au (bC (aJ dF (bc T.aY 3 (pv 0)) aA (aP _))
    (ak (aR (dJ T.aY T.dz (eV T) (hr.mono (by decide)) (pv 0) (aa (cC (bN T) (hr.mono (by decide)) T.bI rfl (aa (bD T.kJ) (aa aA aq))) aq)))
   (au (oH T.aY 2 (pv 0) (bD T.mz)))) (ak (aR (dJ T.aY T.dz (eV T) (hr.mono (by decide)) (pv 0) (aa (cG (aa aA (aa (bD T.kJ) aq))) aq)))
   (au (oH T.aY 2 (pv 0) (bD T.ph))))))))),?_⟩
  refine aC rfl (cP (a:=m) (b:=b) rfl hm (fun H1 s1=> ?_))
  have w1:=w.same s1
  have ew:Sw32.whole s0 b=(match Sw32.versionOf b with
   | none=>Sw32.close s0
   | some v=>if v=3 then {s0 with state:=2,version:=3,out:=s0.out++Sw32.be 4 1}else {s0 with state:=1,version:=v,out:=s0.out ++ [1,1]}):=by
   unfold Sw32.whole
   rw[if_pos hst]
   cases Sw32.versionOf b<;>rfl
  cases hv:Sw32.versionOf b with
  | none=>
   rw[hv]at ew
   have ep:dG s0 b=Sw32.close s0:=by
    rw[nP b (by omega) (by rw[ew];show (4 :Nat)≠3;decide),ew]
   rw[ep,if_pos (show (Sw32.close s0).state=4 from rfl)]at k
   refine aC rfl (lJ rfl w1.lo (by simp) ?_)
   obtain⟨x2,go2⟩:∃x2,fH A H x (upd H1 x.li (gn A {x with gK:=0,oc:=x.oc,av:=x.av} s0.state s0.way)) x2 s0 q:=⟨_,(fH.same w s1).trans (w1.step s0.state 0 s0.version (by omega) (by omega))⟩
   refine aC rfl (jN rfl aj rfl rfl (aC rfl (bJ (fun _=> ?_) fun c=>absurd rfl c)))
   exact aC rfl (jM rfl aj (jM (a:=x2) (b:=s0) (c:=q) (by rw[go2.li]) go2.w (fun x3 H3 Rn=>k x3 H3 (go2.trans Rn))))
  | some v=>
   rw[hv]at ew
   have hv3:=aaG hv
   refine aC rfl (lJ rfl w1.lo (by simp) ?_)
   obtain⟨x2,hx2,go2⟩:∃x2,x2.gK=v∧fH A H x (upd H1 x.li (gn A {x with gK:=v,oc:=x.oc,av:=x.av} s0.state s0.way)) x2 s0 q:=⟨_,rfl,(fH.same w s1).trans (w1.step s0.state v s0.version (by omega) (by omega))⟩
   have hlo:upd H1 x.li (gn A {x with gK:=v,oc:=x.oc,av:=x.av} s0.state s0.way) x.li=some (gn A {x with gK:=v,oc:=x.oc,av:=x.av} s0.state s0.way):=aj
   refine aC rfl (jN rfl aj rfl rfl (aC rfl (bJ (fun c=> ?_) fun _=> ?_)))
   ·rw[aH]at c
    have c:((v:Nat):Int)=0:=c
    omega
   refine aC rfl (jN rfl aj rfl rfl (aC rfl (bJ (fun c=> ?_) fun c=> ?_)))
   ·rw[aH]at c
    have c:((v:Nat):Int)=3:=c
    have c:v=3:=by omega
    subst c
    have ew:Sw32.whole s0 b= {s0 with state:=2,version:=3,out:=s0.out++Sw32.be 4 1}:=ew
    have ep:dG s0 b= {s0 with state:=2,version:=3,out:=s0.out++Sw32.be 4 1}:=by
     rw[nP b (by omega) (by rw[ew];show (2 :Nat)≠3;decide),ew]
    rw[ep,if_neg (show ¬(2 :Nat)=4 by decide)]at k
    refine aC rfl (jM rfl aj (cP (a:=1) (b:=4) rfl (by decide) (fun l hl=> ?_)))
    have Rn:=go2.trans (fH.same go2.w (az (q:= .lst (nv (Sw32.be 4 1))) hl))
    refine e54 (a:=x2) (b:=s0) (c:=q) (d:=Sw32.be 4 1) (e:=l) (by rw[go2.li]) Rn.w aj ?_ (fun x4 H4 yZ _ _=> ?_)
    ·rw[bW]
     omega
    have VN:=Rn.trans yZ
    have Tr:x4.li=x.li:=VN.li
    refine⟨_,rfl,_,_,_,rfl,Tr▸yZ.w.lo,by simp,?_⟩
    have Wj:=yZ.w.step 2 x4.gK 3 (by show s0.state≠4;omega) (fun h=>absurd h (by decide))
    rw[Tr]at Wj
    exact k _ _ (VN.trans Wj)
   ·rw[aH]at c
    have c:¬((v:Nat):Int)=3:=c
    have ew:Sw32.whole s0 b= {s0 with state:=1,version:=v,out:=s0.out ++ [1,1]}:=ew.trans (if_neg (by omega))
    have ep:dG s0 b= {s0 with state:=1,version:=v,out:=s0.out ++ [1,1]}:=by
     rw[nP b (by omega) (by rw[ew];show (1 :Nat)≠3;decide),ew]
    rw[ep,if_neg (show ¬(1 :Nat)=4 by decide)]at k
    refine aC rfl (lJ rfl aj (by rw[dO];simp) (fun l hl=> ?_))
    have Rn:=go2.trans (fH.same go2.w (az (q:= .lst (nv [1,1])) hl))
    refine e54 (a:=x2) (b:=s0) (c:=q) (d:= [1,1]) (e:=l) (by rw[go2.li]) Rn.w aj ?_ (fun x4 H4 yZ _ hx4=> ?_)
    ·show _+2≤_
     omega
    have VN:=Rn.trans yZ
    have Tr:x4.li=x.li:=VN.li
    refine⟨_,rfl,_,_,_,rfl,Tr▸yZ.w.lo,by simp,?_⟩
    have Wj:=yZ.w.step 1 x4.gK v (by show s0.state≠4;omega) (fun _=>hx4.2.trans hx2)
    rw[Tr]at Wj
    exact k _ _ (VN.trans Wj)
theorem XR{s:Sw32.St}{c:Nat}(h:s.state=1):Sw32.whole s [c]=if c=1 then {s with state:=2,out:=s.out++(if s.version=8 then Sw32.be 4 0 else [])}else Sw32.close (if s.version=8 then {s with out:=s.out++(Sw32.be 4 1++(Sw32.be 4 7++Sw32.ascii "unknown"))}else s):=by
 unfold Sw32.whole
 rw[if_neg (by omega),if_pos h]
 by_cases e:c=1
 ·rw[if_pos (by rw[e]),if_pos e]
 ·rw[if_neg (fun q=>e (by simpa using q)),if_neg e]
theorem aci(s:Sw32.St):(Sw32.close s).state=4:=rfl
theorem Qi:(Str.ofString "unknown").cps.toList=Sw32.ascii "unknown" ∧(Str.ofString "unknown").cps.size≤100∧(Str.ofString "unknown").length=7:=by decide +kernel
noncomputable def J3(A:bB):Sp:=fun vs H Q _=>∃(x:La)(s0:Sw32.St)(q:List Nat)(c:Nat),vs= [.ref x.li,.int (c:Int)]∧LW A H x s0 q∧Ok s0∧s0.state=1∧∀x' H',fH A H x H' x' (dG s0 [c]) (if (dG s0 [c]).state=4 then []else q)→Q .non H'
theorem wA:aF ["line","octet"] ["line","octet"] (aB tU):=⟨rfl,rfl,rfl,by decide +kernel,rfl,by decide +kernel,by decide +kernel⟩
theorem Hd{A:bB}(T:Txt K mg A):dZ P w K mg base 4 A.jt ["line","octet"] (J3 A):=by
 refine T.jt.ok wA (fun vs H Q E h=> ?_) (fun cdv Ar outer s H vs Q E hr h=> ?_)
 ·obtain⟨x,s0,q,c,rfl,_⟩:=h
  rfl
 ·obtain⟨x,s0,q,c,rfl,w,ok,hst,k⟩:=h
  have nd:=wA.nd
  have hout:=ok.out2 (by omega)
  rw[hst]at hout
  have XS:=w.gK hst
  have ew:=XR (c:=c) hst
  refine⟨_,(ak (bC (aJ dF (pv 1) (bD T.kJ) (aP _))
    (ak (bC (aJ dF (bc T.aY 3 (pv 0)) aA (aP _))
    (au (aR (dJ T.aY T.dz (eV T) (hr.mono (by decide)) (pv 0) (aa (cC (bN T) (hr.mono (by decide)) T.bI rfl (aa aA (aa aA aq))) aq)))) aM)
   (ak (oH T.aY 2 (pv 0) (bD T.mz))
   (au IW))) aM)
   (ak (bC (aJ dF (bc T.aY 3 (pv 0)) aA (aP _))
    (au (aR (dJ T.aY T.dz (eV T) (hr.mono (by decide)) (pv 0) (aa (bf iQ (bf iQ (cC (bN T) (hr.mono (by decide)) T.bI rfl (aa aA (aa aA aq))) (cC (bN T) (hr.mono (by decide)) T.bI rfl (aa (bO Jh rfl T.gM PySem.boot_len (aa (vJ T.DK) aq)) (aa aA aq)))) (cC (pA T) (hr.mono (by decide)) T.fW rfl (aa (vJ T.DK) aq))) aq)))) aM)
   (au (aR (cY T.aY T.gZ (qY T) (hr.mono (by decide)) (pv 0)))))),?_⟩
  refine cW rfl rfl (aC rfl (bJ (fun e=> ?_) fun e=> ?_))
  ·rw[aH]at e
   rw[if_pos (by omega)]at ew
   have ep:dG s0 [c]= {s0 with state:=2,out:=s0.out++(if s0.version=8 then Sw32.be 4 0 else [])}:=by
    rw[nP [c] (by omega) (by rw[ew];show (2 :Nat)≠3;decide),ew]
   rw[ep,if_neg (show ¬(2 :Nat)=4 by decide)]at k
   refine ux (fun σ H2=>σ= [some (.ref x.li),some (.int (c:Int))]∧∃x2,fH A H x H2 x2 {s0 with out:=s0.out++(if s0.version=8 then Sw32.be 4 0 else [])} q) (fun N hN=> ?_) ?_
   ·refine aC rfl (jN rfl w.lo rfl rfl (aC rfl (bJ (fun e8=> ?_) fun e8=> ?_)))
    ·rw[aH,XS]at e8
     rw[if_pos (by omega)]at hN
     refine aC rfl (jM rfl w.lo (cP (a:=0) (b:=4) rfl (by decide) (fun l hl=> ?_)))
     have Tu:=fH.same w (az (q:= .lst (nv (Sw32.be 4 0))) hl)
     exact e54 (a:=x) (b:=s0) (c:=q) (d:=Sw32.be 4 0) (e:=l) rfl Tu.w aj (by rw[bW];omega) (fun x4 H4 yZ _ _=>hN _ _ ⟨rfl,x4,Tu.trans yZ⟩)
    ·rw[aH,XS]at e8
     rw[if_neg (by omega),List.append_nil]at hN
     exact hN _ _ ⟨rfl,x,w.go⟩
   ·rintro σ H2 ⟨rfl,x2,go2⟩
    refine⟨_,rfl,_,_,_,rfl,go2.li▸go2.w.lo,by simp,?_⟩
    have Wj:=go2.w.step 2 x2.gK s0.version (by show s0.state≠4;omega) (fun h=>absurd h (by decide))
    rw[go2.li]at Wj
    exact k _ _ (go2.trans Wj)
  ·rw[aH]at e
   rw[if_neg (by omega)]at ew
   have ep:dG s0 [c]=Sw32.close (if s0.version=8 then {s0 with out:=s0.out++(Sw32.be 4 1++(Sw32.be 4 7++Sw32.ascii "unknown"))}else s0):=by
    rw[nP [c] (by omega) (by rw[ew];show (4 :Nat)≠3;decide),ew]
   rw[ep,if_pos (aci _)]at k
   dsimp only[Yh]
   refine ux (fun σ H2=>σ= [some (.ref x.li),some (.int (c:Int))]∧∃x2,fH A H x H2 x2 (if s0.version=8 then {s0 with out:=s0.out++(Sw32.be 4 1++(Sw32.be 4 7++Sw32.ascii "unknown"))}else s0) q) (fun N hN=> ?_) ?_
   ·refine aC rfl (jN rfl w.lo rfl rfl (aC rfl (bJ (fun e8=> ?_) fun e8=> ?_)))
    ·rw[aH,XS]at e8
     rw[if_pos (by omega)]at hN
     obtain⟨u1,u2,u3⟩:=Qi
     refine aC rfl (jM rfl w.lo (cP (a:=1) (b:=4) rfl (by decide) (fun t1 h1=> ?_)))
     refine cW rfl (by rw[u3,dO];decide) (cP (a:=(Str.ofString "unknown").length) (b:=4) rfl (by decide) (fun t2 h2=> ?_))
     rw[u3]
     refine⟨t1,t2,cP rfl rfl ⟨old h2 aj,aj,by rw[aD,aD,bW,bW,dO];decide,fun t3 h3=> ?_⟩⟩
     rw[←bG]
     refine aC rfl ⟨u2,fun t4 h4=> ?_⟩
     rw[u1]
     have ul:(Sw32.ascii "unknown").length=7:=by decide
     refine⟨t3,t4,cP rfl rfl ⟨old h4 aj,aj,by rw[aD,aD,List.length_append,bW,bW,ul,dO];decide,fun l hl=> ?_⟩⟩
     rw[←bG,List.append_assoc]
     have Tu:=fH.same w ((((az (q:= .lst (nv (Sw32.be 4 1))) h1).trans (az h2)).trans (az h3)).trans (az h4) |>.trans (az (q:= .lst (nv (Sw32.be 4 1++(Sw32.be 4 7++Sw32.ascii "unknown")))) hl))
     exact e54 (a:=x) (b:=s0) (c:=q) (d:=Sw32.be 4 1++(Sw32.be 4 7++Sw32.ascii "unknown")) (e:=l) rfl Tu.w aj (by rw[List.length_append,List.length_append,bW,bW,ul];omega) (fun x4 H4 yZ _ _=>hN _ _ ⟨rfl,x4,Tu.trans yZ⟩)
    ·rw[aH,XS]at e8
     rw[if_neg (by omega)]at hN
     exact hN _ _ ⟨rfl,x,w.go⟩
   ·rintro σ H2 ⟨rfl,x2,go2⟩
    exact⟨_,rfl,_,_,_,rfl,go2.li▸go2.w.lo,x2,_,q,by rw[go2.li],go2.w,fun x3 H3 Rn=>k x3 H3 (go2.trans Rn)⟩
theorem XX{s:Sw32.St}(b:List Nat)(h:s.state=2):Sw32.whole s b= {s with state:=3,out:=s.out++(Sw32.be 2 s.screen.w++(Sw32.be 2 s.screen.h++(Sw32.usualBytes++(Sw32.be 4 s.name.length++s.name))))}:=by
 unfold Sw32.whole
 rw[if_neg (by omega),if_neg (by omega),if_pos h]
noncomputable def Nf(A:bB):Sp:=fun vs H Q _=>∃(x:La)(s0:Sw32.St)(q b:List Nat),vs= [.ref x.li]∧LW A H x s0 q∧Ok s0∧s0.state=2∧∀x' H',fH A H x H' x' (dG s0 b) (if (dG s0 b).state=4 then []else q)→Q .non H'
theorem za:aF ["line"] ["line"] (aB wY):=⟨rfl,rfl,rfl,by decide +kernel,rfl,by decide +kernel,by decide +kernel⟩
theorem J4{A:bB}(T:Txt K mg A):dZ P w K mg base 3 A.j0 ["line"] (Nf A):=by
 refine T.j0.ok za (fun vs H Q E h=> ?_) (fun cdv Ar outer s H vs Q E hr h=> ?_)
 ·obtain⟨x,s0,q,b,rfl,_⟩:=h
  rfl
 ·obtain⟨x,s0,q,b,rfl,w,ok,hst,k⟩:=h
  have nd:=za.nd
  have hout:=ok.out2 (by omega)
  rw[hst]at hout
  have hnm:=ok.nm
  have ew:=XX b hst
  have ep:dG s0 b=Sw32.whole s0 b:=by
   unfold dG Sw32.tooLong
   rw[hst]
   show Sw32.tells (Sw32.whole s0 b)=_
   refine xG ?_
   have:(Sw32.whole s0 b).asked=none:=by rw[ew];exact ok.early (by omega)
   unfold Sw32.due
   rw[this]
   rfl
  rw[ep,ew,if_neg (show ¬(3 :Nat)=4 by decide)]at k
  have ub:Sw32.usualBytes.length=16:=rfl
  refine⟨_,(ak (aR (dJ T.aY T.dz (eV T) (hr.mono (by decide)) (pv 0) (aa (bf iQ (cC (bN T) (hr.mono (by decide)) T.bI rfl (aa (bc T.bV 0 (bc T.aY 0 (pv 0))) (aa aA aq))) (cC (bN T) (hr.mono (by decide)) T.bI rfl (aa (bc T.bV 1 (bc T.aY 0 (pv 0))) (aa aA aq)))) aq)))
   (ak (aR (dJ T.aY T.dz (eV T) (hr.mono (by decide)) (pv 0) (aa (zu qj rfl T.JB PyProof.Rows.boot_list (aa (QW T.qI) aq)) aq)))
   (ak (aR (dJ T.aY T.dz (eV T) (hr.mono (by decide)) (pv 0) (aa (bf iQ (cC (bN T) (hr.mono (by decide)) T.bI rfl (aa (bO bA rfl T.gM PySem.boot_len (aa (bc T.aY 1 (pv 0)) aq)) (aa aA aq))) (bc T.aY 1 (pv 0))) aq)))
   (au (oH T.aY 2 (pv 0) (bD T.iZ)))))),?_⟩
  refine aC rfl (jM rfl w.lo (aC rfl (vy rfl w.lo rfl (vy rfl w.can.ob rfl (cP (a:=s0.screen.w) (b:=2) rfl (by decide) (fun t1 h1=> ?_))))))
  have w1:=w.same (az (q:= .lst (nv (Sw32.be 2 s0.screen.w))) h1)
  refine aC rfl (vy rfl w1.lo rfl (vy rfl w1.can.ob rfl (cP (a:=s0.screen.h) (b:=2) rfl (by decide) (fun t2 h2=> ?_))))
  refine⟨t1,t2,cP rfl rfl ⟨old h2 aj,aj,by rw[aD,aD,bW,bW,dO];decide,fun l hl=> ?_⟩⟩
  rw[←bG]
  have Tu:=fH.same w (((az (q:= .lst (nv (Sw32.be 2 s0.screen.w))) h1).trans (az h2)).trans (az (q:= .lst (nv (Sw32.be 2 s0.screen.w++Sw32.be 2 s0.screen.h))) hl))
  refine e54 (a:=x) (b:=s0) (c:=q) (d:=Sw32.be 2 s0.screen.w++Sw32.be 2 s0.screen.h) (e:=l) rfl Tu.w aj (by rw[List.length_append,bW,bW];omega) (fun x2 H2 aeY _ _=> ?_)
  have go2:=Tu.trans aeY
  refine⟨_,rfl,_,_,_,rfl,go2.li▸go2.w.lo,A.lA,_,rfl,.inr (T.mj _),fun l2 hl2=> ?_⟩
  have Rn:=go2.trans (fH.same go2.w (az (q:= .lst (nv Sw32.usualBytes)) hl2))
  refine e54 (a:=x2) (c:=q) (d:=Sw32.usualBytes) (e:=l2) (by rw[go2.li]) Rn.w aj ?_ (fun x4 H4 aeZ _ _=> ?_)
  ·show List.length (_++_)+_≤_
   rw[List.length_append,List.length_append,bW,bW,ub]
   omega
  have yZ:=Rn.trans aeZ
  have acj:=yZ.w.nm
  refine⟨_,rfl,_,_,_,rfl,yZ.li▸yZ.w.lo,_,rfl,_,_,_,_,rfl,yZ.li▸yZ.w.lo,rfl,x4.nm,_,rfl,.inl (bj.of acj),s0.name.length,4,by rw[aD];rfl,by decide,fun t5 h5=> ?_⟩
  refine⟨_,rfl,_,_,_,_,rfl,old h5 (yZ.li▸yZ.w.lo),rfl,t5,x4.nm,_,_,rfl,rfl,aj,old h5 acj,by rw[aD,aD,bW,dO];show 4+s0.name.length≤_;omega,fun l6 h6=> ?_⟩
  rw[←bG]
  have go6:=yZ.trans (fH.same yZ.w ((az (q:= .lst (nv (Sw32.be 4 s0.name.length))) h5).trans (az (q:= .lst (nv (Sw32.be 4 s0.name.length++s0.name))) h6)))
  refine e54 (a:=x4) (c:=q) (d:=Sw32.be 4 s0.name.length++s0.name) (e:=l6) (by rw[yZ.li]) go6.w aj ?_ (fun x7 H7 ae0 _ _=> ?_)
  ·show List.length (_++_++_)+_≤_
   rw[List.length_append,List.length_append,List.length_append,List.length_append,bW,bW,bW,ub]
   omega
  have Wk:=go6.trans ae0
  refine⟨_,rfl,_,_,_,rfl,Wk.li▸Wk.w.lo,by simp,?_⟩
  have go8:=Wk.w.step 3 x7.gK s0.version (by show s0.state≠4;omega) (fun h=>absurd h (by decide))
  rw[Wk.li]at go8
  have go9:=Wk.trans go8
  have eo:s0.out++(Sw32.be 2 s0.screen.w++Sw32.be 2 s0.screen.h)++Sw32.usualBytes++(Sw32.be 4 s0.name.length++s0.name)=s0.out++(Sw32.be 2 s0.screen.w++(Sw32.be 2 s0.screen.h++(Sw32.usualBytes++(Sw32.be 4 s0.name.length++s0.name)))):=by simp
  rw[←eo]at k
  exact k _ _ go9
theorem LW.pend {A:bB} {H:Hp} {x:La} {s:Sw32.St} {q:List Nat} (w:LW A H x s q) (p:List Nat):LW A H x {s with pending:=p} q:=
 ⟨w.lo,w.can,w.held,w.col,w.nm,w.yP,w.ib,w.il,w.Br,w.Ij,w.Ci,w.ob,w.ol,w.zf,w.Gp,w.out,w.Ik,w.ev,w.evs,w.G5,w.fm,w.G6,w.bits,w.ask,w.gK⟩
theorem fH.pend {A:bB} {H H':Hp} {x x':La} {s:Sw32.St} {q:List Nat} (g:fH A H x H' x' s q) (p:List Nat):fH A H x H' x' {s with pending:=p} q:=⟨g.w.pend p,g.li,g.ca,g.fr⟩
noncomputable def Qj(A:bB):Sp:=fun vs H Q _=>∃(x:La)(s0:Sw32.St)(q b:List Nat)(m:Addr),vs= [.ref x.li,.ref m]∧LW A H x s0 q∧Ok s0∧s0.state≤3∧s0.pending= []∧H m=some (.lst (nv b))∧m≠x.ev∧(∀z ∈ b,z<256)∧(s0.state=1→b.length=1)∧(s0.state=3→XQ b)∧∀x' H',fH A H x H' x' (dG s0 b) (if (dG s0 b).state=4 then []else q)→Q .non H'
theorem Bx:aF ["line","octets"] ["line","octets"] (aB zV):=⟨rfl,rfl,rfl,by decide +kernel,rfl,by decide +kernel,by decide +kernel⟩
theorem Ng{A:bB}(T:Txt K mg A):dZ P w K mg base 10 A.mQ ["line","octets"] (Qj A):=by
 refine T.mQ.ok Bx (fun vs H Q E h=> ?_) (fun cdv Ar outer s H vs Q E hr h=> ?_)
 ·obtain⟨x,s0,q,b,m,rfl,_⟩:=h
  rfl
 ·obtain⟨x,s0,q,b,m,rfl,w,ok,hst,hp,hm,hme,hlt,hb1,hb3,k⟩:=h
  have nd:=Bx.nd
  refine⟨_,(au (bC (aJ dF (bc T.aY 2 (pv 0)) (bD T.my) (aP _))
    (au (aR (cC (J2 T) (hr.mono (by decide)) T.jY rfl (aa (pv 0) (aa (pv 1) aq))))) (au (bC (aJ dF (bc T.aY 2 (pv 0)) (bD T.ph) (aP _))
    (au (aR (cC (Hd T) (hr.mono (by decide)) T.jt rfl (aa (pv 0) (aa (bL (aO K) (pv 1) aA (fun _ _=>rfl)) aq))))) (au (bC (aJ dF (bc T.aY 2 (pv 0)) (bD T.mz) (aP _))
    (au (aR (cC (J4 T) (hr.mono (by decide)) T.j0 rfl (aa (pv 0) aq)))) (au (aR (cC (FP T) (hr.mono (by decide)) T.iB rfl (aa (pv 0) (aa (pv 1) aq))))))))))),?_⟩
  apply cz w.lo;rfl;rfl
  refine⟨rfl,aC rfl (bJ (fun c=> ?_) fun c0=> ?_)⟩
  ·rw[aH]at c
   exact aC rfl (aC rfl ⟨x,s0,q,b,m,rfl,w,ok,by omega,hm,k⟩)
  rw[aH]at c0
  apply cz w.lo;rfl;rfl
  refine⟨rfl,aC rfl (bJ (fun c=> ?_) fun c1=> ?_)⟩
  ·rw[aH]at c
   obtain⟨z,rfl⟩:∃z,b= [z]:=by
    have:=hb1 (by omega)
    cases b with
    | nil=>simp at this
    | cons z r=>cases r with
     | nil=>exact⟨z,rfl⟩
     | cons y r=>simp at this
   exact aC rfl (aC rfl ⟨m,e34 rfl rfl (bj.of hm) (aV (j:=0) rfl) ⟨x,s0,q,z,rfl,w,ok,by omega,k⟩⟩)
  rw[aH]at c1
  apply cz w.lo;rfl;rfl
  refine⟨rfl,aC rfl (bJ (fun c=> ?_) fun c2=> ?_)⟩
  ·rw[aH]at c
   exact aC rfl ⟨x,s0,q,b,rfl,w,ok,by omega,k⟩
  ·rw[aH]at c2
   have h3:s0.state=3:=by omega
   exact⟨_,rfl,_,rfl,x,s0,q,b,m,rfl,⟨w,ok,h3,hm,hme,hlt⟩,hp,hb3 h3,k⟩
theorem X3{q:List Nat}(h:cu 3 q≤q.length):XQ (q.take (cu 3 q)):=by
 have hpos:=vf 3 q
 have hq:q≠ []:=fun e=>by rw[e]at h hpos;simp only[List.length_nil]at h;omega
 have hl:(q.take (cu 3 q)).length=cu 3 q:=by rw[List.length_take];omega
 have g0:(q.take (cu 3 q)).getD 0 0=q.getD 0 0:=vd (by omega)
 have t0:(q.take 8).getD 0 0=q.getD 0 0:=vd (by omega)
 have tl:(q.take 8).length=min 8 q.length:=List.length_take
 have tn:q.take 8≠ []:=fun e=>by
  have:=congrArg List.length e
  rw[tl,List.length_nil]at this
  cases q with
  | nil=>exact hq rfl
  | cons a r=>simp at this
 have ew:cu 3 q=if (q.take 8).length<cZ (q.getD 0 0)then cZ (q.getD 0 0)else if q.getD 0 0=2 then cZ (q.getD 0 0)+4*Sw32.field q 2 2 else if q.getD 0 0=6∧¬4096<Sw32.field q 4 4 then cZ (q.getD 0 0)+Sw32.field q 4 4 else cZ (q.getD 0 0):=by
  unfold cu
  rw[if_neg (by decide),if_pos rfl]
  unfold Mg
  rw[if_neg tn,t0,fj (by omega),fj (by omega)]
 refine⟨fun e=> ?_,?_,?_,?_,?_,?_,?_⟩
 ·rw[e]at hl;simp at hl;omega
 ·rw[g0,hl]
  intro h0
  rw[ew,h0]
  simp[cZ]
 ·rw[g0,hl]
  intro h0
  rw[h0]at ew
  rw[tl]at ew
  have e4:cZ 2=4:=rfl
  rw[e4]at ew
  have h4:4≤q.length:=by
   by_cases c:min 8 q.length<4
   ·rw[if_pos c]at ew;omega
   ·omega
  rw[if_neg (by omega),if_pos rfl]at ew
  rw[ew,fj (by omega)]
 ·rw[g0,hl]
  intro h0
  rw[ew,h0]
  simp[cZ]
 ·rw[g0,hl]
  intro h0
  rw[ew,h0]
  simp[cZ]
 ·rw[g0,hl]
  intro h0
  rw[ew,h0]
  simp[cZ]
 ·rw[g0,hl]
  intro h0
  rw[h0]at ew
  rw[tl]at ew
  have e4:cZ 6=8:=rfl
  rw[e4]at ew
  have h4:8≤q.length:=by
   by_cases c:min 8 q.length<8
   ·rw[if_pos c]at ew;omega
   ·omega
  rw[if_neg (by omega),if_neg (by decide)]at ew
  have h8:8≤cu 3 q:=by
   by_cases c:6=6∧¬4096<Sw32.field q 4 4
   ·rw[if_pos c]at ew;omega
   ·rw[if_neg c]at ew;omega
  rw[fj (by omega)]
  refine⟨h8,fun hc=> ?_⟩
  rw[if_pos ⟨rfl,hc⟩]at ew
  exact ew
noncomputable def Nh(A:bB):Sp:=fun vs H Q _=>∃(x:La)(s0:Sw32.St)(b:List Nat)(l:Addr),vs= [.ref x.li,.ref l]∧LW A H x s0 s0.pending∧Ok s0∧H l=some (.lst (nv b))∧(∀z ∈ b,z<256)∧(∀z ∈ s0.pending,z<256)∧b.length≤65535∧∀x' H',fH A H x H' x' (b.foldl Sw32.byte s0) (b.foldl Sw32.byte s0).pending→Ok (b.foldl Sw32.byte s0)→(∀z ∈ (b.foldl Sw32.byte s0).pending,z<256)→Q .non H'
theorem zb:aF ["line","octets"] ["line","octets"] (aB wV):=⟨rfl,rfl,rfl,by decide +kernel,rfl,by decide +kernel,by decide +kernel⟩
theorem J5{A:bB}(T:Txt K mg A):dZ P w K mg base 11 A.jX ["line","octets"] (Nh A):=by
 refine T.jX.ok zb (fun vs H Q E h=> ?_) (fun cdv Ar outer s H vs Q E hr h=> ?_)
 ·obtain⟨x,s0,b,l,rfl,_⟩:=h
  rfl
 ·obtain⟨x,s0,b,l,rfl,w,ok,hl,hlt,hpl,Gn,k⟩:=h
  have nd:=zb.nd
  refine⟨_,(ak (bC (aJ dF (bc T.aY 2 (pv 0)) (bD T.kI) (aP _))
    (au IW) aM)
   (ak (aR (dJ T.gk T.m7 (Ep T) (hr.mono (by decide)) (bc T.aY 4 (pv 0)) (aa (pv 1) aq)))
   (au (Kh PassesOwn.never (PW.pt (TX (aJ xQ (bc T.aY 2 (pv 0)) (bD T.kI) (aP _)) (Qs (aJ Ks (cY T.gk T.jm (uh T) (hr.mono (by decide)) (bc T.aY 4 (pv 0))) (cC (Ip T) (hr.mono (by decide)) T.qH rfl (aa (pv 0) aq)) (aP _)))))
    (au (aR (cC (Ng T) (hr.mono (by decide)) T.mQ rfl (aa (pv 0) (aa (dJ T.gk T.jT (Bg T) (hr.mono (by decide)) (bc T.aY 4 (pv 0)) (aa (cC (Ip T) (hr.mono (by decide)) T.qH rfl (aa (pv 0) aq)) aq)) aq))))))))),?_⟩
  apply cz w.lo;rfl;rfl
  refine⟨rfl,aC rfl (bJ (fun c=> ?_) fun c0=> ?_)⟩
  ·rw[aH]at c
   rw[xn (by omega) b]at k
   exact k x H w.go ok hpl
  rw[aH]at c0
  have hst:s0.state≤3:=by have:=ok.st;omega
  have hpd:=ok.pend hst
  have hwl:=Vi hpl s0.state
  apply cz w.lo;rfl;rfl
  refine⟨_,_,_,rfl,w.ib,_,rfl,x.ib,x.di,x.il,l,x.ip,x.a1,b,rfl,w.ib,w.il,hl,by rw[←w.Ci];omega,fun l' H1 hl' h1 h2 kp=> ?_⟩
  rw[←w.Ci]at h1
  have w1:=(w.Y4 kp h2 h1 (ao w.ev hl').symm (Nat.zero_le _)).pend []
  have Tu:fH A H x H1 {x with il:=l',ip:=0,a1:=s0.pending++b} {s0 with pending:= []} (s0.pending++b):=⟨w1,rfl,rfl,Cz.kp (kp.one (by simp))⟩
  have e0:=Xm hst hpd b
  generalize hfin:b.foldl Sw32.byte s0=fin at *
  refine⟨fun m σ H2=>∃x2 s2 q2,σ= [some (.ref x.li),some (.ref l)]∧fH A H x H2 x2 s2 q2∧Ok s2∧s2.pending= []∧(∀z ∈ q2,z<256)∧fin=q2.foldl Sw32.byte s2∧(s2.state=4→q2= [])∧m=q2.length,⟨_,_,_,_,rfl,Tu,Gx ok,rfl,?_,e0,fun h=>absurd h (by show s0.state≠4;omega),rfl⟩,?_⟩
  ·intro z hz
   rcases List.mem_append.mp hz with hz | hz
   ·exact hpl z hz
   ·exact hlt z hz
  ·rintro m σ H2 ⟨x2,s2,q2,rfl,go,ok2,hp2,hlt2,hf,h4,rfl⟩
   have w2:=go.w
   have hlo:H2 x.li=some (gn A x2 s2.state s2.way):=go.li▸go.w.lo
   apply cz hlo;rfl;rfl
   refine⟨rfl,aC rfl (qQ (fun c=> ?_) fun c=> ?_)⟩
   ·rw[aH]at c
    have hs2:s2.state≤3:=by have:=ok2.st;omega
    apply cz hlo;rfl;rfl
    refine⟨_,_,_,rfl,w2.ib,x2.ib,x2.di,x2.il,x2.ip,x2.a1,rfl,w2.ib,w2.il,w2.Ij,?_⟩
    rw[←w2.Ci]
    refine aC rfl (vU (a:=x2) (b:=s2) (c:=q2) (by rw[go.li]) ⟨w2,fun H3 s3=>⟨_,_,rfl,rfl,_,rfl,bJ (fun c2=> ?_) fun c2=> ?_⟩⟩)
    ·have c2:cu s2.state q2≤q2.length:=by omega
     have hpos:=vf s2.state q2
     have w3:=w2.same s3
     have ae1:=s3 _ _ hlo
     have ef:=Vj hs2 hp2 c2
     refine⟨fun σ' H'=>∃m',m'<q2.length∧∃x2 s2 q2,σ'= [some (.ref x.li),some (.ref l)]∧fH A H x H' x2 s2 q2∧Ok s2∧s2.pending= []∧(∀z ∈ q2,z<256)∧fin=q2.foldl Sw32.byte s2∧(s2.state=4→q2= [])∧m'=q2.length,fun σ' H' h=>h,?_⟩
     refine aC rfl ?_
     apply cz ae1;rfl;rfl
     refine jM rfl w3.ib (aC rfl (vU (a:=x2) (b:=s2) (c:=q2) (by rw[go.li]) ⟨w3,fun H4 s4=> ?_⟩))
     have w4:=w3.same s4
     refine⟨x2.ib,x2.di,x2.il,x2.ip,cu s2.state q2,x2.a1,rfl,w4.ib,w4.il,fun l5 H5 YT h5 h6 MJ=> ?_⟩
     rw[←w2.Ci]at h5 h6
     have hq2:q2.length=x2.a1.length-x2.ip:=by rw[w2.Ci,List.length_drop]
     have htl:(q2.take (cu s2.state q2)).length=cu s2.state q2:=by rw[List.length_take];omega
     have ail:=w2.Ij
     have w5:=w4.Y4 (l:=x2.il) (a1:=x2.a1) (ip:=x2.ip+(q2.take (cu s2.state q2)).length) MJ h6 (MJ _ _ w4.il (by simpa using aN w4.il w4.ib (fun e=>nomatch e))) w4.Br (by omega)
     have eq5:x2.a1.drop (x2.ip+(q2.take (cu s2.state q2)).length)=q2.drop (cu s2.state q2):=by rw[←List.drop_drop,←w2.Ci,htl]
     rw[eq5]at w5
     obtain⟨x6,h6e,go6⟩:∃x6:La,x6.ev=x2.ev∧fH A H x H5 x6 s2 (q2.drop (cu s2.state q2)):=⟨{x2 with il:=x2.il,ip:=x2.ip+(q2.take (cu s2.state q2)).length,a1:=x2.a1},rfl,go.trans (fH.trans (fH.same w2 (s3.trans s4)) ⟨w5,rfl,rfl,Cz.kp (MJ.one (by simp))⟩)⟩
     refine⟨x6,s2,q2.drop (cu s2.state q2),q2.take (cu s2.state q2),l5,by rw[go6.li],go6.w,ok2,hs2,hp2,h5,?_,fun z hz=>hlt2 z (List.mem_of_mem_take hz),fun h1=> ?_,fun h3=> ?_,fun x7 H7 Wk=> ?_⟩
     ·rw[h6e]
      exact(ao w4.ev YT).symm
     ·rw[htl,h1]
      rfl
     ·rw[h3]at c2 ⊢
      exact X3 c2
     ·have okp:=Xo ok2 hs2 hp2 (q2.take (cu s2.state q2))
      have ppd:=Ss hp2 (q2.take (cu s2.state q2))
      by_cases e4:(dG s2 (q2.take (cu s2.state q2))).state=4
      ·rw[if_pos e4]at Wk
       refine⟨0,by omega,x7,_,[],rfl,go6.trans Wk,okp,ppd,fun z hz=>by simp at hz,?_,fun _=>rfl,rfl⟩
       rw[hf,ef,xn e4]
       rfl
      ·rw[if_neg e4]at Wk
       refine aC ?_ ⟨x7,⟨_,q2.drop (cu s2.state q2),rfl,go6.trans Wk,okp,ppd,fun z hz=>hlt2 z (List.mem_of_mem_drop hz),?_,fun h=>absurd h e4,rfl⟩⟩
       ·rw[List.length_drop];omega
       ·rw[hf,ef]
    ·have c2:q2.length<cu s2.state q2:=by omega
     have es: {s2 with pending:= []}=s2:=by rw[←hp2]
     have ee:=Ra hs2 c2
     rw[es]at ee
     rw[hf,ee]at k
     exact k x2 H3 ((go.trans (fH.same w2 s3)).pend q2) (O5 ok2 c2) hlt2
   ·rw[aH]at c
    have h44:s2.state=4:=by omega
    have hq:=h4 h44
    subst hq
    have hf:fin=s2:=hf
    rw[hf,hp2]at k
    exact k x2 H2 go ok2 hlt2
structure SW(A:bB)(H:Hp)(se ds:Addr)(x:La)(s:Sw32.St):Prop where
 so:H se=some (Io A.bR bK ds [.ref x.ca,.ref x.li])
 w:LW A H x s s.pending
 ok:Ok s
 lt:∀z ∈ s.pending,z<256
 ns:se ∉ x.cells
theorem SW.next {A:bB} {H H':Hp} {se ds:Addr} {x x':La} {s s':Sw32.St} (S:SW A H se ds x s) (g:fH A H x H' x' s' s'.pending) (ok:Ok s') (lt:∀z ∈ s'.pending,z<256):SW A H' se ds x' s':=by
 obtain⟨h1,h2⟩:=g.fr se _ S.so S.ns
 exact⟨by rw[g.ca,g.li];exact h1,g.w,ok,lt,h2⟩
theorem SW.same {A:bB} {H H':Hp} {se ds:Addr} {x:La} {s:Sw32.St} (S:SW A H se ds x s) (k:bu H H'):SW A H' se ds x s:=⟨k _ _ S.so,S.w.same k,S.ok,S.lt,S.ns⟩
theorem Ro{cs:List (List Nat)}{x y k:Nat}{chunk:Nat→List Nat}(h:∀row ∈ cs,∀c ∈ row,c<16777216)(hc:∀i,∀c ∈ chunk i,c<16777216):∀row ∈ putAll cs x y k chunk,∀c ∈ row,c<16777216:=by
 intro row hr c Ti
 obtain⟨j,hj⟩:=List.mem_iff_getElem?.mp hr
 unfold putAll at hj
 rw[jg]at hj
 cases e:cs[j]? with
 | none=>rw[e]at hj;cases hj
 | some r0=>
  rw[e]at hj
  have hm:=List.mem_of_getElem? e
  have hj:(if y≤j∧j<y+k then pR r0 x (chunk (j-y))else r0)=row:=Option.some.inj hj
  split at hj
  ·rw[←hj]at Ti
   unfold pR at Ti
   rcases List.mem_append.mp Ti with Ti | Ti
   ·rcases List.mem_append.mp Ti with Ti | Ti
    ·exact h r0 hm c (List.mem_of_mem_take Ti)
    ·exact hc _ c Ti
   ·exact h r0 hm c (List.mem_of_mem_drop Ti)
  ·rw[←hj]at Ti
   exact h r0 hm c Ti
theorem xJ(s:Sw32.Screen)(a b c d:Int):Sw32.inside s a b c d=decide (0≤a∧0≤b∧1≤c∧1≤d∧a+c≤(s.w:Int)∧b+d≤(s.h:Int)):=by
 unfold Sw32.inside
 rw[Bool.eq_iff_iff]
 simp
noncomputable def Hf(A:bB):Sp:=fun vs H Q _=>∃(p dx:Addr),vs= [.ref p]∧H p=some (Io A.bR bK dx [])∧Q .non (upd H p (Io A.bR bK dx [.non,.non]))
theorem uH:aF ["self"] ["self"] (aB qC):=⟨rfl,rfl,rfl,by decide +kernel,rfl,by decide +kernel,by decide +kernel⟩
theorem FT{A:bB}(T:Txt K mg A):dZ P w K mg base 1 A.iD ["self"] (Hf A):=by
 refine T.iD.ok uH (fun vs H Q E h=> ?_) (fun cdv Ar outer s H vs Q E hr h=> ?_)
 ·obtain⟨p,dx,rfl,_⟩:=h
  rfl
 ·obtain⟨p,dx,rfl,hp,k⟩:=h
  have nd:=uH.nd
  refine⟨_,(ak (dw T.bT 0 (pv 0) gP)
   (au (dw T.bT 1 (pv 0) gP))),?_⟩
  refine aC rfl (lJ rfl hp rfl ?_)
  refine aC rfl (lJ rfl aj rfl ?_)
  rw[bM]
  exact k
noncomputable def Hg(A:bB):Sp:=fun vs H Q _=>∃(se ds:Addr)(x:La)(s0:Sw32.St)(a b c d:Int)(col:Nat),vs= [.ref se,.int a,.int b,.int c,.int d,.int (col:Int)]∧SW A H se ds x s0∧(Sw32.inside s0.screen a b c d=false→∀H',bu H H'→Q (.int (-1)) H')∧(Sw32.inside s0.screen a b c d=true→∀x' H',fH A H x H' x' (Sw32.tells {s0 with screen:=Sw32.painted s0.screen ⟨a.toNat,b.toNat,c.toNat,d.toNat⟩ fun _=>col}) s0.pending→Q (.int 0) H')
theorem uI:aF ["self","x","y","w","h","color","box"] ["self","x","y","w","h","color"] (aB qD):=⟨rfl,rfl,rfl,by decide +kernel,rfl,by decide +kernel,by decide +kernel⟩
theorem FW{A:bB}(T:Txt K mg A):dZ P w K mg base 9 A.iG ["self","x","y","w","h","color"] (Hg A):=by
 refine T.iG.ok uI (fun vs H Q E h=> ?_) (fun cdv Ar outer s H vs Q E hr h=> ?_)
 ·obtain⟨se,ds,x,s0,a,b,c,d,col,rfl,_⟩:=h
  rfl
 ·obtain⟨se,ds,x,s0,a,b,c,d,col,rfl,S,kf,kt⟩:=h
  have nd:=uI.nd
  have w:=S.w
  rw[xJ]at kf kt
  refine⟨_,(ak (aQ (i:=6) nd rfl (Or.inl rfl) (vI T.dD T.Hy (nH T) (hr.mono (by decide)) rfl (aa (pv 1) (aa (pv 2) (aa (pv 3) (aa (pv 4) aq))))))
   (ak (bC (mV (oF (dJ T.bV T.eQ (nJ T) (hr.mono (by decide)) (bc T.bT 0 (pv 0)) (aa (pv 6) aq))))
    (au (aG (bD T.fO))) aM)
   (ak (aR (dJ T.bV T.jk (GD T) (hr.mono (by decide)) (bc T.bT 0 (pv 0)) (aa (pv 6) (aa (bf T8 (pv 5) (bD T.DQ)) aq))))
   (ak (aR (cY T.aY T.cJ (gO T) (hr.mono (by decide)) (bc T.bT 1 (pv 0))))
   (au (aG (bD T.DN))))))),?_⟩
  refine aC rfl (aC rfl (aC rfl (aC rfl (fun p dx hp hdx hne=>⟨p,dx,_,_,_,_,rfl,aj,rfl,?_⟩))))
  rw[bM]
  have s1:bu H (upd (upd H dx (.own p)) p (gh A dx a b c d)):=fun z o e=>oth (ao e hp) (old hdx e)
  have b1:upd (upd H dx (.own p)) p (gh A dx a b c d) p=some (gh A dx a b c d):=aj
  dsimp only[kZ]
  generalize upd (upd H dx (.own p)) p (gh A dx a b c d)=H1 at *
  have S1:=S.same s1
  apply cz S1.so;rfl;rfl
  refine vU rfl ⟨S1.w.can.ob,_,rfl,x.ev,x.ca,x.dc,x.ra,x.ma,p,dx,s0.screen.w,s0.screen.h,a,b,c,d,x.cs,x.ms,rfl,S1.w.can,b1,_,rfl,qQ (fun cc=> ?_) fun cc=> ?_⟩
  ·exact kf (decide_eq_false cc) H1 s1
  ·have kt:=kt (decide_eq_true cc)
   obtain⟨a,rfl⟩:∃n:Nat,a=(n:Int):=⟨a.toNat,by omega⟩
   obtain⟨b,rfl⟩:∃n:Nat,b=(n:Int):=⟨b.toNat,by omega⟩
   obtain⟨c,rfl⟩:∃n:Nat,c=(n:Int):=⟨c.toNat,by omega⟩
   obtain⟨d,rfl⟩:∃n:Nat,d=(n:Int):=⟨d.toNat,by omega⟩
   simp only[Int.toNat_natCast]at kt
   apply cz S1.so;rfl;rfl
   refine⟨_,_,_,rfl,S1.w.can.ob,_,rfl,_,rfl,_,_,rfl,rfl,(by decide:(0 :Int)<16777216),x.ev,x.ca,x.dc,x.ra,x.ma,p,dx,s0.screen.w,s0.screen.h,a,b,c,d,col % 16777216,x.cs,x.ms,by rw[Int.natCast_emod];rfl,S1.w.can,⟨_,S1.w.ev⟩,b1,by omega,by omega,fun H2 lN c2=> ?_⟩
   have hd2:=yw (s:=s0.screen) (r:=⟨a,b,c,d⟩) (color:=fun _=>col) (chunk:=fun _=>List.replicate c (col % 16777216)) w.held (by show a+c≤_;omega) (by show b+d≤_;omega) (fun _ _=>List.length_replicate) (fun i j hi hj=>by
    rw[List.getElem?_replicate,if_pos hj])
   have w2:=S1.w.PK (sc:=Sw32.painted s0.screen ⟨a,b,c,d⟩ fun _=>col) lN rfl rfl c2 hd2 (Ro w.col fun i z hz=>by rw[List.eq_of_mem_replicate hz];omega)
   obtain⟨x2,go2⟩:∃x2,fH A H x H2 x2 {s0 with screen:=Sw32.painted s0.screen ⟨a,b,c,d⟩ fun _=>col} s0.pending:=⟨_,(fH.same w s1).trans ⟨w2,rfl,rfl,Cz.kp (lN.more fun z hz=>by simp at hz;rcases hz with hz | hz<;>simp[hz])⟩⟩
   obtain⟨so2,_⟩:=go2.fr se _ S.so S.ns
   apply cz so2;rfl;rfl
   refine vU rfl ⟨go2.li▸go2.w.lo,x2,_,s0.pending,by rw[go2.li],go2.w,qP S.ok _ _,fun x3 H3 Rn=> ?_⟩
   exact kt x3 H3 (go2.trans Rn)
noncomputable def J6(A:bB):Sp:=fun vs H Q _=>∃(se ds l:Addr)(x:La)(s0:Sw32.St)(a b c d:Int)(cols:List Nat),vs= [.ref se,.int a,.int b,.int c,.int d,.ref l]∧SW A H se ds x s0∧H l=some (.lst (nv cols))∧cols.length≤307200∧(Sw32.inside s0.screen a b c d=true→(cols.length:Int)=c*d)∧(Sw32.inside s0.screen a b c d=false→∀H',bu H H'→Q (.int (-1)) H')∧(Sw32.inside s0.screen a b c d=true→∀x' H',fH A H x H' x' (Sw32.tells {s0 with screen:=Sw32.painted s0.screen ⟨a.toNat,b.toNat,c.toNat,d.toNat⟩ fun i=>cols.getD i 0}) s0.pending→Q (.int 0) H')
theorem wB:aF ["self","x","y","w","h","colors","box","color"] ["self","x","y","w","h","colors"] (aB nZ):=⟨rfl,rfl,rfl,by decide +kernel,rfl,by decide +kernel,by decide +kernel⟩
theorem Hh{A:bB}(T:Txt K mg A):dZ P w K mg base 9 A.ju ["self","x","y","w","h","colors"] (J6 A):=by
 refine T.ju.ok wB (fun vs H Q E h=> ?_) (fun cdv Ar outer s H vs Q E hr h=> ?_)
 ·obtain⟨se,ds,l,x,s0,a,b,c,d,cols,rfl,_⟩:=h
  rfl
 ·obtain⟨se,ds,l,x,s0,a,b,c,d,cols,rfl,S,hl,hll,hlen,kf,kt⟩:=h
  have nd:=wB.nd
  have w:=S.w
  rw[xJ]at kf kt hlen
  refine⟨_,(ak (aQ (i:=6) nd rfl (Or.inl rfl) (vI T.dD T.Hy (nH T) (hr.mono (by decide)) rfl (aa (pv 1) (aa (pv 2) (aa (pv 3) (aa (pv 4) aq))))))
   (ak (bC (mV (oF (dJ T.bV T.eQ (nJ T) (hr.mono (by decide)) (bc T.bT 0 (pv 0)) (aa (pv 6) aq))))
    (au (aG (bD T.fO))) aM)
   (ak (aR (dJ T.bV T.jQ (JM T) (hr.mono (by decide)) (bc T.bT 0 (pv 0)) (aa (pv 6) (aa (xW rfl nd (ik (pv 5)) (gj (own:= [("color",7)]) (show xY ["self","x","y","w","h","colors","box","color"] (aB nZ) _ _=true by decide +kernel)) (fun _ _ _ _ _=>(aX (i:=7) nd rfl (Or.inl rfl) (Or.inr rfl))) (fun _ _ _ _ _=>jz) (fun _ _ _ _ _=>(bf T8 (pv 7) (bD T.DQ)))) aq))))
   (ak (aR (cY T.aY T.cJ (gO T) (hr.mono (by decide)) (bc T.bT 1 (pv 0))))
   (au (aG (bD T.DN))))))),?_⟩
  refine aC rfl (aC rfl (aC rfl (aC rfl (fun p dx hp hdx hne=>⟨p,dx,_,_,_,_,rfl,aj,rfl,?_⟩))))
  rw[bM]
  have s1:bu H (upd (upd H dx (.own p)) p (gh A dx a b c d)):=fun z o e=>oth (ao e hp) (old hdx e)
  have b1:upd (upd H dx (.own p)) p (gh A dx a b c d) p=some (gh A dx a b c d):=aj
  dsimp only[kZ]
  generalize upd (upd H dx (.own p)) p (gh A dx a b c d)=H1 at *
  have S1:=S.same s1
  apply cz S1.so;rfl;rfl
  refine vU rfl ⟨S1.w.can.ob,_,rfl,x.ev,x.ca,x.dc,x.ra,x.ma,p,dx,s0.screen.w,s0.screen.h,a,b,c,d,x.cs,x.ms,rfl,S1.w.can,b1,_,rfl,qQ (fun cc=> ?_) fun cc=> ?_⟩
  ·exact kf (decide_eq_false cc) H1 s1
  ·have kt:=kt (decide_eq_true cc)
   have hln:=hlen (decide_eq_true cc)
   obtain⟨a,rfl⟩:∃n:Nat,a=(n:Int):=⟨a.toNat,by omega⟩
   obtain⟨b,rfl⟩:∃n:Nat,b=(n:Int):=⟨b.toNat,by omega⟩
   obtain⟨c,rfl⟩:∃n:Nat,c=(n:Int):=⟨c.toNat,by omega⟩
   obtain⟨d,rfl⟩:∃n:Nat,d=(n:Int):=⟨d.toNat,by omega⟩
   simp only[Int.toNat_natCast]at kt
   have hlen:cols.length=c*d:=by exact_mod_cast hln
   apply cz S1.so;rfl;rfl
   refine jM rfl S1.w.can.ob (aC rfl (aC rfl (cW (a:=l) rfl ⟨_,bj.of (s1 _ _ hl)⟩ (fun D hD=> ?_))))
   refine xX (xs:=nv cols) (fun i H2=>bu H1 H2∧H2 D=some (.lst (nv ((cols.take i).map (· % 16777216))))) ⟨az hD,aj⟩ (fun i H2 _ ⟨s2,_⟩=>bj.of (s2 _ _ (s1 _ _ hl))) ?_ ?_
   ·rintro i v H2 hi ⟨s2,hd⟩
    obtain⟨n,hn,rfl⟩:=uf hi
    have il:i<cols.length:=(List.getElem?_eq_some_iff.mp hn).1
    refine⟨rfl,aC rfl (nR rfl rfl (by decide:(0 :Int)<16777216) (e13 hd (by rw[aD,List.length_map,List.length_take,dO];omega) (fun z o e=>oth (ao e hD) (s2 _ _ e)) ?_))⟩
    rw[aj,take_snoc hn,List.map_append,bG]
    rfl
   ·rintro H2 ⟨s2,hd⟩
    rw[aD,List.take_length]at hd
    have S2:=S1.same s2
    have b2:=s2 _ _ b1
    refine⟨x.ev,x.ca,x.dc,x.ra,x.ma,p,dx,D,s0.screen.w,s0.screen.h,a,b,c,d,cols.map (· % 16777216),x.cs,x.ms,rfl,S2.w.can,⟨_,S2.w.ev⟩,b2,by omega,by omega,hd,by rw[List.length_map,hlen],fun H3 ig c3=> ?_⟩
    have hle:∀i,i<d→i*c+c≤c*d:=fun i hi=>by
     have:(i+1)*c≤d*c:=Nat.mul_le_mul_right _ hi
     rw[Nat.add_mul,Nat.one_mul,Nat.mul_comm d c]at this
     exact this
    have hd3:=yw (s:=s0.screen) (r:=⟨a,b,c,d⟩) (color:=fun i=>cols.getD i 0) (chunk:=fun i=>((cols.map (· % 16777216)).drop (i*c)).take c) w.held (by show a+c≤_;omega) (by show b+d≤_;omega) (fun i hi=>by
     have:=hle i hi
     rw[List.length_take,List.length_drop,List.length_map,hlen]
     show min c _=c
     omega) (fun i j hi hj=>by
     have:=hle i hi
     have hj:j<c:=hj
     rw[List.getElem?_take_of_lt hj,List.getElem?_drop,List.getElem?_map]
     obtain⟨n,hn⟩:=pB (l:=cols) (i:=i*c+j) (by rw[hlen];omega)
     show Option.map (· % 16777216) cols[i*c+j]? =some (cols.getD (c*i+j) 0 % 2 ^ 24)
     rw[Nat.mul_comm c i,List.getD_eq_getElem?_getD,hn]
     rfl)
    have w3:=S2.w.PK (sc:=Sw32.painted s0.screen ⟨a,b,c,d⟩ fun i=>cols.getD i 0) ig rfl rfl c3 hd3 (Ro w.col fun i z hz=>by
     obtain⟨y,_,rfl⟩:=List.mem_map.mp (List.mem_of_mem_drop (List.mem_of_mem_take hz))
     exact Nat.mod_lt _ (by decide))
    obtain⟨x4,yZ⟩:∃x4,fH A H x H3 x4 {s0 with screen:=Sw32.painted s0.screen ⟨a,b,c,d⟩ fun i=>cols.getD i 0} s0.pending:=⟨_,(fH.same w (s1.trans s2)).trans ⟨w3,rfl,rfl,Cz.kp (ig.more fun z hz=>by simp at hz;rcases hz with hz | hz<;>simp[hz])⟩⟩
    obtain⟨so4,_⟩:=yZ.fr se _ S.so S.ns
    apply cz so4;rfl;rfl
    refine vU rfl ⟨yZ.li▸yZ.w.lo,x4,_,s0.pending,by rw[yZ.li],yZ.w,qP S.ok _ _,fun x5 H5 Wj=> ?_⟩
    exact kt x5 H5 (yZ.trans Wj)
noncomputable def Hi(A:bB):Sp:=fun vs H Q _=>∃(se ds l:Addr)(x:La)(s0:Sw32.St)(b:List Nat),vs= [.ref se,.ref l]∧SW A H se ds x s0∧H l=some (.lst (nv b))∧(∀z ∈ b,z<256)∧b.length≤65535∧∀x' H',fH A H x H' x' (b.foldl Sw32.byte s0) (b.foldl Sw32.byte s0).pending→Ok (b.foldl Sw32.byte s0)→(∀z ∈ (b.foldl Sw32.byte s0).pending,z<256)→Q (.int ((b.foldl Sw32.byte s0).state:Nat)) H'
theorem uJ:aF ["self","octets"] ["self","octets"] (aB qF):=⟨rfl,rfl,rfl,by decide +kernel,rfl,by decide +kernel,by decide +kernel⟩
theorem FZ{A:bB}(T:Txt K mg A):dZ P w K mg base 12 A.iH ["self","octets"] (Hi A):=by
 refine T.iH.ok uJ (fun vs H Q E h=> ?_) (fun cdv Ar outer s H vs Q E hr h=> ?_)
 ·obtain⟨se,ds,l,x,s0,b,rfl,_⟩:=h
  rfl
 ·obtain⟨se,ds,l,x,s0,b,rfl,S,hl,hlt,Gn,k⟩:=h
  have nd:=uJ.nd
  refine⟨_,(ak (aR (cC (J5 T) (hr.mono (by decide)) T.jX rfl (aa (bc T.bT 1 (pv 0)) (aa (pv 1) aq))))
   (au (aG (bc T.aY 2 (bc T.bT 1 (pv 0)))))),?_⟩
  apply cz S.so;rfl;rfl
  refine aC rfl (e47 (a:=x) (b:=s0) (c:=b) (d:=l) rfl S.w S.ok hl hlt S.lt Gn (fun x' H' go ok' lt'=> ?_))
  obtain⟨so',_⟩:=go.fr se _ S.so S.ns
  exact aC rfl (YK rfl ⟨so',rfl,_,_,_,_,rfl,go.li▸go.w.lo,rfl,k x' H' go ok' lt'⟩)
noncomputable abbrev iv(l:List Int):List V:=l.map V.int
theorem LW.cell {A:bB} {H:Hp} {x:La} {s:Sw32.St} {q:List Nat} (w:LW A H x s q) {b:Addr} (h:b ∈ x.cells):∃o,H b=some o:=by
 obtain⟨rs,hr,_⟩:=w.VB
 obtain⟨kvs,hk,_⟩:=w.fm.kn
 simp only[La.cells,List.mem_cons,List.not_mem_nil,or_false]at h
 rcases h with rfl | rfl | rfl | rfl | rfl | rfl | rfl
 ·exact⟨_,w.lo⟩
 ·exact⟨_,hr⟩
 ·exact⟨_,w.can.yG⟩
 ·exact⟨_,w.ib⟩
 ·exact⟨_,w.ob⟩
 ·exact⟨_,w.ev⟩
 ·exact⟨_,hk⟩
theorem LW.fresh {A:bB} {H:Hp} {x:La} {s:Sw32.St} {q:List Nat} (w:LW A H x s q) {b:Addr} (h:H b=none):b ∉ x.cells:=fun m=>by
 obtain⟨o,e⟩:=w.cell m
 rw[h]at e
 cases e
noncomputable abbrev Apart(H:Hp)(F:List Addr)(l:Addr):Prop:=∀b o,H b=some o→b ∉ F→b≠l
theorem fH.apart {A:bB} {H H':Hp} {x x':La} {s:Sw32.St} {q:List Nat} (g:fH A H x H' x' s q) {l:Addr} (h:H' l=none):Apart H x.cells l:=fun b o e n=>ao (g.fr b o e n).1 h
noncomputable def Cm(A:bB):Sp:=fun vs H Q _=>∃(se ds:Addr)(x:La)(s0:Sw32.St)(m:Int),vs= [.ref se,.int m]∧SW A H se ds x s0∧(¬(0≤m∧m≤2097152)→∀l H',bu H H'→H l=none→H' l=some (.lst (iv [-1]))→Q (.ref l) H')∧((0≤m∧m≤2097152)→∀l x' H',fH A H x H' x' (Sw32.tells {s0 with out:=s0.out.drop m.toNat}) s0.pending→Apart H x.cells l→l ∉ x'.cells→H' l=some (.lst (nv ((s0.out.take m.toNat).length::s0.out.take m.toNat)))→Q (.ref l) H')
theorem p8:aF ["self","most","octets"] ["self","most"] (aB mZ):=⟨rfl,rfl,rfl,by decide +kernel,rfl,by decide +kernel,by decide +kernel⟩
theorem Ah{A:bB}(T:Txt K mg A):dZ P w K mg base 10 A.fM ["self","most"] (Cm A):=by
 refine T.fM.ok p8 (fun vs H Q E h=> ?_) (fun cdv Ar outer s H vs Q E hr h=> ?_)
 ·obtain⟨se,ds,x,s0,m,rfl,_⟩:=h
  rfl
 ·obtain⟨se,ds,x,s0,m,rfl,S,kf,kt⟩:=h
  have nd:=p8.nd
  refine⟨_,(ak (bC (PW.pt (vD (aJ xR (pv 1) aA (aP _)) (wD (aJ Ak (pv 1) (bD T.vQ) (aP _)))))
    (au (aG (cG (aa (bD T.fO) aq)))) aM)
   (ak (aQ (i:=2) nd rfl (Or.inl rfl) (dJ T.aY T.iy (Fx T) (hr.mono (by decide)) (bc T.bT 1 (pv 0)) (aa (pv 1) aq)))
   (au (aG (bf iQ (cG (aa (bO bA rfl T.gM PySem.boot_len (aa (pv 2) aq)) aq)) (pv 2)))))),?_⟩
  have bad:¬(0≤m∧m≤2097152)→Zr (ZG (Ku (tC (.int (-1))) N7)) {nx:=fun x H'=>Q .non H',rt:=Q} [some (.ref se),some (.int m),none] H:=fun c=>⟨by rw[dO];simp,fun l hl=>kf c l _ (az hl) hl aj⟩
  refine aC rfl (cP rfl rfl (aC rfl (bJ (fun c=>Dl (bad (by omega))) fun c1=> ?_)))
  refine aC rfl (cP rfl rfl (aC rfl (bJ (fun c=>bad (by omega)) fun c2=> ?_)))
  have kt:=kt (by omega)
  obtain⟨m,rfl⟩:∃n:Nat,m=(n:Int):=⟨m.toNat,by omega⟩
  simp only[Int.toNat_natCast]at kt
  have hol:=S.ok.out
  apply cz S.so;rfl;rfl
  refine vU rfl ⟨S.w.lo,_,rfl,x,s0,s0.pending,m,rfl,S.w,S.ok,fun l x' H' go hl hlc=> ?_⟩
  refine aC rfl (nR (a:=l) rfl (.inl (bj.of hl)) (by rw[dO];simp) (fun t ht=> ?_))
  refine aC rfl (Em (a:=t) (b:=l) rfl rfl aj (old ht hl) (by rw[aD,List.length_singleton,List.length_take,dO];omega) (fun z hz=> ?_))
  obtain⟨hz1,hzt⟩:=aU hz
  refine kt z x' _ (go.trans (fH.same go.w ((az (q:= .lst [V.int (((nv (s0.out.take m)).length:Nat):Int)]) ht).trans (az (q:= .lst ([V.int (((nv (s0.out.take m)).length:Nat):Int)] ++ nv (s0.out.take m))) hz)))) (go.apart hz1) (go.w.fresh hz1) ?_
  rw[aj,aD]
  rfl
noncomputable def Gd(A:bB):Sp:=fun vs H Q _=>∃(se ds:Addr)(x:La)(s0:Sw32.St)(m:Int),vs= [.ref se,.int m]∧SW A H se ds x s0∧(∀v:Int,(¬(0≤m∧m≤4096)∧v= -1)∨((0≤m∧m≤4096)∧s0.events= []∧v= -2)∨((0≤m∧m≤4096)∧(∃e r,s0.events=e::r∧m<((j6 e).length:Int))∧v= -6)→∀l H',bu H H'→H l=none→H' l=some (.lst (iv [v]))→Q (.ref l) H')∧(∀e r,(0≤m∧m≤4096)→s0.events=e::r→¬m<((j6 e).length:Int)→∀l x' H',fH A H x H' x' {s0 with events:=r} s0.pending→Apart H x.cells l→l ∉ x'.cells→H' l=some (.lst (nv ((j6 e).length::(j6 e++Ad e))))→Q (.ref l) H')
theorem rT:aF ["self","most","first","text"] ["self","most"] (aB oY):=⟨rfl,rfl,rfl,by decide +kernel,rfl,by decide +kernel,by decide +kernel⟩
theorem Cp{A:bB}(T:Txt K mg A):dZ P w K mg base 2 A.gH ["self","most"] (Gd A):=by
 refine T.gH.ok rT (fun vs H Q E h=> ?_) (fun cdv Ar outer s H vs Q E hr h=> ?_)
 ·obtain⟨se,ds,x,s0,m,rfl,_⟩:=h
  rfl
 ·obtain⟨se,ds,x,s0,m,rfl,S,kf,kt⟩:=h
  have nd:=rT.nd
  have w:=S.w
  refine⟨_,(ak (bC (PW.pt (vD (aJ xR (pv 1) aA (aP _)) (wD (aJ Ak (pv 1) (bD T.yj) (aP _)))))
    (au (aG (cG (aa (bD T.fO) aq)))) aM)
   (ak (aQ (i:=2) nd rfl (Or.inl rfl) (cY T.aY T.d8 (yS T) (hr.mono (by decide)) (bc T.bT 1 (pv 0))))
   (ak (bC (aJ Jb (pv 2) gP (aP _))
    (au (aG (cG (aa (bD T.rD) aq)))) aM)
   (ak (aQ (i:=3) nd rfl (Or.inl rfl) (bL (jC K) (pv 2) aA (fun _ _=>rfl)))
   (ak (bC (aJ Ak (bO bA rfl T.gM PySem.boot_len (aa (pv 3) aq)) (pv 1) (aP _))
    (au (aG (cG (aa (bD T.DP) aq)))) aM)
   (ak (aR (cY T.aY T.fL (Af T) (hr.mono (by decide)) (bc T.bT 1 (pv 0))))
   (au (aG (bf iQ (bf iQ (cG (aa (bO bA rfl T.gM PySem.boot_len (aa (pv 3) aq)) aq)) (pv 3)) (zu qj rfl T.JB PyProof.Rows.boot_list (aa (bL (jC K) (pv 2) aA (fun _ _=>rfl)) aq))))))))))),?_⟩
  have bad:¬(0≤m∧m≤4096)→Zr (ZG (Ku (tC (.int (-1))) N7)) {nx:=fun x H'=>Q .non H',rt:=Q} [some (.ref se),some (.int m),none,none] H:=fun c=>⟨by rw[dO];simp,fun l hl=>kf (-1) (.inl ⟨c,rfl⟩) l _ (az hl) hl aj⟩
  refine aC rfl (cP rfl rfl (aC rfl (bJ (fun c=>Dl (bad (by omega))) fun c1=> ?_)))
  refine aC rfl (cP rfl rfl (aC rfl (bJ (fun c=>bad (by omega)) fun c2=> ?_)))
  have hm:0≤m∧m≤4096:=by omega
  have vA:=w.evs
  apply cz S.so;rfl;rfl
  refine vU rfl ⟨w.lo,x,s0,s0.pending,rfl,w,fun hes=> ?_,fun a es hes=> ?_⟩
  ·rw[hes]at vA
   have he:s0.events= []:=by
    cases h:s0.events with
    | nil=>rfl
    | cons e r=>rw[h]at vA;exact absurd vA.len (by simp)
   refine cW rfl rfl (aC rfl ?_)
   exact⟨by rw[dO];simp,fun l hl=>kf (-2) (.inr (.inl ⟨hm,he,rfl⟩)) l _ (az hl) hl aj⟩
  ·rw[hes]at vA
   cases h:s0.events with
   | nil=>rw[h]at vA;exact absurd vA.len (by simp)
   | cons e r=>
    rw[h]at vA
    obtain⟨nu,tx,h1,h2,h3,h4⟩:=vA.1
    refine cW rfl rfl (aC rfl ?_)
    refine aC rfl (jN (a:=a) rfl rfl (iT.of h1) (aV (j:=1) rfl) ?_)
    refine aC rfl (cP (a:=tx) rfl (.inl (bj.of h3)) (aC rfl (cP rfl rfl (aC rfl (bJ (fun c=> ?_) fun c=> ?_)))))
    ·rw[aD]at c
     exact⟨by rw[dO];simp,fun l hl=>kf (-6) (.inr (.inr ⟨hm,⟨e,r,h,c⟩,rfl⟩)) l _ (az hl) hl aj⟩
    ·rw[aD]at c
     have hnl:(Ad e).length=4:=by cases e<;>rfl
     apply cz S.so;rfl;rfl
     refine vU rfl ⟨w.lo,x,s0,s0.pending,e,r,rfl,w,h,fun x' H' go=> ?_⟩
     have k1:=(go.fr a _ h1 (w.imm h1 (yQ _) (aN h1 w.ev (fun e=>nomatch e)))).1
     have k2:=(go.fr nu _ h2 (w.imm h2 (yQ _) (aN h2 w.ev (fun e=>nomatch e)))).1
     have k3:=(go.fr tx _ h3 (w.imm h3 (cI _) h4)).1
     refine aC rfl (nR (a:=tx) rfl (.inl (bj.of k3)) (by rw[dO];simp) (fun t1 g1=> ?_))
     refine aC rfl (Em (a:=t1) (b:=tx) rfl rfl aj (old g1 k3) (by rw[aD,dO,List.length_singleton];omega) (fun t2 g2=> ?_))
     refine aC rfl (jN (a:=a) rfl rfl (iT.of (old g2 (old g1 k1))) (aV (j:=0) rfl) (cP (a:=nu) rfl (.inr (iT.of (old g2 (old g1 k2)))) (fun t3 g3=> ?_)))
     refine Em (a:=t2) (b:=t3) rfl rfl (old g3 aj) aj (by rw[List.length_append,aD,aD,dO,List.length_singleton];omega) (fun z hz=> ?_)
     obtain⟨z3,_⟩:=aU hz
     obtain⟨z2,_⟩:=aU z3
     obtain⟨z1,_⟩:=aU z2
     refine kt e r hm h c z x' _ (go.trans (fH.same go.w (((az g1).trans (az g2)).trans (az g3) |>.trans (az hz)))) (go.apart z1) (go.w.fresh z1) ?_
     rw[aj,aD]
     simp[nv]
noncomputable def Hj(A:bB):Sp:=fun vs H Q _=>∃(se ds:Addr)(x:La)(s0:Sw32.St),vs= [.ref se]∧SW A H se ds x s0∧∀l H',bu H H'→H l=none→H' l=some (.lst (nv [0,s0.state,s0.out.length,s0.events.length,(s0.screen.changed.filter id).length]))→Q (.ref l) H'
theorem uK:aF ["self","line"] ["self"] (aB qG):=⟨rfl,rfl,rfl,by decide +kernel,rfl,by decide +kernel,by decide +kernel⟩
theorem Ge{A:bB}(T:Txt K mg A):dZ P w K mg base 2 A.iI ["self"] (Hj A):=by
 refine T.iI.ok uK (fun vs H Q E h=> ?_) (fun cdv Ar outer s H vs Q E hr h=> ?_)
 ·obtain⟨se,ds,x,s0,rfl,_⟩:=h
  rfl
 ·obtain⟨se,ds,x,s0,rfl,S,k⟩:=h
  have nd:=uK.nd
  have w:=S.w
  have hel:x.es.length=s0.events.length:=w.evs.len
  refine⟨_,(ak (aQ (i:=1) nd rfl (Or.inl rfl) (bc T.bT 1 (pv 0)))
   (au (aG (cG (aa (bD T.DN) (aa (bc T.aY 2 (pv 1)) (aa (cY T.gk T.jm (uh T) (hr.mono (by decide)) (bc T.aY 5 (pv 1))) (aa (bO bA rfl T.gM PySem.boot_len (aa (bc T.aY 6 (pv 1)) aq)) (aa (cY T.bV T.cN (qR T) (hr.mono (by decide)) (bc T.bT 0 (pv 0))) aq))))))))),?_⟩
  refine aC rfl (vy rfl S.so rfl ?_)
  apply cz w.lo;rfl;rfl
  apply cz w.lo;rfl;rfl
  refine vU rfl ⟨w.ob,x.ob,x.YX,x.ol,x.op,x.a2,rfl,w.ob,w.ol,w.Gp,?_⟩
  apply cz w.lo;rfl;rfl
  refine⟨x.ev,cW rfl (.inl (bj.of w.ev)) ?_⟩
  apply cz S.so;rfl;rfl
  refine vU rfl ⟨w.can.ob,x.ev,x.ca,x.dc,x.ra,x.ma,s0.screen.w,s0.screen.h,x.cs,x.ms,rfl,w.can,fun H1 s1=> ?_⟩
  refine⟨by rw[dO];simp,fun l hl=> ?_⟩
  have hlH:H l=none:=by
   by_cases q:H l=none
   ·exact q
   ·obtain⟨o,ho⟩:=Option.ne_none_iff_exists'.mp q
    rw[s1 _ _ ho]at hl
    cases hl
  refine k l _ (s1.trans (az hl)) hlH ?_
  rw[aj,O3 w.held,List.length_map,hel,←w.out]
  rfl
noncomputable def Gf(A:bB):Sp:=fun vs H Q _=>∃(se ds nm:Addr)(v1 v2:V)(w h:Int)(name:List Nat),vs= [.ref se,.int w,.int h,.ref nm]∧H se=some (Io A.bR bK ds [v1,v2])∧H nm=some (.lst (nv name))∧(¬(1≤w∧w≤640∧1≤h∧h≤480)→∀H',bu H H'→Q (.int (-1)) H')∧((1≤w∧w≤640∧1≤h∧h≤480)→∀x H',LW A H' x (Sw32.first w.toNat h.toNat name) []→H' se=some (Io A.bR bK ds [.ref x.ca,.ref x.li])→Kp [se] H H'→(∀b o,H b=some o→b ∉ x.cells)→Q (.int 0) H')
theorem rW:aF ["self","w","h","name"] ["self","w","h","name"] (aB oX):=⟨rfl,rfl,rfl,by decide +kernel,rfl,by decide +kernel,by decide +kernel⟩
theorem Cq{A:bB}(T:Txt K mg A):dZ P w K mg base 6 A.gG ["self","w","h","name"] (Gf A):=by
 refine T.gG.ok rW (fun vs H Q E h=> ?_) (fun cdv Ar outer s H vs Q E hr h=> ?_)
 ·obtain⟨se,ds,nm,v1,v2,w,h,name,rfl,_⟩:=h
  rfl
 ·obtain⟨se,ds,nm,v1,v2,w,h,name,rfl,hse,hnm,kf,kt⟩:=h
  have nd:=rW.nd
  refine⟨_,(ak (bC (mV (oF (dJ T.dD T.dW (pX T) (hr.mono (by decide)) (vI T.dD T.Hy (nH T) (hr.mono (by decide)) rfl (aa aA (aa aA (aa (pv 1) (aa (pv 2) aq))))) (aa (bD T.Lq) (aa (bD T.Lr) aq)))))
    (au (aG (bD T.fO))) aM)
   (ak (oH T.bT 0 (pv 0) (vI T.bV T.Ln (Gz T) (hr.mono (by decide)) rfl (aa (pv 1) (aa (pv 2) aq))))
   (ak (oH T.bT 1 (pv 0) (vI T.aY T.U4 (M3 T) (hr.mono (by decide)) rfl (aa (bc T.bT 0 (pv 0)) (aa (pv 3) aq))))
   (au (aG (bD T.DN)))))),?_⟩
  refine aC rfl (aC rfl (fun p dx hp hdx hne=>⟨p,dx,_,_,_,_,rfl,aj,rfl,?_⟩))
  rw[bM]
  have s1:bu H (upd (upd H dx (.own p)) p (gh A dx 0 0 w h)):=fun z o e=>oth (ao e hp) (old hdx e)
  have b1:upd (upd H dx (.own p)) p (gh A dx 0 0 w h) p=some (gh A dx 0 0 w h):=aj
  dsimp only
  generalize upd (upd H dx (.own p)) p (gh A dx 0 0 w h)=H1 at *
  refine vU rfl ⟨b1,p,dx,0,0,w,h,640,480,rfl,b1,aC rfl (qQ (fun c=> ?_) fun c=> ?_)⟩
  ·exact kf (by omega) H1 s1
  have c':1≤w∧w≤640∧1≤h∧h≤480:=by omega
  have kt:=kt c'
  obtain⟨w,rfl⟩:∃n:Nat,w=(n:Int):=⟨w.toNat,by omega⟩
  obtain⟨h,rfl⟩:∃n:Nat,h=(n:Int):=⟨h.toNat,by omega⟩
  simp only[Int.toNat_natCast]at kt
  have ack:=s1 _ _ hse
  refine aC rfl (aC rfl (fun ca dc hca hdc hnc=>⟨se,ca,dc,w,h,rfl,aj,⟨_,oth (ao ack hca) (old hdc ack)⟩,by omega,by omega,by omega,by omega,fun ra ma H2 hra hma hrm lN VP=>⟨rfl,?_⟩⟩))
  have k2:Kp [] H1 H2:=fun z o e _=>lN _ _ (oth (ao e hca) (old hdc e)) (by simpa using ao e hca)
  have s2:bu H H2:=s1.trans k2.nil
  refine⟨_,rfl,_,_,_,rfl,s2 _ _ hse,by simp,?_⟩
  have k3:Kp [se] H2 (upd H2 se (Io A.bR bK ds [.ref ca,v2])):=cH
  have so3:upd H2 se (Io A.bR bK ds [.ref ca,v2]) se=some (Io A.bR bK ds [.ref ca,v2]):=aj
  obtain⟨rs,hrs,prs⟩:=id VP.rows
  have nse:∀ {b:Addr}{xs:List V},H2 b=some (.lst xs)→b≠se:=fun e=>aN e (s2 _ _ hse) (fun e=>nomatch e)
  have ae2:Can A se (upd H2 se (Io A.bR bK ds [.ref ca,v2])) ca dc ra ma w h (List.replicate h (List.replicate w 0)) (List.replicate h (List.replicate w true)):=VP.mono (fun o e=>oth (aN VP.ob (s2 _ _ hse) (vm (by simp))) e) (fun o e=>oth (nse hrs) e) (fun o e=>oth (nse VP.yG) e) fun l ns e _=>oth (nse e) e
  have aaD:H1 ra=none:=(aU (aU hra).1).1
  have ae3:H1 ma=none:=(aU (aU hma).1).1
  have nm3:upd H2 se (Io A.bR bK ds [.ref ca,v2]) nm=some (.lst (nv name)):=oth (nse (s2 _ _ hnm)) (s2 _ _ hnm)
  refine⟨_,rfl,_,_,_,_,rfl,so3,rfl,_,rfl,fun li dl hli hdl hnl=>⟨se,li,dl,ca,dc,ra,ma,nm,w,h,name,rfl,aj,ae2.same fun z o e=>oth (ao e hli) (old hdl e),oth (ao nm3 hli) (old hdl nm3),fun x H4 w4 x1 x2 kp4 hfr=>⟨rfl,?_⟩⟩⟩
  have k4:bu (upd H2 se (Io A.bR bK ds [.ref ca,v2])) H4:=fun z o e=>kp4 _ _ (oth (ao e hli) (old hdl e)) (by simpa using ao e hli)
  have so4:=k4 _ _ so3
  refine⟨_,rfl,_,_,_,rfl,so4,by simp,?_⟩
  have Ni:se ∉ x.cells:=hfr se _ (oth (ao so3 hli) (old hdl so3)) (ao so3 hli) (nse hrs).symm (nse VP.yG).symm
  refine kt x _ ?_ ?_ ?_ ?_
  ·refine w4.part (fun b o e im hb=>oth (fun z=> ?_) e) (oth (fun z=>Ni (by simp[z])) w4.lo) (fun o e=>oth (fun z=>Ni (by simp[z])) e) (fun o e=>oth (fun z=>Ni (by simp[z])) e) (oth (fun z=>Ni (by simp[z])) w4.ib) (oth (fun z=>Ni (by simp[z])) w4.ob) (oth (fun z=>Ni (by simp[z])) w4.ev) (fun o e=>oth (fun z=>Ni (by simp[z])) e)
   rw[z,so4]at e
   cases e
   have im:(bK.zip [V.ref ca,v2]).length=4∨(bK.zip [V.ref ca,v2]).length=7:=im
   simp at im
  ·rw[aj,x1,x2]
   rfl
  ·intro b o e n
   exact oth (by simpa using n) (k4 _ _ (k3 _ _ (s2 _ _ e) n))
  ·intro b o e
   by_cases eb:b=se
   ·rw[eb];exact Ni
   ·have e1:=s1 _ _ e
    have e3:=k3 _ _ (s2 _ _ e) (by simpa using eb)
    exact hfr b o (oth (ao e3 hli) (old hdl e3)) (ao e3 hli) (ao e1 aaD) (ao e1 ae3)
noncomputable def J7(A:bB):Sp:=fun vs H Q _=>∃(p dx cl:Addr),vs= [.ref p,.ref cl]∧H p=some (Io A.kE iY dx [])∧Q .non (upd H p (Io A.kE iY dx [.ref cl,.int 0]))
theorem wC:aF ["self","calls"] ["self","calls"] (aB tV):=⟨rfl,rfl,rfl,by decide +kernel,rfl,by decide +kernel,by decide +kernel⟩
theorem Hk{A:bB}(T:Txt K mg A):dZ P w K mg base 1 A.jw ["self","calls"] (J7 A):=by
 refine T.jw.ok wC (fun vs H Q E h=> ?_) (fun cdv Ar outer s H vs Q E hr h=> ?_)
 ·obtain⟨p,dx,cl,rfl,_⟩:=h
  rfl
 ·obtain⟨p,dx,cl,rfl,hp,k⟩:=h
  have nd:=wC.nd
  refine⟨_,(ak (dw T.cB 0 (pv 0) (pv 1))
   (au (dw T.cB 1 (pv 0) aA))),?_⟩
  refine aC rfl (aC rfl (lJ rfl hp rfl ?_))
  refine aC rfl (lJ rfl aj rfl ?_)
  rw[bM]
  exact k
noncomputable def BJ(A:bB)(H:Hp)(cl:Addr)(cs:List Int)(F:List Addr):Prop:=(Rd H cl (.lst (iv cs))∧cl ∉ F)∨∀H':Hp,bj A.kk H' cl (iv cs)
theorem BJ.sq {A:bB} {H:Hp} {cl:Addr} {cs:List Int} {F:List Addr} (h:BJ A H cl cs F):bj A.kk H cl (iv cs):=by
 rcases h with ⟨h,_⟩ | h
 ·exact .inl h
 ·exact h H
theorem BJ.go {A:bB} {H H':Hp} {cl:Addr} {cs:List Int} {F F':List Addr} (h:BJ A H cl cs F) (fr:∀o,H cl=some o→((∃ys,o= .lst ys)∨∃q ys,o= .vB q (.lst ys))→cl ∉ F→H' cl=some o∧cl ∉ F'):BJ A H' cl cs F':=by
 rcases h with ⟨h,n⟩ | h
 ·rcases h with h | ⟨q,h⟩
  ·obtain⟨a,b⟩:=fr _ h (.inl ⟨_,rfl⟩) n
   exact .inl ⟨.inl a,b⟩
  ·obtain⟨a,b⟩:=fr _ h (.inr ⟨_,_,rfl⟩) n
   exact .inl ⟨.inr ⟨q,a⟩,b⟩
 ·exact .inr h
theorem Qk{K:PySem.W.Frag}{H:Hp}{p C d cl:Addr}{fs:List (Str × V)}{xs:List V}{o:HO}(h:bj K H cl xs)(hp:H p=some (.ins C d fs)):bj K (upd H p o) cl xs:=by
 rcases h with h | h
 ·rcases h with h | ⟨q,h⟩
  ·exact .inl (.inl (oth (aN h hp (fun e=>nomatch e)) h))
  ·exact .inl (.inr ⟨q,oth (aN h hp (fun e=>nomatch e)) h⟩)
 ·exact .inr h
noncomputable abbrev uL(A:bB)(dx cl:Addr)(k:Nat):HO:=Io A.kE iY dx [.ref cl,.int (k:Int)]
noncomputable def Gg(A:bB):Sp:=fun vs H Q _=>∃(p dx cl:Addr)(k0:Nat)(cs:List Int),vs= [.ref p]∧H p=some (uL A dx cl k0)∧bj A.kk H cl (iv cs)∧Q (.bl (decide (cs.length≤k0))) H
theorem rY:aF ["self"] ["self"] (aB oZ):=⟨rfl,rfl,rfl,by decide +kernel,rfl,by decide +kernel,by decide +kernel⟩
theorem Cr{A:bB}(T:Txt K mg A):dZ P w K mg base 1 A.gJ ["self"] (Gg A):=by
 refine T.gJ.ok rY (fun vs H Q E h=> ?_) (fun cdv Ar outer s H vs Q E hr h=> ?_)
 ·obtain⟨p,dx,cl,k0,cs,rfl,_⟩:=h
  rfl
 ·obtain⟨p,dx,cl,k0,cs,rfl,hp,hc,k⟩:=h
  have nd:=rY.nd
  have hc:bj K H cl (iv cs):=T.kk▸hc
  refine⟨_,(au (aG (qg Ks (bc T.cB 1 (pv 0)) (bO bA rfl T.gM PySem.boot_len (aa (bc T.cB 0 (pv 0)) aq)) (aP _)))),?_⟩
  refine aC rfl (vy rfl hp rfl (aC rfl (vy rfl hp rfl (cP (a:=cl) rfl (.inl hc) (cP rfl rfl ?_)))))
  have e:decide (cs.length≤k0)=decide ((k0:Int) ≥ (((iv cs).length:Nat):Int)):=decide_eq_decide.mpr (by rw[List.length_map];omega)
  rw[e]at k
  exact k
noncomputable def Gh(A:bB):Sp:=fun vs H Q _=>∃(p dx cl:Addr)(k0:Nat)(cs:List Int)(v:Int),vs= [.ref p]∧H p=some (uL A dx cl k0)∧bj A.kk H cl (iv cs)∧cs[k0]? =some v∧Q (.int v) (upd H p (uL A dx cl (k0+1)))
theorem rZ:aF ["self"] ["self"] (aB o9):=⟨rfl,rfl,rfl,by decide +kernel,rfl,by decide +kernel,by decide +kernel⟩
theorem gr{A:bB}(T:Txt K mg A):dZ P w K mg base 1 A.cQ ["self"] (Gh A):=by
 refine T.cQ.ok rZ (fun vs H Q E h=> ?_) (fun cdv Ar outer s H vs Q E hr h=> ?_)
 ·obtain⟨p,dx,cl,k0,cs,v,rfl,_⟩:=h
  rfl
 ·obtain⟨p,dx,cl,k0,cs,v,rfl,hp,hc,hv,k⟩:=h
  have nd:=rZ.nd
  have hc:bj K H cl (iv cs):=T.kk▸hc
  refine⟨_,(ak (Uz T.cB 1 (pv 0) aA)
   (au (aG (bL (aO K) (bc T.cB 0 (pv 0)) (bf oG (bc T.cB 1 (pv 0)) aA) (fun _ _=>rfl))))),?_⟩
  refine aC rfl (vy rfl hp rfl (cW rfl hp ?_))
  refine aC rfl (vy rfl aj rfl (aC rfl (vy rfl aj rfl (cP rfl rfl ⟨cl,⟨_,_,V.int v,rfl,rfl,Qk hc hp,?_,?_⟩⟩))))
  ·have e:((k0:Int)+1-1)=((k0:Nat):Int):=by omega
   show Oe _ ((k0:Int)+1-1)=_
   rw[e]
   exact aV (mD hv)
  ·exact k
noncomputable def Cu(A:bB):Sp:=fun vs H Q _=>∃(p dx cl:Addr)(k0 n:Nat)(cs:List Int),vs= [.ref p,.int (n:Int)]∧H p=some (uL A dx cl k0)∧bj A.kk H cl (iv cs)∧∀l H',H l=none→H' l=some (.lst (iv ((cs.drop k0).take n)))→H' p=some (uL A dx cl (k0+n))→Kp [p] H H'→Q (.ref l) H'
theorem qb:aF ["self","size"] ["self","size"] (aB m6):=⟨rfl,rfl,rfl,by decide +kernel,rfl,by decide +kernel,by decide +kernel⟩
theorem iK{A:bB}(T:Txt K mg A):dZ P w K mg base 1 A.cT ["self","size"] (Cu A):=by
 refine T.cT.ok qb (fun vs H Q E h=> ?_) (fun cdv Ar outer s H vs Q E hr h=> ?_)
 ·obtain⟨p,dx,cl,k0,n,cs,rfl,_⟩:=h
  rfl
 ·obtain⟨p,dx,cl,k0,n,cs,rfl,hp,hc,k⟩:=h
  have nd:=qb.nd
  have hc:bj K H cl (iv cs):=T.kk▸hc
  refine⟨_,(ak (Uz T.cB 1 (pv 0) (pv 1))
   (au (aG (bQ (cA K) (bc T.cB 0 (pv 0)) (bz (bf oG (bc T.cB 1 (pv 0)) (pv 1))) (bz (bc T.cB 1 (pv 0))))))),?_⟩
  refine aC rfl (vy rfl hp rfl (aC rfl (cW rfl hp ?_)))
  refine aC rfl (vy rfl aj rfl (aC rfl (vy rfl aj rfl (aC rfl (cP rfl rfl (aC rfl (aC rfl (vy rfl aj rfl (aC rfl (vq (a:=cl) rfl ⟨Qk hc hp,fun l hl=> ?_⟩))))))))))
  have e1:(k0:Int)+(n:Int)-(n:Int)=((k0:Nat):Int):=by omega
  have e2:(k0:Int)+(n:Int)=((k0+n:Nat):Int):=by omega
  dsimp only
  rw[e1,e2,dg,Nat.add_sub_cancel_left,←List.map_drop,←List.map_take]
  obtain⟨hl1,hlp⟩:=aU hl
  refine k l _ hl1 aj (old hl aj) fun b o e n=>old hl (oth (by simpa using n) e)
noncomputable def Nj(A:bB):Sp:=fun vs H Q _=>∃(p dx cl:Addr)(k0 n:Nat)(cs:List Int),vs= [.ref p]∧H p=some (uL A dx cl k0)∧bj A.kk H cl (iv cs)∧cs[k0]? =some (n:Int)∧∀l H',H l=none→H' l=some (.lst (iv ((cs.drop (k0+1)).take n)))→H' p=some (uL A dx cl (k0+1+n))→Kp [p] H H'→Q (.ref l) H'
theorem zc:aF ["self"] ["self"] (aB wZ):=⟨rfl,rfl,rfl,by decide +kernel,rfl,by decide +kernel,by decide +kernel⟩
theorem rn{A:bB}(T:Txt K mg A):dZ P w K mg base 2 A.g8 ["self"] (Nj A):=by
 refine T.g8.ok zc (fun vs H Q E h=> ?_) (fun cdv Ar outer s H vs Q E hr h=> ?_)
 ·obtain⟨p,dx,cl,k0,n,cs,rfl,_⟩:=h
  rfl
 ·obtain⟨p,dx,cl,k0,n,cs,rfl,hp,hc,hn,k⟩:=h
  have nd:=zc.nd
  refine⟨_,(au (aG (dJ T.cB T.cT (iK T) (hr.mono (by decide)) (pv 0) (aa (cY T.cB T.cQ (gr T) (hr.mono (by decide)) (pv 0)) aq)))),?_⟩
  refine aC rfl (jM rfl hp (aC rfl (jM rfl hp (YL (a:=p) (b:=dx) (c:=cl) (d:=k0) (e:=cs) (f:=(n:Int)) rfl hp hc hn (Xr (a:=p) (b:=dx) (c:=cl) (d:=k0+1) (e:=n) (f:=cs) rfl aj ⟨Qk hc hp,fun l H' hl h1 h2 kp=> ?_⟩)))))
  obtain⟨hl1,_⟩:=aU hl
  exact k l H' hl1 h1 h2 (cH.trans kp)
noncomputable def zs(l:List Nat):List Int:=l.map fun(n:Nat)=>(n:Int)
theorem BK(l:List Nat):iv (zs l)=nv l:=by simp[nv,zs]
inductive xK:Option Sw32.St→List Int→List Int→Sw32.St→List Int→Prop
 | VR (so:Option Sw32.St) (w h:Int) (name:List Nat) (t:List Int):(1≤w∧w≤640∧1≤h∧h≤480)→name.length≤64→xK so (1::w::h::(name.length:Int)::(zs name++t)) t (Sw32.first w.toNat h.toNat name) [0]
 | VV (s:Sw32.St) (w h:Int) (name:List Nat) (t:List Int):¬(1≤w∧w≤640∧1≤h∧h≤480)→xK (some s) (1::w::h::(name.length:Int)::(zs name++t)) t s [-1]
 | Y6 (s:Sw32.St) (a b c d:Int) (col:Nat) (t:List Int):Sw32.inside s.screen a b c d=false→xK (some s) (2::a::b::c::d::(col:Int)::t) t s [-1]
 | Y7 (s:Sw32.St) (a b c d:Int) (col:Nat) (t:List Int):Sw32.inside s.screen a b c d=true→xK (some s) (2::a::b::c::d::(col:Int)::t) t (Sw32.tells {s with screen:=Sw32.painted s.screen ⟨a.toNat,b.toNat,c.toNat,d.toNat⟩ fun _=>col}) [0]
 | aco (s:Sw32.St) (a b c d:Int) (cols:List Nat) (t:List Int):Sw32.inside s.screen a b c d=false→cols.length≤307200→xK (some s) (3::a::b::c::d::(cols.length:Int)::(zs cols++t)) t s [-1]
 | put1 (s:Sw32.St) (a b c d:Int) (cols:List Nat) (t:List Int):Sw32.inside s.screen a b c d=true→cols.length≤307200→(cols.length:Int)=c*d→xK (some s) (3::a::b::c::d::(cols.length:Int)::(zs cols++t)) t (Sw32.tells {s with screen:=Sw32.painted s.screen ⟨a.toNat,b.toNat,c.toNat,d.toNat⟩ fun i=>cols.getD i 0}) [0]
 | come (s:Sw32.St) (b:List Nat) (t:List Int):(∀z ∈ b,z<256)→b.length≤65535→xK (some s) (4::(b.length:Int)::(zs b++t)) t (b.foldl Sw32.byte s) [((b.foldl Sw32.byte s).state:Int)]
 | acp (s:Sw32.St) (m:Int) (t:List Int):¬(0≤m∧m≤2097152)→xK (some s) (5::m::t) t s [-1]
 | acq (s:Sw32.St) (m:Int) (t:List Int):(0≤m∧m≤2097152)→xK (some s) (5::m::t) t (Sw32.tells {s with out:=s.out.drop m.toNat}) (zs ((s.out.take m.toNat).length::s.out.take m.toNat))
 | ev0 (s:Sw32.St) (m:Int) (v:Int) (t:List Int):((¬(0≤m∧m≤4096)∧v= -1)∨((0≤m∧m≤4096)∧s.events= []∧v= -2)∨((0≤m∧m≤4096)∧(∃e r,s.events=e::r∧m<((j6 e).length:Int))∧v= -6))→xK (some s) (6::m::t) t s [v]
 | ev1 (s:Sw32.St) (m:Int) (e:Sw32.Event) (r:List Sw32.Event) (t:List Int):(0≤m∧m≤4096)→s.events=e::r→¬m<((j6 e).length:Int)→xK (some s) (6::m::t) t {s with events:=r} (zs ((j6 e).length::(j6 e++Ad e)))
 | told (s:Sw32.St) (t:List Int):xK (some s) (7::t) t s (zs [0,s.state,s.out.length,s.events.length,(s.screen.changed.filter id).length])
noncomputable def SS(A:bB)(H:Hp)(se ds:Addr)(F:List Addr)(so:Option Sw32.St):Prop:=(so=none∧F= []∧∃v1 v2,H se=some (Io A.bR bK ds [v1,v2]))∨∃x s,so=some s∧F=x.cells∧SW A H se ds x s
structure Nt(A:bB)(H:Hp)(rd dr cl:Addr)(k:Nat)(cs:List Int)(F:List Addr)(se:Addr):Prop where
 ro:H rd=some (uL A dr cl k)
 rc:BJ A H cl cs F
 nF:rd ∉ F
 ns:rd≠se
section
variable{A:bB}{H H':Hp}{se ds rd dr cl:Addr}{F:List Addr}{so:Option Sw32.St}{k:Nat}{cs:List Int}
theorem SS.obj (S:SS A H se ds F so):∃v1 v2,H se=some (Io A.bR bK ds [v1,v2]):=by
 rcases S with ⟨_,_,h⟩ | ⟨x,s,_,_,S⟩
 ·exact h
 ·exact⟨_,_,S.so⟩
theorem SS.J9 (S:SS A H se ds F so) (R:Nt A H rd dr cl k cs F se) (kp:Kp [rd] H H'):SS A H' se ds F so:=by
 rcases S with ⟨h1,h2,v1,v2,h3⟩ | ⟨x,s,h1,h2,S⟩
 ·exact .inl ⟨h1,h2,v1,v2,kp _ _ h3 (by simpa using R.ns.symm)⟩
 ·have nF:=R.nF
  rw[h2]at nF
  have nc:∀ {b:Addr},b ∈ x.cells→b≠rd:=fun h e=>nF (e▸h)
  refine .inr ⟨x,s,h1,h2,kp _ _ S.so (by simpa using R.ns.symm),?_,S.ok,S.lt,S.ns⟩
  refine S.w.part (fun b o e im _=>kp _ _ e ?_) (kp _ _ S.w.lo (by simpa using nc (by simp))) (fun o e=>kp _ _ e (by simpa using nc (by simp))) (fun o e=>kp _ _ e (by simpa using nc (by simp))) (kp _ _ S.w.ib (by simpa using nc (by simp))) (kp _ _ S.w.ob (by simpa using nc (by simp))) (kp _ _ S.w.ev (by simpa using nc (by simp))) (fun o e=>kp _ _ e (by simpa using nc (by simp)))
  intro z
  simp at z
  rw[z,R.ro]at e
  cases e
  have im:(iY.zip [V.ref cl,V.int (k:Int)]).length=4∨(iY.zip [V.ref cl,V.int (k:Int)]).length=7:=im
  simp at im
theorem Nt.Ka {k2:Nat} (R:Nt A H rd dr cl k cs F se) (kp:Kp [rd] H H') (h:H' rd=some (uL A dr cl k2)):Nt A H' rd dr cl k2 cs F se:=
 ⟨h,R.rc.go fun o e sh n=>⟨kp _ _ e (by
  rcases sh with ⟨_,rfl⟩ | ⟨_,_,rfl⟩
  ·simpa using aN e R.ro (fun e=>nomatch e)
  ·simpa using aN e R.ro (fun e=>nomatch e)),n⟩,R.nF,R.ns⟩
theorem lH{α:Type}{l:List α}{k i:Nat}{v:α}{r:List α}(h:l.drop k=r)(hv:r[i]? =some v):l[k+i]? =some v:=by rw[←h,List.getElem?_drop]at hv;exact hv
end
structure iU(A:bB)(H H':Hp)(se ds:Addr)(F:List Addr)(rd dr cl:Addr)(cs t:List Int)(s':Sw32.St)(l:Addr)(ans:List Int):Prop where
 go:∃F' k',SS A H' se ds F' (some s')∧Nt A H' rd dr cl k' cs F' se∧cs.drop k'=t∧l ∉ F'∧(∀b o,H b=some o→b ∉ F→b≠rd→b≠se→H' b=some o∧b ∉ F'∧b≠l)
 hl:H' l=some (.lst (iv ans))
 lr:l≠rd
 ls:l≠se
section
variable{A:bB}{H H1 H2:Hp}{se ds rd dr cl l:Addr}{F F':List Addr}{k':Nat}{cs t ans:List Int}{s':Sw32.St}
theorem SS.fresh (S:SS A H2 se ds F' (some s')) (h:H2 l=none):l ∉ F':=by
 rcases S with ⟨h1,_⟩ | ⟨x,s,_,h2,S⟩
 ·cases h1
 ·rw[h2];exact S.w.fresh h
theorem SS.same {so:Option Sw32.St} (S:SS A H1 se ds F so) (k:bu H1 H2):SS A H2 se ds F so:=by
 rcases S with ⟨h1,h2,v1,v2,h3⟩ | ⟨x,s,h1,h2,S⟩
 ·exact .inl ⟨h1,h2,v1,v2,k _ _ h3⟩
 ·exact .inr ⟨x,s,h1,h2,S.same k⟩
theorem iU.new (S:SS A H2 se ds F' (some s')) (R:Nt A H2 rd dr cl k' cs F' se) (ht:cs.drop k'=t) (fr:∀b o,H b=some o→b ∉ F→b≠rd→b≠se→H2 b=some o∧b ∉ F') (hl:H2 l=none):iU A H (upd H2 l (.lst (iv ans))) se ds F rd dr cl cs t s' l ans:=by
 obtain⟨v1,v2,hse⟩:=S.obj
 exact⟨⟨F',k',S.same (az hl),⟨old hl R.ro,R.rc.go fun o e _ n=>⟨old hl e,n⟩,R.nF,R.ns⟩,ht,S.fresh hl,fun b o e n1 n2 n3=>⟨old hl (fr b o e n1 n2 n3).1,(fr b o e n1 n2 n3).2,ao (fr b o e n1 n2 n3).1 hl⟩⟩,aj,(ao R.ro hl).symm,(ao hse hl).symm⟩
theorem iU.sm (S:SS A H1 se ds F (some s')) (R:Nt A H1 rd dr cl k' cs F se) (ht:cs.drop k'=t) (fr:∀b o,H b=some o→b≠rd→H1 b=some o) (k:bu H1 H2) (hl:H1 l=none) (h:H2 l=some (.lst (iv ans))):iU A H H2 se ds F rd dr cl cs t s' l ans:=by
 obtain⟨v1,v2,hse⟩:=S.obj
 exact⟨⟨F,k',S.same k,⟨k _ _ R.ro,R.rc.go fun o e _ n=>⟨k _ _ e,n⟩,R.nF,R.ns⟩,ht,S.fresh hl,fun b o e n1 n2 n3=>⟨k _ _ (fr b o e n2),n1,ao (fr b o e n2) hl⟩⟩,h,(ao R.ro hl).symm,(ao hse hl).symm⟩
theorem iU.gone {x x':La} {s:Sw32.St} (S:SW A H1 se ds x s) (R:Nt A H1 rd dr cl k' cs x.cells se) (ht:cs.drop k'=t) (fr:∀b o,H b=some o→b≠rd→H1 b=some o) (g:fH A H1 x H2 x' s' s'.pending) (ok:Ok s') (lt:∀z ∈ s'.pending,z<256):
  SS A H2 se ds x'.cells (some s')∧Nt A H2 rd dr cl k' cs x'.cells se∧∀b o,H b=some o→b ∉ x.cells→b≠rd→b≠se→H2 b=some o∧b ∉ x'.cells:=by
 obtain⟨r1,r2⟩:=g.fr rd _ R.ro R.nF
 exact⟨.inr ⟨x',s',rfl,rfl,S.next g ok lt⟩,⟨r1,R.rc.go fun o e _ n=>g.fr cl o e n,r2,R.ns⟩,fun b o e n1 n2 _=>g.fr b o (fr b o e n2) n1⟩
end
theorem Nt.same {A:bB} {H H':Hp} {rd dr cl se:Addr} {k:Nat} {cs:List Int} {F:List Addr} (R:Nt A H rd dr cl k cs F se) (s:bu H H'):Nt A H' rd dr cl k cs F se:=⟨s _ _ R.ro,R.rc.go fun o e _ n=>⟨s _ _ e,n⟩,R.nF,R.ns⟩
theorem SS.get {A:bB} {H:Hp} {se ds:Addr} {F:List Addr} {s:Sw32.St} (S:SS A H se ds F (some s)):∃x,F=x.cells∧SW A H se ds x s:=by
 rcases S with ⟨h1,_⟩ | ⟨x,s2,h1,h2,S⟩
 ·cases h1
 ·cases h1;exact⟨x,h2,S⟩
noncomputable abbrev V0(s:Sw32.St)(m v:Int):Prop:=(¬(0≤m∧m≤4096)∧v= -1)∨((0≤m∧m≤4096)∧s.events= []∧v= -2)∨((0≤m∧m≤4096)∧(∃e r,s.events=e::r∧m<((j6 e).length:Int))∧v= -6)
theorem Y8{s:Sw32.St}{m v:Int}{e:Sw32.Event}{r:List Sw32.Event}(h:V0 s m v)(c1:0≤m∧m≤4096)(c2:s.events=e::r)(c3:¬m<((j6 e).length:Int)):False:=by
 rcases h with ⟨h,_⟩ | ⟨_,h,_⟩ | ⟨_,⟨e',r',h,h2⟩,_⟩
 ·exact h c1
 ·rw[c2]at h;cases h
 ·rw[c2]at h;cases h;exact c3 h2
theorem aaI{s:Sw32.St}{m v v':Int}(h:V0 s m v)(h':V0 s m v'):v'=v:=by
 rcases h with ⟨h1,rfl⟩ | ⟨h1,h2,rfl⟩ | ⟨h1,⟨e,r,h2,h3⟩,rfl⟩<;>rcases h' with ⟨g1,rfl⟩ | ⟨g1,g2,rfl⟩ | ⟨g1,⟨e',r',g2,g3⟩,rfl⟩
 ·rfl
 ·exact absurd g1 h1
 ·exact absurd g1 h1
 ·exact absurd h1 g1
 ·rfl
 ·rw[h2]at g2;cases g2
 ·exact absurd h1 g1
 ·rw[h2]at g2;cases g2
 ·rfl
theorem Gi{cs:List Int}{k:Nat}{name:List Nat}{t:List Int}{p:List Int}(h:cs.drop k=p++((name.length:Int)::(zs name++t))):cs[k+p.length]? =some (name.length:Int)∧(cs.drop (k+p.length+1)).take name.length=zs name∧cs.drop (k+p.length+1+name.length)=t:=by
 have hz:(zs name).length=name.length:=by simp[zs]
 have h1:cs.drop (k+p.length)=(name.length:Int)::(zs name++t):=by rw[←List.drop_drop,h,List.drop_left]
 have h2:cs.drop (k+p.length+1)=zs name++t:=by rw[←List.drop_drop,h1];rfl
 refine⟨?_,?_,?_⟩
 ·have:=lH (i:=0) h1 rfl
  exact this
 ·rw[h2,←hz,List.take_left]
 ·rw[←List.drop_drop,h2,←hz,List.drop_left]
noncomputable def V1(A:bB):Sp:=fun vs H Q _=>∃(se ds rd dr cl:Addr)(k0:Nat)(cs t ans:List Int)(F:List Addr)(so:Option Sw32.St)(s':Sw32.St),vs= [.ref se,.ref rd]∧SS A H se ds F so∧Nt A H rd dr cl k0 cs F se∧xK so (cs.drop k0) t s' ans∧∀l H',iU A H H' se ds F rd dr cl cs t s' l ans→Q (.ref l) H'
theorem Ir:aF ["session","reader","call","sizes","box"] ["session","reader"] (aB Jy):=⟨rfl,rfl,rfl,by decide +kernel,rfl,by decide +kernel,by decide +kernel⟩
theorem Tj{A:bB}(T:Txt K mg A):dZ P w K mg base 13 A.uY ["session","reader"] (V1 A):=by
 refine T.uY.ok Ir (fun vs H Q E h=> ?_) (fun cdv Ar outer s H vs Q E hr h=> ?_)
 ·obtain⟨se,ds,rd,dr,cl,k0,cs,t,ans,F,so,s',rfl,_⟩:=h
  rfl
 ·obtain⟨se,ds,rd,dr,cl,k0,cs,t,ans,F,so,s',rfl,S,R,G,k⟩:=h
  have nd:=Ir.nd
  generalize hcs:cs.drop k0=L at G
  obtain⟨v,r,hL⟩:∃v r,L=v::r:=by cases G<;>exact⟨_,_,rfl⟩
  have hv:cs[k0]? =some v:=lH (i:=0) (hcs.trans hL) rfl
  refine⟨_,(ak (aQ (i:=2) nd rfl (Or.inl rfl) (cY T.cB T.cQ (gr T) (hr.mono (by decide)) (pv 1)))
   (ak (bC (aJ dF (pv 2) (bD T.yl) (aP _))
    (ak (aQ (i:=3) nd rfl (Or.inl rfl) (dJ T.cB T.cT (iK T) (hr.mono (by decide)) (pv 1) (aa aA aq)))
   (au (aG (cG (aa (dJ T.bT T.gG (Cq T) (hr.mono (by decide)) (pv 0) (aa (bL (aO K) (pv 3) aA (fun _ _=>rfl)) (aa (bL (aO K) (pv 3) aA (fun _ _=>rfl)) (aa (cY T.cB T.g8 (rn T) (hr.mono (by decide)) (pv 1)) aq)))) aq))))) aM)
   (ak (bC (aJ dF (pv 2) (bD T.Ay) (aP _))
    (ak (aQ (i:=4) nd rfl (Or.inl rfl) (dJ T.cB T.cT (iK T) (hr.mono (by decide)) (pv 1) (aa aA aq)))
   (au (aG (cG (aa (dJ T.bT T.iG (FW T) (hr.mono (by decide)) (pv 0) (aa (bL (aO K) (pv 4) aA (fun _ _=>rfl)) (aa (bL (aO K) (pv 4) aA (fun _ _=>rfl)) (aa (bL (aO K) (pv 4) aA (fun _ _=>rfl)) (aa (bL (aO K) (pv 4) aA (fun _ _=>rfl)) (aa (cY T.cB T.cQ (gr T) (hr.mono (by decide)) (pv 1)) aq)))))) aq))))) aM)
   (ak (bC (aJ dF (pv 2) (bD T.DR) (aP _))
    (ak (aQ (i:=4) nd rfl (Or.inl rfl) (dJ T.cB T.cT (iK T) (hr.mono (by decide)) (pv 1) (aa aA aq)))
   (au (aG (cG (aa (dJ T.bT T.ju (Hh T) (hr.mono (by decide)) (pv 0) (aa (bL (aO K) (pv 4) aA (fun _ _=>rfl)) (aa (bL (aO K) (pv 4) aA (fun _ _=>rfl)) (aa (bL (aO K) (pv 4) aA (fun _ _=>rfl)) (aa (bL (aO K) (pv 4) aA (fun _ _=>rfl)) (aa (cY T.cB T.g8 (rn T) (hr.mono (by decide)) (pv 1)) aq)))))) aq))))) aM)
   (ak (bC (aJ dF (pv 2) (bD T.ym) (aP _))
    (au (aG (cG (aa (dJ T.bT T.iH (FZ T) (hr.mono (by decide)) (pv 0) (aa (cY T.cB T.g8 (rn T) (hr.mono (by decide)) (pv 1)) aq)) aq)))) aM)
   (ak (bC (aJ dF (pv 2) (bD T.vR) (aP _))
    (au (aG (dJ T.bT T.fM (Ah T) (hr.mono (by decide)) (pv 0) (aa (cY T.cB T.cQ (gr T) (hr.mono (by decide)) (pv 1)) aq)))) aM)
   (ak (bC (aJ dF (pv 2) (bD T.yo) (aP _))
    (au (aG (dJ T.bT T.gH (Cp T) (hr.mono (by decide)) (pv 0) (aa (cY T.cB T.cQ (gr T) (hr.mono (by decide)) (pv 1)) aq)))) aM)
   (ak (bC (aJ dF (pv 2) (bD T.Az) (aP _))
    (au (aG (cY T.bT T.iI (Ge T) (hr.mono (by decide)) (pv 0)))) aM)
   Rw)))))))),?_⟩
  refine aC rfl (jM rfl R.ro (YL (a:=rd) (b:=dr) (c:=cl) (d:=k0) (e:=cs) (f:=v) rfl R.ro R.rc.sq hv ?_))
  have kp1:Kp [rd] H (upd H rd (uL A dr cl (k0+1))):=cH
  have R1:=R.Ka kp1 aj
  have S1:=S.J9 R kp1
  have Kc:∀b o,H b=some o→b≠rd→upd H rd (uL A dr cl (k0+1)) b=some o:=fun b o e n=>oth n e
  dsimp only[kZ]
  generalize upd H rd (uL A dr cl (k0+1))=H1 at *
  cases G with
  | told s=>
   have hv2:=(List.cons.inj hL).1
   refine cW rfl rfl (aC rfl (bJ (fun c=>by rw[aH]at c;omega) fun _=> ?_))
   refine cW rfl rfl (aC rfl (bJ (fun c=>by rw[aH]at c;omega) fun _=> ?_))
   refine cW rfl rfl (aC rfl (bJ (fun c=>by rw[aH]at c;omega) fun _=> ?_))
   refine cW rfl rfl (aC rfl (bJ (fun c=>by rw[aH]at c;omega) fun _=> ?_))
   refine cW rfl rfl (aC rfl (bJ (fun c=>by rw[aH]at c;omega) fun _=> ?_))
   refine cW rfl rfl (aC rfl (bJ (fun c=>by rw[aH]at c;omega) fun _=> ?_))
   refine cW rfl rfl (aC rfl (bJ (fun _=> ?_) fun c=>absurd (by rw[←hv2]) c))
   obtain⟨x,rfl,W⟩:=S1.get
   refine aC rfl (jM rfl W.so (YK (a:=se) (b:=ds) (c:=x) (d:=s') rfl ⟨W,fun l H2 s2 hl h2=> ?_⟩))
   rw[←BK]at h2
   exact k l H2 (iU.sm S1 R1 (by rw[←List.drop_drop,hcs];rfl) Kc s2 hl h2)
  | VR so w h name t hw hn=>
   have hv2:=(List.cons.inj hL).1
   refine cW rfl rfl (aC rfl (bJ (fun _=> ?_) fun c=>absurd (by rw[←hv2]) c))
   obtain⟨q1,q2,q3⟩:=Gi (p:= [1,w,h]) hcs
   have e2:(cs.drop (k0+1)).take 2= [w,h]:=by rw[←List.drop_drop,hcs];rfl
   refine aC rfl (jM rfl R1.ro (Sv (a:=rd) (b:=dr) (c:=cl) (d:=k0+1) (e:=2) (f:=cs) rfl R1.ro R1.rc.sq (fun l2 H2 hl2 h2 V2 lN=> ?_)))
   have R2:=R1.Ka lN V2
   have S2:=S1.J9 R1 lN
   rw[e2]at h2
   obtain⟨v1,v2,hse⟩:=S2.obj
   refine aC rfl (jM rfl hse (aC rfl (jN (a:=l2) rfl rfl (bj.of h2) (aV (j:=0) rfl) (aC rfl (jN (a:=l2) rfl rfl (bj.of h2) (aV (j:=1) rfl) (aC rfl (jM rfl R2.ro (Sv (a:=rd) (b:=dr) (c:=cl) (d:=k0+1+2) (e:=name.length) (f:=cs) rfl R2.ro R2.rc.sq ⟨q1,fun l3 H3 hl3 h3 X4 ig=> ?_⟩))))))))
   have R3:=R2.Ka ig X4
   have S3:=S2.J9 R2 ig
   have Tn:=ig _ _ hse (by simpa using R.ns.symm)
   have h3:H3 l3=some (.lst (nv name)):=by rw[h3,←BK];exact congrArg (fun z=>some (HO.lst (iv z))) q2
   have zm:∀b o,H b=some o→b≠rd→H3 b=some o:=fun b o e n=>ig _ _ (lN _ _ (Kc b o e n) (by simpa using n)) (by simpa using n)
   refine⟨se,ds,l3,v1,v2,w,h,name,rfl,Tn,h3,fun c=>absurd hw c,fun _ x H4 w4 so4 kp4 Nu=> ?_⟩
   have S4:SS A H4 se ds x.cells (some (Sw32.first w.toNat h.toNat name)):= .inr ⟨x,_,rfl,rfl,so4,w4,Vl (by omega) (by omega) (by omega) (by omega) hn,fun z hz=>by simp[Sw32.first]at hz,Nu se _ Tn⟩
   have R4:Nt A H4 rd dr cl (k0+1+2+1+name.length) cs x.cells se:=⟨kp4 _ _ R3.ro (by simpa using R.ns),R3.rc.go fun o e sh _=>⟨kp4 _ _ e (by
    rcases sh with ⟨_,rfl⟩ | ⟨_,_,rfl⟩
    ·simpa using aN e Tn (fun e=>nomatch e)
    ·simpa using aN e Tn (fun e=>nomatch e)),Nu cl _ e⟩,Nu rd _ R3.ro,R.ns⟩
   exact⟨by rw[dO];simp,fun l hl=>k l _ (iU.new (ans:= [0]) S4 R4 q3 (fun b o e n1 n2 n3=>⟨kp4 _ _ (zm b o e n2) (by simpa using n3),Nu b o (zm b o e n2)⟩) hl)⟩
  | VV s w h name t hw=>
   have hv2:=(List.cons.inj hL).1
   refine cW rfl rfl (aC rfl (bJ (fun _=> ?_) fun c=>absurd (by rw[←hv2]) c))
   obtain⟨q1,q2,q3⟩:=Gi (p:= [1,w,h]) hcs
   have e2:(cs.drop (k0+1)).take 2= [w,h]:=by rw[←List.drop_drop,hcs];rfl
   refine aC rfl (jM rfl R1.ro (Sv (a:=rd) (b:=dr) (c:=cl) (d:=k0+1) (e:=2) (f:=cs) rfl R1.ro R1.rc.sq (fun l2 H2 hl2 h2 V2 lN=> ?_)))
   have R2:=R1.Ka lN V2
   have S2:=S1.J9 R1 lN
   rw[e2]at h2
   obtain⟨v1,v2,hse⟩:=S2.obj
   refine aC rfl (jM rfl hse (aC rfl (jN (a:=l2) rfl rfl (bj.of h2) (aV (j:=0) rfl) (aC rfl (jN (a:=l2) rfl rfl (bj.of h2) (aV (j:=1) rfl) (aC rfl (jM rfl R2.ro (Sv (a:=rd) (b:=dr) (c:=cl) (d:=k0+1+2) (e:=name.length) (f:=cs) rfl R2.ro R2.rc.sq ⟨q1,fun l3 H3 hl3 h3 X4 ig=> ?_⟩))))))))
   have R3:=R2.Ka ig X4
   have S3:=S2.J9 R2 ig
   have Tn:=ig _ _ hse (by simpa using R.ns.symm)
   have h3:H3 l3=some (.lst (nv name)):=by rw[h3,←BK];exact congrArg (fun z=>some (HO.lst (iv z))) q2
   have zm:∀b o,H b=some o→b≠rd→H3 b=some o:=fun b o e n=>ig _ _ (lN _ _ (Kc b o e n) (by simpa using n)) (by simpa using n)
   refine⟨se,ds,l3,v1,v2,w,h,name,rfl,Tn,h3,fun _ H4 s4=> ?_,fun c=>absurd c hw⟩
   exact⟨by rw[dO];simp,fun l hl=>k l _ (iU.new (ans:= [-1]) (S3.same s4) (R3.same s4) q3 (fun b o e n1 n2 n3=>⟨s4 _ _ (zm b o e n2),n1⟩) hl)⟩
  | Y6 s a b c d col t hin=>
   have hv2:=(List.cons.inj hL).1
   refine cW rfl rfl (aC rfl (bJ (fun c=>by rw[aH]at c;omega) fun _=> ?_))
   refine cW rfl rfl (aC rfl (bJ (fun _=> ?_) fun c=>absurd (by rw[←hv2]) c))
   have e2:(cs.drop (k0+1)).take 4= [a,b,c,d]:=by rw[←List.drop_drop,hcs];rfl
   have e5:cs[k0+1+4]? =some (col:Int):=lH (i:=5) hcs rfl
   have e6:cs.drop (k0+1+4+1)=t:=by rw[show k0+1+4+1=k0+6 by omega,←List.drop_drop,hcs];rfl
   refine aC rfl (jM rfl R1.ro (Sv (a:=rd) (b:=dr) (c:=cl) (d:=k0+1) (e:=4) (f:=cs) rfl R1.ro R1.rc.sq (fun l2 H2 hl2 h2 V2 lN=> ?_)))
   have R2:=R1.Ka lN V2
   have S2:=S1.J9 R1 lN
   rw[e2]at h2
   obtain⟨x,rfl,W2⟩:=S2.get
   refine aC rfl (jM rfl W2.so (aC rfl (jN (a:=l2) rfl rfl (bj.of h2) (aV (j:=0) rfl) (aC rfl (jN (a:=l2) rfl rfl (bj.of h2) (aV (j:=1) rfl) (aC rfl (jN (a:=l2) rfl rfl (bj.of h2) (aV (j:=2) rfl) (aC rfl (jN (a:=l2) rfl rfl (bj.of h2) (aV (j:=3) rfl) (aC rfl (jM rfl R2.ro (YL (a:=rd) (b:=dr) (c:=cl) (d:=k0+1+4) (e:=cs) (f:=(col:Int)) rfl R2.ro R2.rc.sq e5 ?_))))))))))))
   have ig:Kp [rd] H2 (upd H2 rd (uL A dr cl (k0+1+4+1))):=cH
   have R3:=R2.Ka ig aj
   have S3:=S2.J9 R2 ig
   have zm:∀b o,H b=some o→b≠rd→upd H2 rd (uL A dr cl (k0+1+4+1)) b=some o:=fun b o e n=>ig _ _ (lN _ _ (Kc b o e n) (by simpa using n)) (by simpa using n)
   generalize upd H2 rd (uL A dr cl (k0+1+4+1))=H3 at *
   obtain⟨x2,hx,W3⟩:=S3.get
   refine⟨se,ds,x2,Sv (a:=s') (b:=a) (c:=b) (d:=c) (e:=d) (f:=col) rfl W3 (fun _ H4 s4=> ?_) (fun h=>by rw[hin]at h;cases h)⟩
   exact⟨by rw[dO];simp,fun l hl=>k l _ (iU.new (ans:= [-1]) (S3.same s4) (R3.same s4) e6 (fun b o e n1 n2 n3=>⟨s4 _ _ (zm b o e n2),n1⟩) hl)⟩
  | Y7 s a b c d col t hin=>
   have hv2:=(List.cons.inj hL).1
   refine cW rfl rfl (aC rfl (bJ (fun c=>by rw[aH]at c;omega) fun _=> ?_))
   refine cW rfl rfl (aC rfl (bJ (fun _=> ?_) fun c=>absurd (by rw[←hv2]) c))
   have e2:(cs.drop (k0+1)).take 4= [a,b,c,d]:=by rw[←List.drop_drop,hcs];rfl
   have e5:cs[k0+1+4]? =some (col:Int):=lH (i:=5) hcs rfl
   have e6:cs.drop (k0+1+4+1)=t:=by rw[show k0+1+4+1=k0+6 by omega,←List.drop_drop,hcs];rfl
   refine aC rfl (jM rfl R1.ro (Sv (a:=rd) (b:=dr) (c:=cl) (d:=k0+1) (e:=4) (f:=cs) rfl R1.ro R1.rc.sq (fun l2 H2 hl2 h2 V2 lN=> ?_)))
   have R2:=R1.Ka lN V2
   have S2:=S1.J9 R1 lN
   rw[e2]at h2
   obtain⟨x,rfl,W2⟩:=S2.get
   refine aC rfl (jM rfl W2.so (aC rfl (jN (a:=l2) rfl rfl (bj.of h2) (aV (j:=0) rfl) (aC rfl (jN (a:=l2) rfl rfl (bj.of h2) (aV (j:=1) rfl) (aC rfl (jN (a:=l2) rfl rfl (bj.of h2) (aV (j:=2) rfl) (aC rfl (jN (a:=l2) rfl rfl (bj.of h2) (aV (j:=3) rfl) (aC rfl (jM rfl R2.ro (YL (a:=rd) (b:=dr) (c:=cl) (d:=k0+1+4) (e:=cs) (f:=(col:Int)) rfl R2.ro R2.rc.sq e5 ?_))))))))))))
   have ig:Kp [rd] H2 (upd H2 rd (uL A dr cl (k0+1+4+1))):=cH
   have R3:=R2.Ka ig aj
   have S3:=S2.J9 R2 ig
   have zm:∀b o,H b=some o→b≠rd→upd H2 rd (uL A dr cl (k0+1+4+1)) b=some o:=fun b o e n=>ig _ _ (lN _ _ (Kc b o e n) (by simpa using n)) (by simpa using n)
   generalize upd H2 rd (uL A dr cl (k0+1+4+1))=H3 at *
   obtain⟨x2,hx,W3⟩:=S3.get
   refine⟨se,ds,x2,Xr (a:=s) (b:=a) (c:=b) (d:=c) (e:=d) (f:=col) rfl W3 ⟨(fun h=>by rw[hin]at h;cases h),fun _ x' H4 go=> ?_⟩⟩
   have ok':=yz (qP W3.ok ⟨a.toNat,b.toNat,c.toNat,d.toNat⟩ fun _=>col)
   rw[hx]at R3
   obtain⟨S4,R4,Nu⟩:=iU.gone (H:=H) W3 R3 e6 zm (x':=x') (H2:=H4) (by rw[jh];exact go) ok' (by rw[jh];exact W3.lt)
   exact⟨by rw[dO];simp,fun l hl=>k l _ (iU.new (ans:= [0]) S4 R4 e6 (fun b o e n1 n2 n3=>Nu b o e (hx▸n1) n2 n3) hl)⟩
  | aco s a b c d cols t hin hcl=>
   have hv2:=(List.cons.inj hL).1
   refine cW rfl rfl (aC rfl (bJ (fun c=>by rw[aH]at c;omega) fun _=> ?_))
   refine cW rfl rfl (aC rfl (bJ (fun c=>by rw[aH]at c;omega) fun _=> ?_))
   refine cW rfl rfl (aC rfl (bJ (fun _=> ?_) fun c=>absurd (by rw[←hv2]) c))
   obtain⟨q1,q2,q3⟩:=Gi (p:= [3,a,b,c,d]) hcs
   have e2:(cs.drop (k0+1)).take 4= [a,b,c,d]:=by rw[←List.drop_drop,hcs];rfl
   refine aC rfl (jM rfl R1.ro (Sv (a:=rd) (b:=dr) (c:=cl) (d:=k0+1) (e:=4) (f:=cs) rfl R1.ro R1.rc.sq (fun l2 H2 hl2 h2 V2 lN=> ?_)))
   have R2:=R1.Ka lN V2
   have S2:=S1.J9 R1 lN
   rw[e2]at h2
   obtain⟨x,rfl,W2⟩:=S2.get
   refine aC rfl (jM rfl W2.so (aC rfl (jN (a:=l2) rfl rfl (bj.of h2) (aV (j:=0) rfl) (aC rfl (jN (a:=l2) rfl rfl (bj.of h2) (aV (j:=1) rfl) (aC rfl (jN (a:=l2) rfl rfl (bj.of h2) (aV (j:=2) rfl) (aC rfl (jN (a:=l2) rfl rfl (bj.of h2) (aV (j:=3) rfl) (aC rfl (jM rfl R2.ro (Sv (a:=rd) (b:=dr) (c:=cl) (d:=k0+1+4) (e:=cols.length) (f:=cs) rfl R2.ro R2.rc.sq ⟨q1,fun l3 H3 hl3 h3 X4 ig=> ?_⟩))))))))))))
   have R3:=R2.Ka ig X4
   have S3:=S2.J9 R2 ig
   have h3:H3 l3=some (.lst (nv cols)):=by rw[h3,←BK];exact congrArg (fun z=>some (HO.lst (iv z))) q2
   have zm:∀b o,H b=some o→b≠rd→H3 b=some o:=fun b o e n=>ig _ _ (lN _ _ (Kc b o e n) (by simpa using n)) (by simpa using n)
   obtain⟨x2,hx,W3⟩:=S3.get
   refine⟨se,ds,l3,x2,s',a,b,c,d,cols,rfl,W3,h3,hcl,(fun h=>by rw[hin]at h;cases h),fun _ H4 s4=> ?_,(fun h=>by rw[hin]at h;cases h)⟩
   exact⟨by rw[dO];simp,fun l hl=>k l _ (iU.new (ans:= [-1]) (S3.same s4) (R3.same s4) q3 (fun b o e n1 n2 n3=>⟨s4 _ _ (zm b o e n2),n1⟩) hl)⟩
  | put1 s a b c d cols t hin hcl hlen=>
   have hv2:=(List.cons.inj hL).1
   refine cW rfl rfl (aC rfl (bJ (fun c=>by rw[aH]at c;omega) fun _=> ?_))
   refine cW rfl rfl (aC rfl (bJ (fun c=>by rw[aH]at c;omega) fun _=> ?_))
   refine cW rfl rfl (aC rfl (bJ (fun _=> ?_) fun c=>absurd (by rw[←hv2]) c))
   obtain⟨q1,q2,q3⟩:=Gi (p:= [3,a,b,c,d]) hcs
   have e2:(cs.drop (k0+1)).take 4= [a,b,c,d]:=by rw[←List.drop_drop,hcs];rfl
   refine aC rfl (jM rfl R1.ro (Sv (a:=rd) (b:=dr) (c:=cl) (d:=k0+1) (e:=4) (f:=cs) rfl R1.ro R1.rc.sq (fun l2 H2 hl2 h2 V2 lN=> ?_)))
   have R2:=R1.Ka lN V2
   have S2:=S1.J9 R1 lN
   rw[e2]at h2
   obtain⟨x,rfl,W2⟩:=S2.get
   refine aC rfl (jM rfl W2.so (aC rfl (jN (a:=l2) rfl rfl (bj.of h2) (aV (j:=0) rfl) (aC rfl (jN (a:=l2) rfl rfl (bj.of h2) (aV (j:=1) rfl) (aC rfl (jN (a:=l2) rfl rfl (bj.of h2) (aV (j:=2) rfl) (aC rfl (jN (a:=l2) rfl rfl (bj.of h2) (aV (j:=3) rfl) (aC rfl (jM rfl R2.ro (Sv (a:=rd) (b:=dr) (c:=cl) (d:=k0+1+4) (e:=cols.length) (f:=cs) rfl R2.ro R2.rc.sq ⟨q1,fun l3 H3 hl3 h3 X4 ig=> ?_⟩))))))))))))
   have R3:=R2.Ka ig X4
   have S3:=S2.J9 R2 ig
   have h3:H3 l3=some (.lst (nv cols)):=by rw[h3,←BK];exact congrArg (fun z=>some (HO.lst (iv z))) q2
   have zm:∀b o,H b=some o→b≠rd→H3 b=some o:=fun b o e n=>ig _ _ (lN _ _ (Kc b o e n) (by simpa using n)) (by simpa using n)
   obtain⟨x2,hx,W3⟩:=S3.get
   refine⟨se,ds,l3,x2,e66 (a:=s) (b:=a) (c:=b) (d:=c) (e:=d) (f:=cols) rfl W3 h3 hcl (fun _=>hlen) (fun h=>by rw[hin]at h;cases h) (fun _ x' H4 go=> ?_)⟩
   have ok':=yz (qP W3.ok ⟨a.toNat,b.toNat,c.toNat,d.toNat⟩ fun i=>cols.getD i 0)
   rw[hx]at R3
   obtain⟨S4,R4,Nu⟩:=iU.gone (H:=H) W3 R3 q3 zm (x':=x') (H2:=H4) (by rw[jh];exact go) ok' (by rw[jh];exact W3.lt)
   exact⟨by rw[dO];simp,fun l hl=>k l _ (iU.new (ans:= [0]) S4 R4 q3 (fun b o e n1 n2 n3=>Nu b o e (hx▸n1) n2 n3) hl)⟩
  | come s b t hlt Gn=>
   have hv2:=(List.cons.inj hL).1
   refine cW rfl rfl (aC rfl (bJ (fun c=>by rw[aH]at c;omega) fun _=> ?_))
   refine cW rfl rfl (aC rfl (bJ (fun c=>by rw[aH]at c;omega) fun _=> ?_))
   refine cW rfl rfl (aC rfl (bJ (fun c=>by rw[aH]at c;omega) fun _=> ?_))
   refine cW rfl rfl (aC rfl (bJ (fun _=> ?_) fun c=>absurd (by rw[←hv2]) c))
   obtain⟨q1,q2,q3⟩:=Gi (p:= [4]) hcs
   obtain⟨x,rfl,W1⟩:=S1.get
   refine aC rfl (jM rfl W1.so (aC rfl (jM rfl R1.ro (Sv (a:=rd) (b:=dr) (c:=cl) (d:=k0+1) (e:=b.length) (f:=cs) rfl R1.ro R1.rc.sq ⟨q1,fun l3 H3 hl3 h3 X4 ig=> ?_⟩))))
   have R3:=R1.Ka ig X4
   have S3:=S1.J9 R1 ig
   have h3:H3 l3=some (.lst (nv b)):=by rw[h3,←BK];exact congrArg (fun z=>some (HO.lst (iv z))) q2
   have zm:∀b o,H b=some o→b≠rd→H3 b=some o:=fun b o e n=>ig _ _ (Kc b o e n) (by simpa using n)
   obtain⟨x2,hx,W3⟩:=S3.get
   refine e65 (a:=se) (b:=ds) (c:=l3) (d:=x2) (e:=s) (f:=b) rfl W3 h3 hlt Gn (fun x' H4 go ok' lt'=> ?_)
   rw[hx]at R3
   obtain⟨S4,R4,Nu⟩:=iU.gone (H:=H) W3 R3 q3 zm go ok' lt'
   exact⟨by rw[dO];simp,fun l hl=>k l _ (iU.new (ans:= [((b.foldl Sw32.byte s).state:Int)]) S4 R4 q3 (fun b o e n1 n2 n3=>Nu b o e (hx▸n1) n2 n3) hl)⟩
  | acp s m t hm=>
   have hv2:=(List.cons.inj hL).1
   refine cW rfl rfl (aC rfl (bJ (fun c=>by rw[aH]at c;omega) fun _=> ?_))
   refine cW rfl rfl (aC rfl (bJ (fun c=>by rw[aH]at c;omega) fun _=> ?_))
   refine cW rfl rfl (aC rfl (bJ (fun c=>by rw[aH]at c;omega) fun _=> ?_))
   refine cW rfl rfl (aC rfl (bJ (fun c=>by rw[aH]at c;omega) fun _=> ?_))
   refine cW rfl rfl (aC rfl (bJ (fun _=> ?_) fun c=>absurd (by rw[←hv2]) c))
   have e5:cs[k0+1]? =some m:=lH (i:=1) hcs rfl
   have e6:cs.drop (k0+1+1)=t:=by rw[show k0+1+1=k0+2 by omega,←List.drop_drop,hcs];rfl
   obtain⟨x,rfl,W1⟩:=S1.get
   refine aC rfl (jM rfl W1.so (aC rfl (jM rfl R1.ro (YL (a:=rd) (b:=dr) (c:=cl) (d:=k0+1) (e:=cs) (f:=m) rfl R1.ro R1.rc.sq e5 ?_))))
   have ig:Kp [rd] H1 (upd H1 rd (uL A dr cl (k0+1+1))):=cH
   have R3:=R1.Ka ig aj
   have S3:=S1.J9 R1 ig
   have zm:∀b o,H b=some o→b≠rd→upd H1 rd (uL A dr cl (k0+1+1)) b=some o:=fun b o e n=>ig _ _ (Kc b o e n) (by simpa using n)
   generalize upd H1 rd (uL A dr cl (k0+1+1))=H3 at *
   obtain⟨x2,hx,W3⟩:=S3.get
   exact e53 (a:=se) (b:=ds) (c:=x2) (d:=s') (e:=m) rfl W3 (fun _ l H4 s4 hl h4=>k l H4 (iU.sm S3 R3 e6 zm s4 hl h4)) (fun c=>absurd c hm)
  | acq s m t hm=>
   have hv2:=(List.cons.inj hL).1
   refine cW rfl rfl (aC rfl (bJ (fun c=>by rw[aH]at c;omega) fun _=> ?_))
   refine cW rfl rfl (aC rfl (bJ (fun c=>by rw[aH]at c;omega) fun _=> ?_))
   refine cW rfl rfl (aC rfl (bJ (fun c=>by rw[aH]at c;omega) fun _=> ?_))
   refine cW rfl rfl (aC rfl (bJ (fun c=>by rw[aH]at c;omega) fun _=> ?_))
   refine cW rfl rfl (aC rfl (bJ (fun _=> ?_) fun c=>absurd (by rw[←hv2]) c))
   have e5:cs[k0+1]? =some m:=lH (i:=1) hcs rfl
   have e6:cs.drop (k0+1+1)=t:=by rw[show k0+1+1=k0+2 by omega,←List.drop_drop,hcs];rfl
   obtain⟨x,rfl,W1⟩:=S1.get
   refine aC rfl (jM rfl W1.so (aC rfl (jM rfl R1.ro (YL (a:=rd) (b:=dr) (c:=cl) (d:=k0+1) (e:=cs) (f:=m) rfl R1.ro R1.rc.sq e5 ?_))))
   have ig:Kp [rd] H1 (upd H1 rd (uL A dr cl (k0+1+1))):=cH
   have R3:=R1.Ka ig aj
   have S3:=S1.J9 R1 ig
   have zm:∀b o,H b=some o→b≠rd→upd H1 rd (uL A dr cl (k0+1+1)) b=some o:=fun b o e n=>ig _ _ (Kc b o e n) (by simpa using n)
   generalize upd H1 rd (uL A dr cl (k0+1+1))=H3 at *
   obtain⟨x2,hx,W3⟩:=S3.get
   refine e53 (a:=se) (b:=ds) (c:=x2) (d:=s) (e:=m) rfl W3 (fun c=>absurd hm c) (fun _ l x' H4 go ap hlc h4=> ?_)
   rw[hx]at R3
   obtain⟨S4,R4,Nu⟩:=iU.gone (H:=H) W3 R3 e6 zm (x':=x') (H2:=H4) (by rw[jh];exact go) (yz (Vm W3.ok _)) (by rw[jh];exact W3.lt)
   obtain⟨w1,w2,w3⟩:=S3.obj
   rw[←BK]at h4
   exact k l H4 ⟨⟨x'.cells,_,S4,R4,e6,hlc,fun b o e n1 n2 n3=>⟨(Nu b o e (hx▸n1) n2 n3).1,(Nu b o e (hx▸n1) n2 n3).2,ap b o (zm b o e n2) (hx▸n1)⟩⟩,h4,(ap rd _ R3.ro R3.nF).symm,(ap se _ W3.so W3.ns).symm⟩
  | ev0 s m v2 t hvv=>
   have hv2:=(List.cons.inj hL).1
   refine cW rfl rfl (aC rfl (bJ (fun c=>by rw[aH]at c;omega) fun _=> ?_))
   refine cW rfl rfl (aC rfl (bJ (fun c=>by rw[aH]at c;omega) fun _=> ?_))
   refine cW rfl rfl (aC rfl (bJ (fun c=>by rw[aH]at c;omega) fun _=> ?_))
   refine cW rfl rfl (aC rfl (bJ (fun c=>by rw[aH]at c;omega) fun _=> ?_))
   refine cW rfl rfl (aC rfl (bJ (fun c=>by rw[aH]at c;omega) fun _=> ?_))
   refine cW rfl rfl (aC rfl (bJ (fun _=> ?_) fun c=>absurd (by rw[←hv2]) c))
   have e5:cs[k0+1]? =some m:=lH (i:=1) hcs rfl
   have e6:cs.drop (k0+1+1)=t:=by rw[show k0+1+1=k0+2 by omega,←List.drop_drop,hcs];rfl
   obtain⟨x,rfl,W1⟩:=S1.get
   refine aC rfl (jM rfl W1.so (aC rfl (jM rfl R1.ro (YL (a:=rd) (b:=dr) (c:=cl) (d:=k0+1) (e:=cs) (f:=m) rfl R1.ro R1.rc.sq e5 ?_))))
   have ig:Kp [rd] H1 (upd H1 rd (uL A dr cl (k0+1+1))):=cH
   have R3:=R1.Ka ig aj
   have S3:=S1.J9 R1 ig
   have zm:∀b o,H b=some o→b≠rd→upd H1 rd (uL A dr cl (k0+1+1)) b=some o:=fun b o e n=>ig _ _ (Kc b o e n) (by simpa using n)
   generalize upd H1 rd (uL A dr cl (k0+1+1))=H3 at *
   obtain⟨x2,hx,W3⟩:=S3.get
   refine e53 (a:=se) (b:=ds) (c:=x2) (d:=s') (e:=m) rfl W3 (fun v' hv' l H4 s4 hl h4=>k l H4 (iU.sm S3 R3 e6 zm s4 hl (aaI hvv hv'▸h4))) (fun e r c1 c2 c3=>(Y8 hvv c1 c2 c3).elim)
  | ev1 s m e r t hm hev XH=>
   have hv2:=(List.cons.inj hL).1
   refine cW rfl rfl (aC rfl (bJ (fun c=>by rw[aH]at c;omega) fun _=> ?_))
   refine cW rfl rfl (aC rfl (bJ (fun c=>by rw[aH]at c;omega) fun _=> ?_))
   refine cW rfl rfl (aC rfl (bJ (fun c=>by rw[aH]at c;omega) fun _=> ?_))
   refine cW rfl rfl (aC rfl (bJ (fun c=>by rw[aH]at c;omega) fun _=> ?_))
   refine cW rfl rfl (aC rfl (bJ (fun c=>by rw[aH]at c;omega) fun _=> ?_))
   refine cW rfl rfl (aC rfl (bJ (fun _=> ?_) fun c=>absurd (by rw[←hv2]) c))
   have e5:cs[k0+1]? =some m:=lH (i:=1) hcs rfl
   have e6:cs.drop (k0+1+1)=t:=by rw[show k0+1+1=k0+2 by omega,←List.drop_drop,hcs];rfl
   obtain⟨x,rfl,W1⟩:=S1.get
   refine aC rfl (jM rfl W1.so (aC rfl (jM rfl R1.ro (YL (a:=rd) (b:=dr) (c:=cl) (d:=k0+1) (e:=cs) (f:=m) rfl R1.ro R1.rc.sq e5 ?_))))
   have ig:Kp [rd] H1 (upd H1 rd (uL A dr cl (k0+1+1))):=cH
   have R3:=R1.Ka ig aj
   have S3:=S1.J9 R1 ig
   have zm:∀b o,H b=some o→b≠rd→upd H1 rd (uL A dr cl (k0+1+1)) b=some o:=fun b o e n=>ig _ _ (Kc b o e n) (by simpa using n)
   generalize upd H1 rd (uL A dr cl (k0+1+1))=H3 at *
   obtain⟨x2,hx,W3⟩:=S3.get
   refine e53 (a:=se) (b:=ds) (c:=x2) (d:=s) (e:=m) rfl W3 (fun v' hv'=>(Y8 hv' hm hev XH).elim) (fun e' r' _ he' hle l x' H4 go ap hlc h4=> ?_)
   rw[hev]at he'
   cases he'
   rw[hx]at R3
   obtain⟨S4,R4,Nu⟩:=iU.gone (H:=H) W3 R3 e6 zm (x':=x') (H2:=H4) go (Su W3.ok hev) W3.lt
   obtain⟨w1,w2,w3⟩:=S3.obj
   rw[←BK]at h4
   exact k l H4 ⟨⟨x'.cells,_,S4,R4,e6,hlc,fun b o e n1 n2 n3=>⟨(Nu b o e (hx▸n1) n2 n3).1,(Nu b o e (hx▸n1) n2 n3).2,ap b o (zm b o e n2) (hx▸n1)⟩⟩,h4,(ap rd _ R3.ro R3.nF).symm,(ap se _ W3.so W3.ns).symm⟩
inductive uM:Option Sw32.St→List Int→List (List Int)→Prop
 | nil (so:Option Sw32.St):uM so [] []
 | cons (so:Option Sw32.St) (l t:List Int) (s':Sw32.St) (ans:List Int) (rest:List (List Int)):l≠ []→xK so l t s' ans→uM (some s') t rest→uM so l (ans::rest)
noncomputable def del(H:Hp)(z:Addr):Hp:=fun b=>if b=z then none else H b
theorem V3(H:Hp)(z:Addr):del H z z=none:=if_pos rfl
theorem Gj{H:Hp}{z b:Addr}(h:b≠z):del H z b=H b:=if_neg h
theorem X5(H:Hp)(z:Addr)(o:HO):upd (del H z) z o=upd H z o:=by
 funext b
 by_cases e:b=z
 ·subst e;rw[aj,aj]
 ·rw[bF e,bF e,Gj e]
theorem SS.del {A:bB} {H:Hp} {se ds z:Addr} {F:List Addr} {so:Option Sw32.St} (S:SS A H se ds F so) {od:Obj} {u:HO} (hz:H z=some (.vB od u)) (hF:z ∉ F) (hs:z≠se):SS A (del H z) se ds F so:=by
 have kp:∀b o,H b=some o→b≠z→Fs.del H z b=some o:=fun b o e n=>by rw[Gj n];exact e
 rcases S with ⟨h1,h2,v1,v2,h3⟩ | ⟨x,s,h1,h2,S⟩
 ·exact .inl ⟨h1,h2,v1,v2,kp _ _ h3 hs.symm⟩
 ·rw[h2]at hF
  have nc:∀ {b:Addr},b ∈ x.cells→b≠z:=fun h e=>hF (e▸h)
  refine .inr ⟨x,s,h1,h2,kp _ _ S.so hs.symm,?_,S.ok,S.lt,S.ns⟩
  refine S.w.part (fun b o e im _=>kp _ _ e ?_) (kp _ _ S.w.lo (nc (by simp))) (fun o e=>kp _ _ e (nc (by simp))) (fun o e=>kp _ _ e (nc (by simp))) (kp _ _ S.w.ib (nc (by simp))) (kp _ _ S.w.ob (nc (by simp))) (kp _ _ S.w.ev (nc (by simp))) (fun o e=>kp _ _ e (nc (by simp)))
  intro q
  rw[q,hz]at e
  cases e
  exact im
theorem Nk(a:List (List Int))(ans:List Int):PyFlat.told (a ++ [ans])=PyFlat.told a++((ans.length:Int)::ans):=by simp[PyFlat.told]
theorem X6(a b:List (List Int)):(PyFlat.told a).length≤(PyFlat.told (a++b)).length:=by simp[PyFlat.told]
noncomputable def Iu(A:bB):Sp:=fun vs H Q _=>∃(cl:Addr)(cs:List Int)(rA:List (List Int)),vs= [.ref cl]∧bj A.kk H cl (iv cs)∧uM none cs rA∧(PyFlat.told rA).length≤10000000∧∀l H',bu H H'→H' l=some (.lst (iv (PyFlat.told rA)))→Q (.ref l) H'
theorem Gk:aF ["calls","reader","session","answered","numbers"] ["calls"] (aB Dw):=⟨rfl,rfl,rfl,by decide +kernel,rfl,by decide +kernel,by decide +kernel⟩
theorem Nm{A:bB}(T:Txt K mg A):∃fd,Binds K fd ["calls"] []∧∀base:Heap,Jd P w K mg base QR 14 A.pP fd ["calls"] (Iu A):=by
 obtain⟨fd,F,b⟩:=T.pP.fn
 refine⟨fd,b,fun base=>F.ok Gk (fun vs H Q E h=> ?_) (fun cdv Ar outer s H vs Q E hr h=> ?_)⟩
 ·obtain⟨cl,cs,rA,rfl,_⟩:=h
  rfl
 ·obtain⟨cl,cs,rA,rfl,hc,G,hlen,k⟩:=h
  have nd:=Gk.nd
  refine⟨_,(ak (aQ (i:=1) nd rfl (Or.inl rfl) (vI T.cB T.Lp (Hk T) (hr.mono (by decide)) rfl (aa (pv 0) aq)))
   (ak (aQ (i:=2) nd rfl (Or.inl rfl) (Dn T.bT T.Hz (FT T) (hr.mono (by decide)) rfl))
   (ak (aQ (i:=3) nd rfl (Or.inl rfl) (cG aq))
   (ak (Kh PassesOwn.never (mV (oF (cY T.cB T.gJ (Cr T) (hr.mono (by decide)) (pv 1))))
    (ak (QJ (aQ (i:=4) nd rfl (Or.inl rfl) (cC (Tj T) (hr.mono (by decide)) T.uY rfl (aa (pv 2) (aa (pv 1) aq)))))
   (ak (aR (fV PySem.F.plainAttrs_list PySem.F.slot_list_append PySem.F.type_list_append ji (pv 3) (aa (bO bA rfl T.gM PySem.boot_len (aa (pv 4) aq)) aq)))
   (au (aR (fV PySem.F.plainAttrs_list PySem.F.slot_list_extend PySem.F.type_list_extend d7 (pv 3) (aa (pv 4) aq)))))))
   (au (aG (pv 3))))))),?_⟩
  refine aC rfl (fun rd dr hrd hdr hne=>⟨rd,dr,cl,rfl,aj,rfl,?_⟩)
  rw[bM]
  have s1:bu H (upd (upd H dr (.own rd)) rd (uL A dr cl 0)):=fun z o e=>oth (ao e hrd) (old hdr e)
  have r1:upd (upd H dr (.own rd)) rd (uL A dr cl 0) rd=some (uL A dr cl 0):=aj
  dsimp only[kZ]
  show Gq _ _ _ _ (upd (upd H dr (.own rd)) rd (uL A dr cl 0))
  generalize upd (upd H dr (.own rd)) rd (uL A dr cl 0)=H1 at *
  refine fun se ds hse hds abW=>⟨se,ds,rfl,aj,rfl,?_⟩
  rw[bM]
  have s2:bu H1 (upd (upd H1 ds (.own se)) se (Io A.bR bK ds [.non,.non])):=fun z o e=>oth (ao e hse) (old hds e)
  have o2:upd (upd H1 ds (.own se)) se (Io A.bR bK ds [.non,.non]) se=some (Io A.bR bK ds [.non,.non]):=aj
  dsimp only[kZ]
  generalize upd (upd H1 ds (.own se)) se (Io A.bR bK ds [.non,.non])=H2 at *
  have nrs:rd≠se:=ao r1 hse
  have ar2:BJ A H2 cl cs []:=by
   rcases hc with hc | hc
   ·rcases hc with hc | ⟨q,hc⟩
    ·exact .inl ⟨.inl (s2 _ _ (s1 _ _ hc)),by simp⟩
    ·exact .inl ⟨.inr ⟨q,s2 _ _ (s1 _ _ hc)⟩,by simp⟩
   ·exact .inr fun _=> .inr hc
  refine⟨by decide,fun an han=> ?_⟩
  dsimp only[kZ]
  refine ux (fun σ H'=>∃v4,σ= [some (.ref cl),some (.ref rd),some (.ref se),some (.ref an),v4]∧bu H H'∧H' an=some (.lst (iv (PyFlat.told rA)))) (fun N hN=> ?_) ?_
  rotate_left
  ·rintro σ H' ⟨v4,rfl,s',h'⟩
   exact aC rfl (k an H' s' h')
  refine⟨fun m σ H3=>∃(B:Hp)(F:List Addr)(so:Option Sw32.St)(k:Nat)(rest done:List (List Int))(v4:Option V),σ= [some (.ref cl),some (.ref rd),some (.ref se),some (.ref an),v4]∧H3=upd B an (.lst (iv (PyFlat.told done)))∧B an=none∧(∀b o,H b=some o→B b=some o∧b ∉ F)∧SS A B se ds F so∧Nt A B rd dr cl k cs F se∧an ∉ F∧uM so (cs.drop k) rest∧rA=done++rest∧m=rest.length,⟨_,H2,[],none,0,rA,[],none,rfl,rfl,han,fun b o e=>⟨s2 _ _ (s1 _ _ e),by simp⟩,.inl ⟨rfl,rfl,_,_,o2⟩,⟨s2 _ _ r1,ar2,by simp,nrs⟩,by simp,by simpa using G,rfl,rfl⟩,?_⟩
  rintro m σ H3 ⟨B,F,so,k0,rest,done,v4,rfl,rfl,hB,sB,S,R,hF,G2,hda,rfl⟩
  have u:∀ {b:Addr}{o o':HO},B b=some o→upd B an o' b=some o:=fun e=>old hB e
  refine aC rfl (vU rfl ⟨u R.ro,rd,dr,cl,k0,cs,rfl,u R.ro,(R.rc.go (F':=F) fun o e _ n=>⟨u e,n⟩).sq,_,rfl,qQ (fun c=> ?_) fun c=> ?_⟩)
  ·generalize hL:cs.drop k0=L at G2
   cases G2 with
   | nil=>
    have:=congrArg List.length hL
    rw[List.length_drop,List.length_nil]at this
    omega
   | cons _ _ t s' ans Rp air G1 G3=>
    subst hL
    refine⟨fun σ' H'=>∃m',m'<(ans::Rp).length∧∃(B:Hp)(F:List Addr)(so:Option Sw32.St)(k:Nat)(rest done:List (List Int))(v4:Option V),σ'= [some (.ref cl),some (.ref rd),some (.ref se),some (.ref an),v4]∧H'=upd B an (.lst (iv (PyFlat.told done)))∧B an=none∧(∀b o,H b=some o→B b=some o∧b ∉ F)∧SS A B se ds F so∧Nt A B rd dr cl k cs F se∧an ∉ F∧uM so (cs.drop k) rest∧rA=done++rest∧m'=rest.length,fun σ' H' h=>h,?_⟩
    refine cP (a:=an) aj trivial (fun od=> ?_)
    rw[bM]
    have S':=S.same (az (q:= .vB od (.lst (iv (PyFlat.told done)))) hB)
    have R':=R.same (az (q:= .vB od (.lst (iv (PyFlat.told done)))) hB)
    refine aC rfl (aC rfl ⟨se,ds,rd,dr,cl,k0,cs,t,ans,F,so,s',rfl,S',R',G1,fun l H4 P=> ?_⟩)
    obtain⟨F',k',S4,R4,ht,hlF,fr⟩:=P.go
    obtain⟨v1,v2,acr⟩:=S.obj
    obtain⟨a1,a2,a3⟩:=fr an _ aj hF (ao R.ro hB).symm (ao acr hB).symm
    refine⟨a1,?_⟩
    have htl:(PyFlat.told (done ++ [ans])).length≤10000000:=by
     have:=X6 (done ++ [ans]) Rp
     rw[List.append_assoc]at this
     rw[hda]at hlen
     exact Nat.le_trans this hlen
    rw[Nk,List.length_append,List.length_cons]at htl
    refine cW rfl (.inl ⟨rfl,_,bj.of aj⟩) (aC rfl (cP (a:=l) rfl (.inl (bj.of (oth a3.symm P.hl))) (e34 (a:=an) rfl rfl aj (by rw[List.length_map,dO];omega) ?_)))
    rw[bM]
    refine cW rfl (.inl ⟨rfl,_,bj.of aj⟩) (aC rfl (Em (a:=an) (b:=l) rfl rfl aj (oth a3.symm P.hl) (by rw[List.length_append,List.length_map,List.length_map,List.length_singleton,dO];omega) ?_))
    rw[bM]
    have nas:an≠se:=(ao acr hB).symm
    have nar:an≠rd:=(ao R.ro hB).symm
    have arB:BJ A (del H4 an) cl cs F':=by
     have hrc:=R.rc
     rcases hrc with ⟨hrc,nrc⟩ | hrc
     ·have nac:cl≠an:=by
       rcases hrc with h | ⟨_,h⟩
       ·exact ao h hB
       ·exact ao h hB
      exact R4.rc.go fun o e _ n=>⟨by rw[Gj nac];exact e,n⟩
     ·exact .inr hrc
    refine⟨Rp.length,by simp,del H4 an,F',some s',k',Rp,done ++ [ans],_,rfl,?_,V3 _ _,?_,S4.del a1 a2 nas,⟨by rw[Gj nar.symm];exact R4.ro,arB,R4.nF,R4.ns⟩,a2,by rw[ht];exact G3,by rw[hda,List.append_assoc];rfl,rfl⟩
    ·rw[X5,Nk,List.length_map]
     simp
    ·intro b o e
     obtain⟨e1,e2⟩:=sB b o e
     obtain⟨e3,e4,_⟩:=fr b o (u e1) e2 (ao e (Option.not_isSome_iff_eq_none.mp fun q=>by obtain⟨o2,h2⟩:=Option.isSome_iff_exists.mp q;rw[hrd]at h2;cases h2)) (ao (s1 _ _ e) hse)
     exact⟨by rw[Gj (ao e1 hB)];exact e3,e4⟩
  ·have hd0:cs.drop k0= []:=List.drop_eq_nil_of_le (by omega)
   rw[hd0]at G2
   cases G2 with
   | nil=>
    rw[List.append_nil]at hda
    refine hN _ _ ⟨_,rfl,fun b o e=>u (sB _ _ e).1,?_⟩
    rw[aj,hda]
   | cons _ _ _ _ _ _ h=>exact absurd rfl h
noncomputable def Tp(s:Sw32.St)(W G:Nat):Prop:=s.screen.w=W∧s.screen.h=G
theorem vp{s:Sw32.St}{W G:Nat}(h:Tp s W G):Tp (Sw32.tells s) W G:=by
 unfold Sw32.tells
 split
 ·exact h
 ·split<;>exact h
theorem Ai{s:Sw32.St}{W G:Nat}(h:Tp s W G)(e:Sw32.Event):Tp (Sw32.event s e) W G:=by
 unfold Sw32.event
 split<;>exact h
theorem Tq{s:Sw32.St}{W G:Nat}(h:Tp s W G)(b:List Nat):Tp (Sw32.whole s b) W G:=by
 unfold Sw32.whole
 split
 ·split
  ·exact h
  ·split<;>exact h
 ·split
  ·split
   ·exact h
   ·split<;>exact h
  ·split
   ·exact h
   ·split
    ·split<;>exact h
    ·exact h
    ·dsimp only
     split<;>exact h
    ·split
     ·exact h
     ·exact Ai h _
    ·exact Ai h _
    ·exact Ai h _
    ·exact h
theorem V4{s:Sw32.St}{W G:Nat}(h:Tp s W G)(c:Nat):Tp (Sw32.byte s c) W G:=by
 unfold Sw32.byte
 split
 ·exact h
 ·dsimp only
  split
  ·exact h
  ·split
   ·exact vp (Tq (s:= {s with pending:= []}) h _)
   ·exact h
theorem Iv{W G:Nat}:∀(b:List Nat){s:Sw32.St},Tp s W G→Tp (b.foldl Sw32.byte s) W G
 | [],_,h=>h
 | c::b,_,h=>Iv b (V4 h c)
theorem J8{l:List Int}(h:∀z ∈ l,0≤z):zs (Sw32Neutral.nats l)=l:=by
 induction l with
 | nil=>rfl
 | cons a l ih=>
  have e:=ih (fun z hz=>h z (by simp[hz]))
  have ha:=h a (by simp)
  show ((a.toNat:Nat):Int)::zs (Sw32Neutral.nats l)=a::l
  rw[e]
  congr 1
  omega
theorem iV(l:List Int):(Sw32Neutral.nats l).length=l.length:=by simp[Sw32Neutral.nats]
theorem Gm{l:List Int}{hi:Int}(h:Sw32Neutral.elems l hi=true):∀z ∈ l,0≤z∧z≤hi:=by
 intro z hz
 unfold Sw32Neutral.elems at h
 rw[List.all_eq_true]at h
 have:=h z hz
 unfold Sw32Neutral.within at this
 simpa using this
theorem X7{l:List Int}{n:Nat}(h:∀z ∈ l,0≤z∧z≤(n:Int)):∀z ∈ Sw32Neutral.nats l,z<n+1:=by
 intro z hz
 obtain⟨y,hy,rfl⟩:=List.mem_map.mp hz
 have:=h y hy
 omega
theorem nQ(z lo hi:Int):Sw32Neutral.within z lo hi=decide (lo≤z∧z≤hi):=by
 unfold Sw32Neutral.within
 rw[Bool.eq_iff_iff];simp
theorem fZ(z:Int)(a b:Nat):Sw32.within z a b=decide ((a:Int)≤z∧z≤(b:Int)):=by
 unfold Sw32.within
 rw[Bool.eq_iff_iff];simp
theorem rB{s:Sw32.St}{c:List (List Int)}{x:Sw32.Call}(h:Sw32Neutral.callOf c=some x):Sw32Neutral.step s c=((Sw32.step s x).1,(Sw32.step s x).2.value::(Sw32Neutral.ints (Sw32.step s x).2.out++Sw32Neutral.ints (Sw32.step s x).2.told)):=by
 unfold Sw32Neutral.step
 rw[h]
open Sw32Neutral in
theorem aaJ{so:Option Sw32.St}{s:Sw32.St}(hs:so.getD start=s){l t:List Int}{c:List (List Int)}(C:nG l c t){W G:Nat}(hd:Tp s W G)(hW:W≤640)(hG:G≤480){rest:List (List (List Int))}(ha:askedOn W G (PySw32.whole c::rest)=true)
  (hso:so=none→(step start (PySw32.whole c)).2= [0]∧∃w h x,c= [[1,w,h],x]):xK so l t (step s (PySw32.whole c)).1 (step s (PySw32.whole c)).2∧∃W' G',W'≤640∧G'≤480∧Tp (step s (PySw32.whole c)).1 W' G'∧askedOn W' G' rest=true:=by
 have some_of:(¬∃w h x,c= [[1,w,h],x])→so=some s:=fun hn=>by
  cases so with
  | none=>exact absurd (hso rfl).2 hn
  | some s0=>rw[←hs];rfl
 cases C with
 | begin_ w h x t=>
  have e:askedOn W G ([[1,w,h,(x.length:Int)],x] :: rest)=(asked1 [[1,w,h,(x.length:Int)],x] && (if sized w h (x.length:Int)=true then askedOn w h rest else askedOn W G rest)):=rfl
  have ha:askedOn W G ([[1,w,h,(x.length:Int)],x] :: rest)=true:=ha
  rw[e,Bool.and_eq_true]at ha
  obtain⟨a1,a2⟩:=ha
  have a1:(int w&&(int h&&(int (x.length:Int)&&row x (if sized w h (x.length:Int)=true then (x.length:Int)else 0) 255)))=true:=a1
  simp only[Bool.and_eq_true]at a1
  obtain⟨_,_,_,a3⟩:=a1
  unfold row at a3
  rw[Bool.and_eq_true,decide_eq_true_iff]at a3
  obtain⟨a4,a5⟩:=a3
  have a6:=Gm a5
  have hz:zs (nats x)=x:=J8 fun z hz=>(a6 z hz).1
  have hst:step s (PySw32.whole [[1,w,h],x])=_:=rB (c:= [[1,w,h,(x.length:Int)],x]) (s:=s) (x:= .begin_ w h (nats x) (x.length:Int)) rfl
  have hsz:sized w h (x.length:Int)=decide ((1≤w∧w≤640∧1≤h∧h≤480)∧x.length≤64):=by
   unfold sized
   rw[nQ,nQ,nQ,Bool.eq_iff_iff]
   simp
   omega
  have hin:(Sw32.within w 1 640&&(Sw32.within h 1 480&&Sw32.within (x.length:Int) 0 64))=decide ((1≤w∧w≤640∧1≤h∧h≤480)∧x.length≤64):=by
   rw[fZ,fZ,fZ,Bool.eq_iff_iff]
   simp
   omega
  by_cases c:(1≤w∧w≤640∧1≤h∧h≤480)∧x.length≤64
  ·have hS:Sw32.step s (.begin_ w h (nats x) (x.length:Int))=(Sw32.first w.toNat h.toNat (nats x),Sw32.only 0):=by
    show (if (Sw32.within w 1 640&&(Sw32.within h 1 480&&Sw32.within (x.length:Int) 0 64))=false then _ else _)=_
    rw[hin,decide_eq_true c]
    rfl
   rw[hS]at hst
   rw[hst]
   rw[hsz,decide_eq_true c,if_pos rfl]at a2
   refine⟨?_,w.toNat,h.toNat,by omega,by omega,⟨rfl,rfl⟩,by rw[Int.toNat_of_nonneg (by omega),Int.toNat_of_nonneg (by omega)];exact a2⟩
   have:=xK.VR so w h (nats x) t c.1 (by rw[iV];exact c.2)
   rw[iV,hz]at this
   exact this
  ·have hS:Sw32.step s (.begin_ w h (nats x) (x.length:Int))=(s,Sw32.only (-1)):=by
    show (if (Sw32.within w 1 640&&(Sw32.within h 1 480&&Sw32.within (x.length:Int) 0 64))=false then _ else _)=_
    rw[hin,decide_eq_false c]
    rfl
   rw[hS]at hst
   rw[hsz,decide_eq_false c]at a4 a2
   have hx0:x.length=0:=by
    have:((x.length:Nat):Int)=0:=a4
    omega
   have hsome:so=some s:=by
    cases so with
    | none=>
     obtain⟨h0,_⟩:=hso rfl
     have hs0:Sw32Neutral.start=s:=hs
     rw[hs0,hst]at h0
     exact absurd (show ([-1]:List Int)= [0] from h0) (by decide)
    | some s0=>rw[←hs];rfl
   rw[hst]
   refine⟨?_,W,G,hW,hG,hd,a2⟩
   have:=xK.VV s w h (nats x) t (fun q=>c ⟨q,by omega⟩)
   rw[iV,hz]at this
   rw[hsome]
   exact this
 | fill a b c d col t=>
  have hsome:=some_of (fun ⟨w,h,x,e⟩=>by cases e)
  have e:askedOn W G ([[2,a,b,c,d,col]] :: rest)=(asked1 [[2,a,b,c,d,col]] && askedOn W G rest):=rfl
  have ha:askedOn W G ([[2,a,b,c,d,col]] :: rest)=true:=ha
  rw[e,Bool.and_eq_true]at ha
  obtain⟨a1,a2⟩:=ha
  have a1:(int a&&(int b&&(int c&&(int d&&word col))))=true:=a1
  simp only[Bool.and_eq_true]at a1
  have Xy:0≤col:=by
   have:=a1.2.2.2.2
   unfold word at this
   rw[nQ,decide_eq_true_iff]at this
   exact this.1
  have hst:step s (PySw32.whole [[2,a,b,c,d,col]])=_:=rB (c:= [[2,a,b,c,d,col]]) (s:=s) (x:= .fill a b c d col.toNat) rfl
  rw[hsome]
  obtain⟨col,rfl⟩:∃n:Nat,col=(n:Int):=⟨col.toNat,by omega⟩
  rw[Int.toNat_natCast]at hst
  by_cases hin:Sw32.inside s.screen a b c d=true
  ·have hS:Sw32.step s (.fill a b c d col)=(Sw32.tells {s with screen:=Sw32.painted s.screen ⟨a.toNat,b.toNat,c.toNat,d.toNat⟩ fun _=>col},Sw32.only 0):=by
    show (if Sw32.inside s.screen a b c d=false then _ else _)=_
    rw[hin]
    rfl
   rw[hS]at hst
   rw[hst]
   exact⟨xK.Y7 s a b c d col t hin,W,G,hW,hG,vp hd,a2⟩
  ·have hin:Sw32.inside s.screen a b c d=false:=by simpa using hin
   have hS:Sw32.step s (.fill a b c d col)=(s,Sw32.only (-1)):=by
    show (if Sw32.inside s.screen a b c d=false then _ else _)=_
    rw[hin]
    rfl
   rw[hS]at hst
   rw[hst]
   exact⟨xK.Y6 s a b c d col t hin,W,G,hW,hG,hd,a2⟩
 | put a b c d cols t=>
  have hsome:=some_of (fun ⟨w,h,x,e⟩=>by cases e)
  have e:askedOn W G ([[3,a,b,c,d],cols] :: rest)=(asked1 [[3,a,b,c,d],cols] && (decide ((cols.length:Int)=if Sw32Neutral.inside W G a b c d=true then c*d else 0)&&askedOn W G rest)):=rfl
  have ha:askedOn W G ([[3,a,b,c,d],cols] :: rest)=true:=ha
  rw[e,Bool.and_eq_true,Bool.and_eq_true,decide_eq_true_iff]at ha
  obtain⟨a1,a3,a2⟩:=ha
  have a1:(int a&&(int b&&(int c&&(int d&&elems cols 4294967295))))=true:=a1
  simp only[Bool.and_eq_true]at a1
  have a6:=Gm a1.2.2.2.2
  have hz:zs (nats cols)=cols:=J8 fun z hz=>(a6 z hz).1
  have hst:step s (PySw32.whole [[3,a,b,c,d],cols])=_:=rB (c:= [[3,a,b,c,d],cols]) (s:=s) (x:= .put a b c d (nats cols)) rfl
  have hii:Sw32Neutral.inside W G a b c d=Sw32.inside s.screen a b c d:=by
   unfold Sw32Neutral.inside Sw32.inside
   rw[hd.1,hd.2]
  rw[hii]at a3
  rw[hsome]
  by_cases hin:Sw32.inside s.screen a b c d=true
  ·have hS:Sw32.step s (.put a b c d (nats cols))=(Sw32.tells {s with screen:=Sw32.painted s.screen ⟨a.toNat,b.toNat,c.toNat,d.toNat⟩ fun i=>(nats cols).getD i 0},Sw32.only 0):=by
    show (if Sw32.inside s.screen a b c d=false then _ else _)=_
    rw[hin]
    rfl
   rw[hS]at hst
   rw[hst]
   rw[if_pos hin]at a3
   have ae4:=hin
   rw[xJ,decide_eq_true_iff,hd.1,hd.2]at ae4
   have hcl:cols.length≤307200:=by
    obtain⟨c,rfl⟩:∃n:Nat,c=(n:Int):=⟨c.toNat,by omega⟩
    obtain⟨d,rfl⟩:∃n:Nat,d=(n:Int):=⟨d.toNat,by omega⟩
    have:cols.length=c*d:=by exact_mod_cast a3
    rw[this]
    exact Nat.le_trans (Nat.mul_le_mul (by omega:c≤640) (by omega:d≤480)) (by decide)
   have:=xK.put1 s a b c d (nats cols) t hin (by rw[iV];exact hcl) (by rw[iV];exact a3)
   rw[iV,hz]at this
   exact⟨this,W,G,hW,hG,vp hd,a2⟩
  ·have hin:Sw32.inside s.screen a b c d=false:=by simpa using hin
   have hS:Sw32.step s (.put a b c d (nats cols))=(s,Sw32.only (-1)):=by
    show (if Sw32.inside s.screen a b c d=false then _ else _)=_
    rw[hin]
    rfl
   rw[hS]at hst
   rw[hst]
   rw[hin,if_neg (by decide)]at a3
   have:=xK.aco s a b c d (nats cols) t hin (by rw[iV];omega)
   rw[iV,hz]at this
   exact⟨this,W,G,hW,hG,hd,a2⟩
 | input b t=>
  have hsome:=some_of (fun ⟨w,h,x,e⟩=>by cases e)
  have e:askedOn W G ([[4,(b.length:Int)],b] :: rest)=(asked1 [[4,(b.length:Int)],b] && askedOn W G rest):=rfl
  have ha:askedOn W G ([[4,(b.length:Int)],b] :: rest)=true:=ha
  rw[e,Bool.and_eq_true]at ha
  obtain⟨a1,a2⟩:=ha
  have a1:(int (b.length:Int)&&row b (if Sw32Neutral.within (b.length:Int) 0 65535=true then (b.length:Int)else 0) 255)=true:=a1
  rw[Bool.and_eq_true]at a1
  have a3:=a1.2
  unfold row at a3
  rw[Bool.and_eq_true,decide_eq_true_iff,nQ]at a3
  obtain⟨a4,a5⟩:=a3
  have a6:=Gm a5
  have hz:zs (nats b)=b:=J8 fun z hz=>(a6 z hz).1
  have Gn:b.length≤65535:=by
   by_cases c:(0 :Int)≤(b.length:Int)∧(b.length:Int)≤65535
   ·omega
   ·rw[decide_eq_false c,if_neg (by decide)]at a4
    omega
  have hst:step s (PySw32.whole [[4],b])=_:=rB (c:= [[4,(b.length:Int)],b]) (s:=s) (x:= .input (nats b) (b.length:Int)) rfl
  have hS:Sw32.step s (.input (nats b) (b.length:Int))=((nats b).foldl Sw32.byte s,Sw32.only (((nats b).foldl Sw32.byte s).state:Nat)):=by
   show (if Sw32.within (b.length:Int) 0 65535=false then _ else _)=_
   rw[fZ,decide_eq_true (by constructor<;>omega)]
   rfl
  rw[hS]at hst
  rw[hsome,hst]
  have:=xK.come s (nats b) t (X7 (n:=255) (fun z hz=>a6 z hz)) (by rw[iV];exact Gn)
  rw[iV,hz]at this
  exact⟨this,W,G,hW,hG,Iv _ hd,a2⟩
 | output m t=>
  have hsome:=some_of (fun ⟨w,h,x,e⟩=>by cases e)
  have a2:askedOn W G rest=true:=by
   have:(asked1 [[5,m]] && askedOn W G rest)=true:=ha
   rw[Bool.and_eq_true]at this
   exact this.2
  have hst:step s (PySw32.whole [[5,m]])=_:=rB (c:= [[5,m]]) (s:=s) (x:= .output m) rfl
  rw[hsome]
  by_cases c:0≤m∧m≤2097152
  ·have hS:Sw32.step s (.output m)=(Sw32.tells {s with out:=s.out.drop m.toNat},⟨((s.out.take m.toNat).length:Nat),s.out.take m.toNat,[]⟩):=by
    show (if Sw32.within m 0 2097152=false then _ else _)=_
    rw[fZ,decide_eq_true (by constructor<;>omega)]
    rfl
   rw[hS]at hst
   rw[hst]
   refine⟨?_,W,G,hW,hG,vp hd,a2⟩
   have:=xK.acq s m t c
   simpa[zs,Sw32Neutral.ints]using this
  ·have hS:Sw32.step s (.output m)=(s,Sw32.only (-1)):=by
    show (if Sw32.within m 0 2097152=false then _ else _)=_
    rw[fZ,decide_eq_false (fun q=>c (by omega))]
    rfl
   rw[hS]at hst
   rw[hst]
   exact⟨xK.acp s m t c,W,G,hW,hG,hd,a2⟩
 | event m t=>
  have hsome:=some_of (fun ⟨w,h,x,e⟩=>by cases e)
  have a2:askedOn W G rest=true:=by
   have:(asked1 [[6,m]] && askedOn W G rest)=true:=ha
   rw[Bool.and_eq_true]at this
   exact this.2
  have hst:step s (PySw32.whole [[6,m]])=_:=rB (c:= [[6,m]]) (s:=s) (x:= .event m) rfl
  rw[hsome]
  by_cases c:0≤m∧m≤4096
  ·have hS0:Sw32.step s (.event m)=(match s.events with
    | []=>(s,Sw32.only (-2))
    | .key d k::r=>({s with events:=r},⟨0,[],[1,d,k,0]⟩)
    | .pointer m x y::r=>({s with events:=r},⟨0,[],[2,m,x,y]⟩)
    | .text b::r=>if m<(b.length:Int)then (s,Sw32.only (-6))else ({s with events:=r},⟨b.length,b,[3,b.length,0,0]⟩)):=by
    show (if Sw32.within m 0 4096=false then _ else _)=_
    rw[fZ,decide_eq_true (by constructor<;>omega)]
    rfl
   cases hev:s.events with
   | nil=>
    rw[hev]at hS0
    rw[hS0]at hst
    rw[hst]
    exact⟨xK.ev0 s m (-2) t (.inr (.inl ⟨c,hev,rfl⟩)),W,G,hW,hG,hd,a2⟩
   | cons ev r=>
    rw[hev]at hS0
    cases ev with
    | key d k=>
     rw[hS0]at hst
     rw[hst]
     have:=xK.ev1 s m (.key d k) r t c hev (by show ¬m<0;omega)
     exact⟨this,W,G,hW,hG,hd,a2⟩
    | pointer mm xx yy=>
     rw[hS0]at hst
     rw[hst]
     have:=xK.ev1 s m (.pointer mm xx yy) r t c hev (by show ¬m<0;omega)
     exact⟨this,W,G,hW,hG,hd,a2⟩
    | text b=>
     dsimp only at hS0
     by_cases cl:m<(b.length:Int)
     ·rw[if_pos cl]at hS0
      rw[hS0]at hst
      rw[hst]
      exact⟨xK.ev0 s m (-6) t (.inr (.inr ⟨c,⟨_,_,hev,cl⟩,rfl⟩)),W,G,hW,hG,hd,a2⟩
     ·rw[if_neg cl]at hS0
      rw[hS0]at hst
      rw[hst]
      have:=xK.ev1 s m (.text b) r t c hev cl
      refine⟨?_,W,G,hW,hG,hd,a2⟩
      simpa[zs,Sw32Neutral.ints,j6,Ad]using this
  ·have hS:Sw32.step s (.event m)=(s,Sw32.only (-1)):=by
    show (if Sw32.within m 0 4096=false then _ else _)=_
    rw[fZ,decide_eq_false (fun q=>c (by omega))]
    rfl
   rw[hS]at hst
   rw[hst]
   exact⟨xK.ev0 s m (-1) t (.inl ⟨c,rfl⟩),W,G,hW,hG,hd,a2⟩
 | told t=>
  have hsome:=some_of (fun ⟨w,h,x,e⟩=>by cases e)
  have hst:step s (PySw32.whole [[7]])=_:=rB (c:= [[7]]) (s:=s) (x:= .told) rfl
  rw[hsome,hst]
  exact⟨xK.told s t,W,G,hW,hG,hd,by have:(asked1 [[7]] && askedOn W G rest)=true:=ha;rw[Bool.and_eq_true]at this;exact this.2⟩
open Sw32Neutral in
theorem V5:∀(V6:List (List (List Int))){f:Nat}{l:List Int}{so:Option Sw32.St}{s:Sw32.St}{W G:Nat},so.getD Sw32Neutral.start=s→Tp s W G→W≤640→G≤480→PyFlat.calls PySw32.shape f l=some V6→askedOn W G (V6.map PySw32.whole)=true→
  (so=none→∀c r,V6=c::r→(step Sw32Neutral.start (PySw32.whole c)).2= [0]∧∃w h x,c= [[1,w,h],x])→uM so l (PyFlat.played step s (V6.map PySw32.whole))
 | [],f,l,so,s,W,G,hs,hd,hW,hG,hc,ha,hf=>by
  cases l with
  | nil=>exact uM.nil so
  | cons p r=>
   obtain⟨f',c,t,cs',_,_,e⟩:=xq (by simp) hc
   cases e
 | c::cs1,f,l,so,s,W,G,hs,hd,hW,hG,hc,ha,hf=>by
  have hl:l≠ []:=fun e=>by
   rw[e]at hc
   have:=Ib hc
   cases this
  obtain⟨f',c',t,cs',C,hc',e⟩:=xq hl hc
  cases e
  obtain⟨g1,W',G',hW',hG',hd',ha'⟩:=aaJ hs C hd hW hG ha fun h=>hf h _ _ rfl
  exact uM.cons so l t _ _ _ hl g1 (V5 cs1 (so:=some (step s (PySw32.whole c)).1) rfl hd' hW' hG' hc' ha' fun h=>by cases h)
theorem V7{c:List (List Int)}{l t:List Int}(C:nG l c t)(h:((PySw32.whole c).headD []).head?=some 1):∃w h x,c= [[1,w,h],x]:=by
 cases C with
 | begin_ w g x t=>exact⟨w,g,x,rfl⟩
 | fill a b c d col t=>exact absurd (show (some (2 :Int))=some 1 from h) (by decide)
 | put a b c d cols t=>exact absurd (show (some (3 :Int))=some 1 from h) (by decide)
 | input b t=>exact absurd (show (some (4 :Int))=some 1 from h) (by decide)
 | output m t=>exact absurd (show (some (5 :Int))=some 1 from h) (by decide)
 | event m t=>exact absurd (show (some (6 :Int))=some 1 from h) (by decide)
 | told t=>exact absurd (show (some (7 :Int))=some 1 from h) (by decide)
theorem V8{l:List Int}(h:PySw32.answers_asked l=true):∃rA,uM none l rA∧PyFlat.told rA=PySw32.answers l∧(PyFlat.told rA).length≤10000000:=by
 unfold PySw32.answers_asked PySw32.answers PySw32.calls at h
 cases hc:PyFlat.calls PySw32.shape l.length l with
 | none=>rw[hc]at h;cases h
 | some V6=>
  rw[hc]at h
  have ea:PySw32.answers l=PyFlat.told (PyFlat.played Sw32Neutral.step Sw32Neutral.start (V6.map PySw32.whole)):=by
   unfold PySw32.answers PySw32.calls
   rw[hc]
  have h:(PyFlat.atMost 300 (V6.map PySw32.whole)&&Sw32Neutral.asked (V6.map PySw32.whole)&&PyFlat.short 10000000 (PyFlat.told (PyFlat.played Sw32Neutral.step Sw32Neutral.start (V6.map PySw32.whole))))=true:=h
  rw[Bool.and_eq_true,Bool.and_eq_true]at h
  obtain⟨⟨_,h2⟩,h3⟩:=h
  have h3:(PyFlat.told (PyFlat.played Sw32Neutral.step Sw32Neutral.start (V6.map PySw32.whole))).length≤10000000:=by
   unfold PyFlat.short at h3
   exact of_decide_eq_true h3
  unfold Sw32Neutral.asked at h2
  rw[Bool.and_eq_true]at h2
  obtain⟨h4,h5⟩:=h2
  refine cW (V5 V6 (so:=none) (W:=1) (G:=1) rfl ⟨rfl,rfl⟩ (by decide) (by decide) hc h4 (fun _ c r e=> ?_)) ea.symm h3
  subst e
  have h5:(decide (((PySw32.whole c).headD []).head?=some 1)&&decide ((Sw32Neutral.step Sw32Neutral.start (PySw32.whole c)).2= [0]))=true:=h5
  rw[Bool.and_eq_true,decide_eq_true_iff,decide_eq_true_iff]at h5
  have hl:l≠ []:=fun e=>by
   rw[e]at hc
   have:=Ib hc
   cases this
  obtain⟨f',c',t,cs',C,_,e⟩:=xq hl hc
  cases e
  exact⟨h5.2,V7 C h5.1⟩
end
end Fs
end
section
set_option maxHeartbeats 4000000
namespace Fs
open PySem PySem.Spec PyProof.Rows L2
section
variable{K:PySem.W.Frag}{h:Heap}{mg:Str→Option Value}{x m qual:Str}{st:Stmt}{f C:Addr}{ps ns:List Str}
theorem uN{α β:Type}{f g:α→β}{L:List α}(e:L.map f=L.map g){i:Nat}{r:α}(h:L[i]? =some r):f r=g r:=List.map_inj_left.mp e r (List.mem_of_getElem? h)
theorem lcs{us:List Value}{n:Nat}(h:us.length=n+1):∃u t,us=u::t∧t.length=n:=by
 cases us with
 | nil=>cases h
 | cons u t=>exact⟨u,t,rfl,Nat.succ.inj h⟩
theorem xM{p0:Str}(h:∀(kV doc pm:Value)(an:Option Addr)(cdv ct u0:Value),bindArgs (PySem.W.fnOf x qual (iW st) (gb st) (aB st) .none kV doc pm an cdv ct) ⟨[u0],[]⟩=pure [(p0,u0)]):BF x qual st [p0]:=fun a b c d e f us hl=>by
 obtain⟨u0,t0,rfl,l0⟩:=lcs hl
 obtain rfl:=List.eq_nil_of_length_eq_zero l0
 exact h a b c d e f u0
theorem sU{p0 p1:Str}(h:∀(kV doc pm:Value)(an:Option Addr)(cdv ct u0 u1:Value),bindArgs (PySem.W.fnOf x qual (iW st) (gb st) (aB st) .none kV doc pm an cdv ct) ⟨[u0,u1],[]⟩=pure [(p0,u0),(p1,u1)]):BF x qual st [p0,p1]:=fun a b c d e f us hl=>by
 obtain⟨u0,t0,rfl,l0⟩:=lcs hl;obtain⟨u1,t1,rfl,l1⟩:=lcs l0
 obtain rfl:=List.eq_nil_of_length_eq_zero l1
 exact h a b c d e f u0 u1
theorem V9{p0 p1 p2:Str}(h:∀(kV doc pm:Value)(an:Option Addr)(cdv ct u0 u1 u2:Value),bindArgs (PySem.W.fnOf x qual (iW st) (gb st) (aB st) .none kV doc pm an cdv ct) ⟨[u0,u1,u2],[]⟩=pure [(p0,u0),(p1,u1),(p2,u2)]):BF x qual st [p0,p1,p2]:=fun a b c d e f us hl=>by
 obtain⟨u0,t0,rfl,l0⟩:=lcs hl;obtain⟨u1,t1,rfl,l1⟩:=lcs l0;obtain⟨u2,t2,rfl,l2⟩:=lcs l1
 obtain rfl:=List.eq_nil_of_length_eq_zero l2
 exact h a b c d e f u0 u1 u2
theorem bf4{p0 p1 p2 p3:Str}(h:∀(kV doc pm:Value)(an:Option Addr)(cdv ct u0 u1 u2 u3:Value),bindArgs (PySem.W.fnOf x qual (iW st) (gb st) (aB st) .none kV doc pm an cdv ct) ⟨[u0,u1,u2,u3],[]⟩=pure [(p0,u0),(p1,u1),(p2,u2),(p3,u3)]):BF x qual st [p0,p1,p2,p3]:=fun a b c d e f us hl=>by
 obtain⟨u0,t0,rfl,l0⟩:=lcs hl;obtain⟨u1,t1,rfl,l1⟩:=lcs l0;obtain⟨u2,t2,rfl,l2⟩:=lcs l1;obtain⟨u3,t3,rfl,l3⟩:=lcs l2
 obtain rfl:=List.eq_nil_of_length_eq_zero l3
 exact h a b c d e f u0 u1 u2 u3
theorem bf5{p0 p1 p2 p3 p4:Str}(h:∀(kV doc pm:Value)(an:Option Addr)(cdv ct u0 u1 u2 u3 u4:Value),bindArgs (PySem.W.fnOf x qual (iW st) (gb st) (aB st) .none kV doc pm an cdv ct) ⟨[u0,u1,u2,u3,u4],[]⟩=pure [(p0,u0),(p1,u1),(p2,u2),(p3,u3),(p4,u4)]):BF x qual st [p0,p1,p2,p3,p4]:=fun a b c d e f us hl=>by
 obtain⟨u0,t0,rfl,l0⟩:=lcs hl;obtain⟨u1,t1,rfl,l1⟩:=lcs l0;obtain⟨u2,t2,rfl,l2⟩:=lcs l1;obtain⟨u3,t3,rfl,l3⟩:=lcs l2;obtain⟨u4,t4,rfl,l4⟩:=lcs l3
 obtain rfl:=List.eq_nil_of_length_eq_zero l4
 exact h a b c d e f u0 u1 u2 u3 u4
theorem bf6{p0 p1 p2 p3 p4 p5:Str}(h:∀(kV doc pm:Value)(an:Option Addr)(cdv ct u0 u1 u2 u3 u4 u5:Value),bindArgs (PySem.W.fnOf x qual (iW st) (gb st) (aB st) .none kV doc pm an cdv ct) ⟨[u0,u1,u2,u3,u4,u5],[]⟩=pure [(p0,u0),(p1,u1),(p2,u2),(p3,u3),(p4,u4),(p5,u5)]):BF x qual st [p0,p1,p2,p3,p4,p5]:=fun a b c d e f us hl=>by
 obtain⟨u0,t0,rfl,l0⟩:=lcs hl;obtain⟨u1,t1,rfl,l1⟩:=lcs l0;obtain⟨u2,t2,rfl,l2⟩:=lcs l1;obtain⟨u3,t3,rfl,l3⟩:=lcs l2;obtain⟨u4,t4,rfl,l4⟩:=lcs l3;obtain⟨u5,t5,rfl,l5⟩:=lcs l4
 obtain rfl:=List.eq_nil_of_length_eq_zero l5
 exact h a b c d e f u0 u1 u2 u3 u4 u5
noncomputable def obF(K:PySem.W.Frag)(f:Addr):=match K.lookup f with
 | some ⟨_,_,.func fd,_⟩=>some (fd.name,fd.qualname,fd.params,fd.body,fd.scope,fd.globals,fd.closure,fd.defaults,fd.builtins,PySem.W.codeIn K fd.code fd.qualname,PySem.W.keepIn K (.ref f),PySem.W.isFn K (.ref f))
 | _=>none
noncomputable def exF(x q:Str)(st:Stmt):=some (x,q,iW st,FuncBody.stmts (gb st),aB st,mainGlobals,([]:List (Str × Addr)),Value.none,builtinsNs,true,true,true)
theorem Y9(e:obF K f=exF x qual st)(b:BF x qual st ps):(∃fd,Yq K x qual st f fd∧Binds K fd ps [])∧PySem.W.keepIn K (.ref f)=true∧PySem.W.isFn K (.ref f)=true:=by
 unfold obF exF at e
 split at e
 ·rename_i oc od fd osl l
  obtain⟨name,qn,params,body,scope,gl,cl,df,kv,doc,pm,an,cd,ct,bl⟩:=fd
  simp only[Option.some.injEq,Prod.mk.injEq]at e
  obtain⟨rfl,rfl,rfl,rfl,rfl,rfl,rfl,rfl,rfl,c,k,i⟩:=e
  exact⟨⟨_,Uy l c k,(Uy l c k).binds b⟩,k,i⟩
 ·cases e
noncomputable def gOb(K:PySem.W.Frag)(r:Str × Stmt × Addr):=(PySem.W.nsIn K mainGlobals r.1,obF K r.2.2)
noncomputable def gEx(r:Str × Stmt × Addr):=(some (some (Value.ref r.2.2)),exF r.1 r.1 r.2.1)
theorem gq(X:K.In h)(G:h.Ns mainGlobals mg){L:List (Str × Stmt × Addr)}(e:L.map (gOb K)=L.map gEx)(i:Nat)(hi:L[i]? =some (x,st,f))(b:BF x x st ps):GF K mg x st f ps:=by
 obtain⟨a,c⟩:=Prod.mk.inj (uN e hi)
 exact⟨PySem.W.mg_of X G a,(Y9 c b).1⟩
noncomputable def mOb(K:PySem.W.Frag)(r:Addr × Str × Str × Stmt × Addr):=(PySem.W.findIn K (.ref r.1) r.2.1,obF K r.2.2.2.2)
noncomputable def mEx(r:Addr × Str × Str × Stmt × Addr):=(some (some (Value.ref r.2.2.2.2)),exF r.2.1 r.2.2.1 r.2.2.2.1)
theorem mq{L:List (Addr × Str × Str × Stmt × Addr)}(e:L.map (mOb K)=L.map mEx)(i:Nat)(hi:L[i]? =some (C,m,qual,st,f))(n:ns.contains m=false)(b:BF m qual st ps):MF K C ns m qual st f ps:=by
 obtain⟨a,c⟩:=Prod.mk.inj (uN e hi)
 obtain⟨c1,c2,c3⟩:=Y9 c b
 exact⟨⟨a,c3,c2⟩,fun hm=>(Bool.noConfusion ((List.contains_iff_mem.mpr hm).symm.trans n)),c1⟩
noncomputable def cOb(K:PySem.W.Frag)(r:Str × Addr × Addr × List Str):=(PySem.W.nsIn K mainGlobals r.1,PySem.W.makesIn K r.2.1,PySem.W.findIn K (.ref r.2.1) "__init__",PySem.W.isFn K (.ref r.2.2.1),PySem.W.keepIn K (.ref r.2.1),PySem.W.plainGet K r.2.1 Str.empty,PySem.W.hasDictIn K r.2.1,PySem.W.plainOver K r.2.1,PySem.W.findIn K (.ref r.2.1) "__setattr__",r.2.2.2.map fun y=>PySem.W.findIn K (.ref r.2.1) y)
noncomputable def cEx(r:Str × Addr × Addr × List Str):=(some (some (Value.ref r.2.1)),true,some (some (Value.ref r.2.2.1)),true,true,true,true,true,some (some (Value.builtin "object.__setattr__")),r.2.2.2.map fun _=>(some none:Option (Option Value)))
theorem cq(X:K.In h)(G:h.Ns mainGlobals mg){L:List (Str × Addr × Addr × List Str)}(e:L.map (cOb K)=L.map cEx)(i:Nat)(hi:L[i]? =some (x,C,f,ns)):CF K mg x C f:=by
 have q:=uN e hi
 simp only[cOb,cEx,Prod.mk.injEq]at q
 exact⟨PySem.W.mg_of X G q.1,q.2.1,q.2.2.1,q.2.2.2.1,q.2.2.2.2.1⟩
theorem kq{L:List (Str × Addr × Addr × List Str)}(e:L.map (cOb K)=L.map cEx)(i:Nat)(hi:L[i]? =some (x,C,f,ns))(n:ns.Nodup)(s:ns.length<100):Kl K C ns:=by
 have q:=uN e hi
 simp only[cOb,cEx,Prod.mk.injEq]at q
 obtain⟨_,_,_,_,_,a,b,c,d,no⟩:=q
 exact⟨⟨a,b,c,d⟩,n,fun y hy=>List.map_inj_left.mp no y hy,s⟩
theorem lq{L:List (Str × Option (Option Value))}(e:(L.map fun r=>PySem.W.nsIn K mainGlobals r.1)=L.map (·.2))(i:Nat){v:Option (Option Value)}(hi:L[i]? =some (x,v)):PySem.W.nsIn K mainGlobals x=v:=uN e hi
noncomputable def iOb(K:PySem.W.Frag)(x:Str):Option Int:=match PySem.W.nsIn K mainGlobals x with
 | some (some (.int i _))=>some i
 | _=>none
noncomputable def sOb(K:PySem.W.Frag)(x:Str):Option Str:=match PySem.W.nsIn K mainGlobals x with
 | some (some (.str i _))=>some i
 | _=>none
theorem iq(X:K.In h)(G:h.Ns mainGlobals mg){L:List (Str × Int)}(e:(L.map fun r=>iOb K r.1)=L.map fun r=>some r.2)(i:Nat){v:Int}(hi:L[i]? =some (x,v)):∃t,mg x=some (.int v t):=by
 have q:=uN e hi
 dsimp only[iOb]at q
 split at q
 ·rename_i j t l;cases q;exact⟨t,PySem.W.mg_of X G l⟩
 ·cases q
theorem sq(X:K.In h)(G:h.Ns mainGlobals mg){L:List (Str × Str)}(e:(L.map fun r=>sOb K r.1)=L.map fun r=>some r.2)(i:Nat){v:Str}(hi:L[i]? =some (x,v)):∃t,mg x=some (.str v t):=by
 have q:=uN e hi
 dsimp only[sOb]at q
 split at q
 ·rename_i j t l;cases q;exact⟨t,PySem.W.mg_of X G l⟩
 ·cases q
noncomputable def Np:Value→Option Int
 | .int i _=>some i
 | _=>none
noncomputable def tOb(K:PySem.W.Frag)(a:Addr):=match K.lookup a with
 | some ⟨.type T,_,.seq it _,_⟩=>some (T,it.toList.map Np)
 | _=>none
theorem Iw:∀ {us:List Value}{xs:List Int},us.map Np=xs.map some→Vals (xs.map V.int) us
 | [],[],_=> .nil
 | u::us,x::xs,e=>by
  simp only[List.map_cons,List.cons.injEq]at e
  obtain⟨e1,e2⟩:=e
  unfold Np at e1
  split at e1
  ·cases e1;exact .cons ⟨_,rfl⟩ (Iw e2)
  ·cases e1
 | [],_::_,e=>by cases e
 | _::_,[],e=>by cases e
theorem tq{L:List (Addr × List Int)}(e:(L.map fun r=>tOb K r.1)=L.map fun r=>some ("tuple",r.2.map some))(i:Nat){a:Addr}{xs:List Int}(hi:L[i]? =some (a,xs))(z:xs.length≤1000)(H:Hp):iT K H a (xs.map V.int):=by
 have q:=uN e hi
 dsimp only[tOb]at q
 split at q
 ·rename_i T od it nn sl l
  simp only[Option.some.injEq,Prod.mk.injEq]at q
  obtain⟨rfl,q⟩:=q
  have v:=Iw q
  have hl:it.size=xs.length:=by have:=congrArg List.length q;simpa using this
  exact aak l v (by rw[hl];exact Nat.le_trans z (by rw[sizeLine_eq];decide)) H
 ·cases q
noncomputable def dOb(K:PySem.W.Frag)(a:Addr):=match K.lookup a with
 | some ⟨.type T,none,.dict es _,sl⟩=>some (T,sl.size,es.toList.map fun e:DictEntry=>(e.hash,Np e.key,Np e.val))
 | _=>none
theorem Za:∀ {es:List DictEntry}{D:List (Int × Int)},(es.map fun e:DictEntry=>(e.hash,Np e.key,Np e.val))=D.map (fun p=>(hashInt p.1,some p.1,some p.2))→Ov es D
 | [],[],_=> .nil
 | ⟨hs,k,v⟩::es,(i,j)::D,e=>by
  simp only[List.map_cons,List.cons.injEq,Prod.mk.injEq]at e
  obtain⟨⟨e1,e2,e3⟩,e4⟩:=e
  unfold Np at e2 e3
  split at e2
  ·split at e3
   ·cases e2;cases e3;exact .cons e1 (Za e4)
   ·cases e3
  ·cases e2
 | [],_::_,e=>by cases e
 | _::_,[],e=>by cases e
theorem dq{a:Addr}{D:List (Int × Int)}(e:dOb K a=some ("dict",0,D.map fun p=>(hashInt p.1,some p.1,some p.2)))(n:(a==sysModules)=false)(nd:(D.map (·.1)).Nodup):∀h:Heap,K.In h→∀(P:Program)(w:World),IntTab P w h a (Dr D):=by
 unfold dOb at e
 split at e
 ·rename_i T es ep sl l
  simp only[Option.some.injEq,Prod.mk.injEq]at e
  obtain⟨rfl,s,q⟩:=e
  obtain rfl:sl= #[]:=Array.eq_empty_of_size_eq_zero s
  exact Xf l (Za q) n nd
 ·cases e
end
noncomputable def gR:List (Str × Stmt × Addr):=("marked_anew",nW,132) ::
 ("number_octets",oN,139) ::
 ("octets_number",oO,146) ::
 ("text_octets",nY,151) ::
 ("is_all_ones",wN,204) ::
 ("plain_points",qt,260) ::
 ("row_stretches",oR,267) ::
 ("all_stretches",oU,274) ::
 ("ground_of",zN,281) ::
 ("runs_upon",uW,286) ::
 ("color_of_all",tG,293) ::
 ("tiled_points",lZ,319) ::
 ("tile_octets",tH,326) ::
 ("head_octets",tK,333) ::
 ("runs_octets",tL,340) ::
 ("update_octets",oV,348) ::
 ("box_octets",wQ,355) ::
 ("points_in_way",qu,362) ::
 ("points_by_runs",oW,369) ::
 ("message_size",qx,454) ::
 ("text_length",tQ,461) ::
 ("is_too_long",wU,468) ::
 ("take_message",qy,475) ::
 ("follow",Jw,482) ::
 ("take_form",zR,489) ::
 ("take_ways",zT,496) ::
 ("take_ask",ye,501) ::
 ("take_key",Dv,508) ::
 ("take_pointer",qz,515) ::
 ("take_text",zU,522) ::
 ("bytes_come",wV,529) ::
 ("wanted",Jx,536) ::
 ("take_part",zV,543) ::
 ("take_hello",wW,550) ::
 ("version_of",wX,557) ::
 ("take_choice",tU,564) ::
 ("take_share",wY,571) ::
 ("answers",Dw,708) ::
 ("answer",Jy,715) ::
 []
noncomputable def mR:List (Addr × Str × Str × Stmt × Addr):=(52,"__init__","Box.__init__",Ds,28) ::
 (52,"right","Box.right",zH,35) ::
 (52,"below","Box.below",zJ,42) ::
 (52,"lies_within","Box.lies_within",mX,49) ::
 (123,"__init__","Canvas.__init__",lz,68) ::
 (123,"holds","Canvas.holds",qm,75) ::
 (123,"fill","Canvas.fill",tE,82) ::
 (123,"put","Canvas.put",wK,89) ::
 (123,"put_row","Canvas.put_row",oK,96) ::
 (123,"changed_within","Canvas.changed_within",gU,103) ::
 (123,"changed_points","Canvas.changed_points",eG,108) ::
 (123,"settle","Canvas.settle",oM,115) ::
 (123,"colors_within","Canvas.colors_within",fC,120) ::
 (193,"__init__","Form.__init__",uV,164) ::
 (193,"is_right","Form.is_right",qp,171) ::
 (193,"parts_are_apart","Form.parts_are_apart",jd,178) ::
 (193,"point","Form.point",wM,185) ::
 (193,"new_point","Form.new_point",km,190) ::
 (249,"__init__","Pipe.__init__",zK,218) ::
 (249,"add","Pipe.add",Dt,225) ::
 (249,"held","Pipe.held",zL,232) ::
 (249,"front","Pipe.front",wO,239) ::
 (249,"take","Pipe.take",zM,246) ::
 (310,"__init__","Left.__init__",zO,307) ::
 (442,"__init__","Line.__init__",zP,383) ::
 (442,"send","Line.send",zQ,390) ::
 (442,"give_out","Line.give_out",qw,397) ::
 (442,"close","Line.close",wR,404) ::
 (442,"hand_on","Line.hand_on",tO,411) ::
 (442,"first_event","Line.first_event",lK,418) ::
 (442,"drop_event","Line.drop_event",mY,425) ::
 (442,"ask","Line.ask",Du,432) ::
 (442,"see_to_asked","Line.see_to_asked",lL,439) ::
 (635,"__init__","Session.__init__",qC,585) ::
 (635,"begin","Session.begin",oX,592) ::
 (635,"fill","Session.fill",qD,599) ::
 (635,"put","Session.put",nZ,604) ::
 (635,"come","Session.come",qF,611) ::
 (635,"output","Session.output",mZ,618) ::
 (635,"event","Session.event",oY,625) ::
 (635,"told","Session.told",qG,632) ::
 (697,"__init__","Reader.__init__",tV,666) ::
 (697,"is_done","Reader.is_done",oZ,673) ::
 (697,"number","Reader.number",o9,680) ::
 (697,"numbers","Reader.numbers",m6,687) ::
 (697,"row","Reader.row",wZ,694) ::
 []
noncomputable def cR:List (Str × Addr × Addr × List Str):=("Box",52,28,Lh) ::
 ("Canvas",123,68,eN) ::
 ("Form",193,164,lU) ::
 ("Pipe",249,218,gW) ::
 ("Left",310,307,Li) ::
 ("Line",442,383,bZ) ::
 ("Session",635,585,bK) ::
 ("Reader",697,666,iY) ::
 []
noncomputable def rR:List (Str × Option (Option Value)):=("FIRST_FORM",some (some (.ref 152))) ::
 ("WAYS",some (some (.ref 341))) ::
 ("SIZES",some (some (.ref 447))) ::
 ("enumerate",some none) ::
 ("len",some none) ::
 ("list",some none) ::
 ("max",some none) ::
 ("min",some none) ::
 ("ord",some none) ::
 ("range",some none) ::
 ("sum",some none) ::
 ("zip",some none) ::
 []
noncomputable def iR:List (Str × Int):=("SIDE",16) ::
 ("PLAIN",1) ::
 ("WITH_GROUND",2) ::
 ("WITH_COLOR",4) ::
 ("WITH_RUNS",8) ::
 ("MANY_COLORS",16) ::
 ("BY_POINTS",0) ::
 ("BY_RUNS",2) ::
 ("BY_TILES",5) ::
 ("MOST_EVENTS",64) ::
 ("STEP_HELLO",0) ::
 ("STEP_CHOICE",1) ::
 ("STEP_SHARE",2) ::
 ("STEP_MESSAGES",3) ::
 ("STEP_CLOSED",4) ::
 ("SET_FORM",0) ::
 ("SET_WAYS",2) ::
 ("ASK",3) ::
 ("KEY",4) ::
 ("POINTER",5) ::
 ("TEXT",6) ::
 ("HEAD",8) ::
 ("MOST_TEXT",4096) ::
 ("KEY_EVENT",1) ::
 ("POINTER_EVENT",2) ::
 ("TEXT_EVENT",3) ::
 ("HELLO_SIZE",12) ::
 ("NO_PASSWORD",1) ::
 ("DONE",0) ::
 ("OUT_OF_RANGE",(-1)) ::
 ("NOTHING_THERE",(-2)) ::
 ("TOO_LONG",(-6)) ::
 ("MOST_W",640) ::
 ("MOST_H",480) ::
 ("COLORS",16777216) ::
 ("MOST_OUTPUT",2097152) ::
 ("MOST_EVENT",4096) ::
 ("BEGIN_CALL",1) ::
 ("FILL_CALL",2) ::
 ("PUT_CALL",3) ::
 ("INPUT_CALL",4) ::
 ("OUTPUT_CALL",5) ::
 ("EVENT_CALL",6) ::
 ("TOLD_CALL",7) ::
 []
noncomputable def sR:List (Str × Str):=("CHANGED","1") ::
 ("TOLD","0") ::
 ("HELLO","RFB 003.008\n") ::
 ("REASON","unknown") ::
 []
noncomputable def tR:List (Addr × List Int):=(152,[32,24,0,1,0,255,0,255,0,255,16,8,0,0,0,0]) ::
 (341,[0,2,5]) ::
 []
noncomputable def dA:Addr:=447
noncomputable def dR:List (Int × Int):= [(0,20),(2,4),(3,10),(4,8),(5,6),(6,8)]
noncomputable abbrev Seen(K:PySem.W.Frag):Prop:=gR.map (gOb K)=gR.map gEx∧mR.map (mOb K)=mR.map mEx∧cR.map (cOb K)=cR.map cEx∧(rR.map fun r=>PySem.W.nsIn K mainGlobals r.1)=rR.map (·.2)∧(iR.map fun r=>iOb K r.1)=(iR.map fun r=>some r.2)∧(sR.map fun r=>sOb K r.1)=(sR.map fun r=>some r.2)∧(tR.map fun r=>tOb K r.1)=(tR.map fun r=>some ("tuple",r.2.map some))∧dOb K dA=some ("dict",0,dR.map fun p=>(hashInt p.1,some p.1,some p.2))
noncomputable def adr(K:PySem.W.Frag):bB:=⟨52,123,193,249,310,442,635,697,28,35,42,49,68,75,82,89,96,103,108,115,120,132,139,146,151,164,171,178,185,190,204,218,225,232,239,246,260,267,274,281,286,293,307,319,326,333,340,348,355,362,369,383,390,397,404,411,418,425,432,439,454,461,468,475,482,489,496,501,508,515,522,529,536,543,550,557,564,571,585,592,599,604,611,618,625,632,666,673,680,687,694,708,715,152,341,447,K⟩
theorem aaK{K:PySem.W.Frag}{h:Heap}{mg:Str→Option Value}(X:K.In h)(G:h.Ns mainGlobals mg)(E:Seen K):Txt K mg (adr K) where
 dD:=kq E.2.2.1 0 rfl (by decide) (by decide)
 Hy:=cq X G E.2.2.1 0 rfl
 bV:=kq E.2.2.1 1 rfl (by decide) (by decide)
 Ln:=cq X G E.2.2.1 1 rfl
 dm:=kq E.2.2.1 2 rfl (by decide) (by decide)
 Oo:=cq X G E.2.2.1 2 rfl
 gk:=kq E.2.2.1 3 rfl (by decide) (by decide)
 Jz:=cq X G E.2.2.1 3 rfl
 vM:=kq E.2.2.1 4 rfl (by decide) (by decide)
 U3:=cq X G E.2.2.1 4 rfl
 aY:=kq E.2.2.1 5 rfl (by decide) (by decide)
 U4:=cq X G E.2.2.1 5 rfl
 bT:=kq E.2.2.1 6 rfl (by decide) (by decide)
 Hz:=cq X G E.2.2.1 6 rfl
 cB:=kq E.2.2.1 7 rfl (by decide) (by decide)
 Lp:=cq X G E.2.2.1 7 rfl
 pL:=mq E.2.1 0 rfl rfl (bf5 fun _ _ _ _ _ _ _ _ _ _ _=>by kernel_rfl)
 fK:=mq E.2.1 1 rfl rfl (xM fun _ _ _ _ _ _ _=>by kernel_rfl)
 gw:=mq E.2.1 2 rfl rfl (xM fun _ _ _ _ _ _ _=>by kernel_rfl)
 dW:=mq E.2.1 3 rfl rfl (V9 fun _ _ _ _ _ _ _ _ _=>by kernel_rfl)
 jj:=mq E.2.1 4 rfl rfl (V9 fun _ _ _ _ _ _ _ _ _=>by kernel_rfl)
 eQ:=mq E.2.1 5 rfl rfl (sU fun _ _ _ _ _ _ _ _=>by kernel_rfl)
 jk:=mq E.2.1 6 rfl rfl (V9 fun _ _ _ _ _ _ _ _ _=>by kernel_rfl)
 jQ:=mq E.2.1 7 rfl rfl (V9 fun _ _ _ _ _ _ _ _ _=>by kernel_rfl)
 eZ:=mq E.2.1 8 rfl rfl (bf4 fun _ _ _ _ _ _ _ _ _ _=>by kernel_rfl)
 cM:=mq E.2.1 9 rfl rfl (sU fun _ _ _ _ _ _ _ _=>by kernel_rfl)
 cN:=mq E.2.1 10 rfl rfl (xM fun _ _ _ _ _ _ _=>by kernel_rfl)
 gA:=mq E.2.1 11 rfl rfl (sU fun _ _ _ _ _ _ _ _=>by kernel_rfl)
 cV:=mq E.2.1 12 rfl rfl (sU fun _ _ _ _ _ _ _ _=>by kernel_rfl)
 jl:=gq X G E.1 0 rfl (V9 fun _ _ _ _ _ _ _ _ _=>by kernel_rfl)
 bI:=gq X G E.1 1 rfl (sU fun _ _ _ _ _ _ _ _=>by kernel_rfl)
 bY:=gq X G E.1 2 rfl (xM fun _ _ _ _ _ _ _=>by kernel_rfl)
 fW:=gq X G E.1 3 rfl (xM fun _ _ _ _ _ _ _=>by kernel_rfl)
 mF:=mq E.2.1 13 rfl rfl (sU fun _ _ _ _ _ _ _ _=>by kernel_rfl)
 ir:=mq E.2.1 14 rfl rfl (xM fun _ _ _ _ _ _ _=>by kernel_rfl)
 dh:=mq E.2.1 15 rfl rfl (xM fun _ _ _ _ _ _ _=>by kernel_rfl)
 dX:=mq E.2.1 16 rfl rfl (sU fun _ _ _ _ _ _ _ _=>by kernel_rfl)
 gB:=mq E.2.1 17 rfl rfl (sU fun _ _ _ _ _ _ _ _=>by kernel_rfl)
 jR:=gq X G E.1 4 rfl (xM fun _ _ _ _ _ _ _=>by kernel_rfl)
 mG:=mq E.2.1 18 rfl rfl (xM fun _ _ _ _ _ _ _=>by kernel_rfl)
 m7:=mq E.2.1 19 rfl rfl (sU fun _ _ _ _ _ _ _ _=>by kernel_rfl)
 jm:=mq E.2.1 20 rfl rfl (xM fun _ _ _ _ _ _ _=>by kernel_rfl)
 je:=mq E.2.1 21 rfl rfl (sU fun _ _ _ _ _ _ _ _=>by kernel_rfl)
 jT:=mq E.2.1 22 rfl rfl (sU fun _ _ _ _ _ _ _ _=>by kernel_rfl)
 gf:=gq X G E.1 5 rfl (sU fun _ _ _ _ _ _ _ _=>by kernel_rfl)
 gC:=gq X G E.1 6 rfl (sU fun _ _ _ _ _ _ _ _=>by kernel_rfl)
 fc:=gq X G E.1 7 rfl (xM fun _ _ _ _ _ _ _=>by kernel_rfl)
 jU:=gq X G E.1 8 rfl (xM fun _ _ _ _ _ _ _=>by kernel_rfl)
 jV:=gq X G E.1 9 rfl (sU fun _ _ _ _ _ _ _ _=>by kernel_rfl)
 jn:=gq X G E.1 10 rfl (xM fun _ _ _ _ _ _ _=>by kernel_rfl)
 mH:=mq E.2.1 23 rfl rfl (xM fun _ _ _ _ _ _ _=>by kernel_rfl)
 iu:=gq X G E.1 11 rfl (sU fun _ _ _ _ _ _ _ _=>by kernel_rfl)
 jo:=gq X G E.1 12 rfl (V9 fun _ _ _ _ _ _ _ _ _=>by kernel_rfl)
 jq:=gq X G E.1 13 rfl (bf5 fun _ _ _ _ _ _ _ _ _ _ _=>by kernel_rfl)
 jr:=gq X G E.1 14 rfl (V9 fun _ _ _ _ _ _ _ _ _=>by kernel_rfl)
 gD:=gq X G E.1 15 rfl (bf4 fun _ _ _ _ _ _ _ _ _ _=>by kernel_rfl)
 jW:=gq X G E.1 16 rfl (xM fun _ _ _ _ _ _ _=>by kernel_rfl)
 iw:=gq X G E.1 17 rfl (V9 fun _ _ _ _ _ _ _ _ _=>by kernel_rfl)
 gF:=gq X G E.1 18 rfl (sU fun _ _ _ _ _ _ _ _=>by kernel_rfl)
 mJ:=mq E.2.1 24 rfl rfl (V9 fun _ _ _ _ _ _ _ _ _=>by kernel_rfl)
 dz:=mq E.2.1 25 rfl rfl (sU fun _ _ _ _ _ _ _ _=>by kernel_rfl)
 iy:=mq E.2.1 26 rfl rfl (sU fun _ _ _ _ _ _ _ _=>by kernel_rfl)
 gZ:=mq E.2.1 27 rfl rfl (xM fun _ _ _ _ _ _ _=>by kernel_rfl)
 fX:=mq E.2.1 28 rfl rfl (V9 fun _ _ _ _ _ _ _ _ _=>by kernel_rfl)
 d8:=mq E.2.1 29 rfl rfl (xM fun _ _ _ _ _ _ _=>by kernel_rfl)
 fL:=mq E.2.1 30 rfl rfl (xM fun _ _ _ _ _ _ _=>by kernel_rfl)
 pM:=mq E.2.1 31 rfl rfl (V9 fun _ _ _ _ _ _ _ _ _=>by kernel_rfl)
 cJ:=mq E.2.1 32 rfl rfl (xM fun _ _ _ _ _ _ _=>by kernel_rfl)
 iz:=gq X G E.1 19 rfl (xM fun _ _ _ _ _ _ _=>by kernel_rfl)
 fY:=gq X G E.1 20 rfl (xM fun _ _ _ _ _ _ _=>by kernel_rfl)
 jf:=gq X G E.1 21 rfl (xM fun _ _ _ _ _ _ _=>by kernel_rfl)
 iB:=gq X G E.1 22 rfl (sU fun _ _ _ _ _ _ _ _=>by kernel_rfl)
 uX:=gq X G E.1 23 rfl (sU fun _ _ _ _ _ _ _ _=>by kernel_rfl)
 mK:=gq X G E.1 24 rfl (sU fun _ _ _ _ _ _ _ _=>by kernel_rfl)
 mL:=gq X G E.1 25 rfl (sU fun _ _ _ _ _ _ _ _=>by kernel_rfl)
 pN:=gq X G E.1 26 rfl (sU fun _ _ _ _ _ _ _ _=>by kernel_rfl)
 pO:=gq X G E.1 27 rfl (sU fun _ _ _ _ _ _ _ _=>by kernel_rfl)
 iC:=gq X G E.1 28 rfl (sU fun _ _ _ _ _ _ _ _=>by kernel_rfl)
 mO:=gq X G E.1 29 rfl (sU fun _ _ _ _ _ _ _ _=>by kernel_rfl)
 jX:=gq X G E.1 30 rfl (sU fun _ _ _ _ _ _ _ _=>by kernel_rfl)
 qH:=gq X G E.1 31 rfl (xM fun _ _ _ _ _ _ _=>by kernel_rfl)
 mQ:=gq X G E.1 32 rfl (sU fun _ _ _ _ _ _ _ _=>by kernel_rfl)
 jY:=gq X G E.1 33 rfl (sU fun _ _ _ _ _ _ _ _=>by kernel_rfl)
 jZ:=gq X G E.1 34 rfl (xM fun _ _ _ _ _ _ _=>by kernel_rfl)
 jt:=gq X G E.1 35 rfl (sU fun _ _ _ _ _ _ _ _=>by kernel_rfl)
 j0:=gq X G E.1 36 rfl (xM fun _ _ _ _ _ _ _=>by kernel_rfl)
 iD:=mq E.2.1 33 rfl rfl (xM fun _ _ _ _ _ _ _=>by kernel_rfl)
 gG:=mq E.2.1 34 rfl rfl (bf4 fun _ _ _ _ _ _ _ _ _ _=>by kernel_rfl)
 iG:=mq E.2.1 35 rfl rfl (bf6 fun _ _ _ _ _ _ _ _ _ _ _ _=>by kernel_rfl)
 ju:=mq E.2.1 36 rfl rfl (bf6 fun _ _ _ _ _ _ _ _ _ _ _ _=>by kernel_rfl)
 iH:=mq E.2.1 37 rfl rfl (sU fun _ _ _ _ _ _ _ _=>by kernel_rfl)
 fM:=mq E.2.1 38 rfl rfl (sU fun _ _ _ _ _ _ _ _=>by kernel_rfl)
 gH:=mq E.2.1 39 rfl rfl (sU fun _ _ _ _ _ _ _ _=>by kernel_rfl)
 iI:=mq E.2.1 40 rfl rfl (xM fun _ _ _ _ _ _ _=>by kernel_rfl)
 jw:=mq E.2.1 41 rfl rfl (sU fun _ _ _ _ _ _ _ _=>by kernel_rfl)
 gJ:=mq E.2.1 42 rfl rfl (xM fun _ _ _ _ _ _ _=>by kernel_rfl)
 cQ:=mq E.2.1 43 rfl rfl (xM fun _ _ _ _ _ _ _=>by kernel_rfl)
 cT:=mq E.2.1 44 rfl rfl (sU fun _ _ _ _ _ _ _ _=>by kernel_rfl)
 g8:=mq E.2.1 45 rfl rfl (xM fun _ _ _ _ _ _ _=>by kernel_rfl)
 pP:=gq X G E.1 37 rfl (xM fun _ _ _ _ _ _ _=>by kernel_rfl)
 uY:=gq X G E.1 38 rfl (sU fun _ _ _ _ _ _ _ _=>by kernel_rfl)
 mU:=sq X G E.2.2.2.2.2.1 0 rfl
 Oq:=sq X G E.2.2.2.2.2.1 1 rfl
 mj:=fun H=>tq E.2.2.2.2.2.2.1 0 rfl (by decide) H
 qI:=PySem.W.mg_of X G (lq E.2.2.2.1 0 rfl)
 Dy:=iq X G E.2.2.2.2.1 0 rfl
 QZ:=iq X G E.2.2.2.2.1 1 rfl
 vN:=iq X G E.2.2.2.2.1 2 rfl
 yf:=iq X G E.2.2.2.2.1 3 rfl
 Av:=iq X G E.2.2.2.2.1 4 rfl
 vO:=iq X G E.2.2.2.2.1 5 rfl
 tW:=iq X G E.2.2.2.2.1 6 rfl
 HB:=iq X G E.2.2.2.2.1 7 rfl
 Dz:=iq X G E.2.2.2.2.1 8 rfl
 U5:=fun H=>tq E.2.2.2.2.2.2.1 1 rfl (by decide) H
 U6:=PySem.W.mg_of X G (lq E.2.2.2.1 1 rfl)
 Q0:=sq X G E.2.2.2.2.2.1 2 rfl
 vP:=iq X G E.2.2.2.2.1 9 rfl
 my:=iq X G E.2.2.2.2.1 10 rfl
 ph:=iq X G E.2.2.2.2.1 11 rfl
 mz:=iq X G E.2.2.2.2.1 12 rfl
 iZ:=iq X G E.2.2.2.2.1 13 rfl
 kI:=iq X G E.2.2.2.2.1 14 rfl
 DG:=iq X G E.2.2.2.2.1 15 rfl
 w6:=iq X G E.2.2.2.2.1 16 rfl
 Yx:=iq X G E.2.2.2.2.1 17 rfl
 Yy:=iq X G E.2.2.2.2.1 18 rfl
 HD:=iq X G E.2.2.2.2.1 19 rfl
 Ot:=iq X G E.2.2.2.2.1 20 rfl
 kk:=rfl
 Q3:=dq E.2.2.2.2.2.2.2 rfl (by decide)
 Q4:=PySem.W.mg_of X G (lq E.2.2.2.1 2 rfl)
 Ou:=iq X G E.2.2.2.2.1 21 rfl
 Aw:=iq X G E.2.2.2.2.1 22 rfl
 Ax:=iq X G E.2.2.2.2.1 23 rfl
 rC:=iq X G E.2.2.2.2.1 24 rfl
 yg:=iq X G E.2.2.2.2.1 25 rfl
 yh:=iq X G E.2.2.2.2.1 26 rfl
 kJ:=iq X G E.2.2.2.2.1 27 rfl
 DK:=sq X G E.2.2.2.2.2.1 3 rfl
 DN:=iq X G E.2.2.2.2.1 28 rfl
 fO:=iq X G E.2.2.2.2.1 29 rfl
 rD:=iq X G E.2.2.2.2.1 30 rfl
 DP:=iq X G E.2.2.2.2.1 31 rfl
 Lq:=iq X G E.2.2.2.2.1 32 rfl
 Lr:=iq X G E.2.2.2.2.1 33 rfl
 DQ:=iq X G E.2.2.2.2.1 34 rfl
 vQ:=iq X G E.2.2.2.2.1 35 rfl
 yj:=iq X G E.2.2.2.2.1 36 rfl
 yl:=iq X G E.2.2.2.2.1 37 rfl
 Ay:=iq X G E.2.2.2.2.1 38 rfl
 DR:=iq X G E.2.2.2.2.1 39 rfl
 ym:=iq X G E.2.2.2.2.1 40 rfl
 vR:=iq X G E.2.2.2.2.1 41 rfl
 yo:=iq X G E.2.2.2.2.1 42 rfl
 Az:=iq X G E.2.2.2.2.1 43 rfl
 tX:=PySem.W.mg_none_of X G (lq E.2.2.2.1 3 rfl)
 gM:=PySem.W.mg_none_of X G (lq E.2.2.2.1 4 rfl)
 JB:=PySem.W.mg_none_of X G (lq E.2.2.2.1 5 rfl)
 Yz:=PySem.W.mg_none_of X G (lq E.2.2.2.1 6 rfl)
 YB:=PySem.W.mg_none_of X G (lq E.2.2.2.1 7 rfl)
 YC:=PySem.W.mg_none_of X G (lq E.2.2.2.1 8 rfl)
 jb:=PySem.W.mg_none_of X G (lq E.2.2.2.1 9 rfl)
 YD:=PySem.W.mg_none_of X G (lq E.2.2.2.1 10 rfl)
 Q5:=PySem.W.mg_none_of X G (lq E.2.2.2.1 11 rfl)
end Fs
end
section
set_option maxHeartbeats 0
namespace Fs
noncomputable section
open PySem PySem.W PyProof.Rows L2
noncomputable def aK:List Addr:=([2,3,22,24,25,27,28,29,31,32,34,35,36,38,39,41,42,43,45,46,48,49,50,51,52,53,54,64,67,68,69,71,72,74,75,76,78,79,81,82,83,85,86,88,89,90,92,93,95,96,97,99,100,102,103,104,107,108,109,111,112,114,115,116,119,120,121,122,123,124,125,128,131,132,133,135,136,138,139,140,142,143,145,146,147,150,151,152,160,163,164,165,167,168,170,171,172,174,175,177,178,179,181,182,184,185,186,189,190,191,192,193,194,195,198,200,201,203,204,212,214,215,217,218,219,221,222,224,225,226,228,229,231,232,233,235,236,238,239,240,242,243,245,246,247,248,249,250,251,254,256,257,259,260,261,263,264,266,267,268,270,271,273,274,275,277,278,280,281,282,285,286,287,289,290,292,293,301,303,304,306,307,308,309,310,311,312,315,318,319,320,322,323,325,326,327,329,330,332,333,334,336,337,339,340,341,342,344,345,347,348,349,351,352,354,355,356,358,359,361,362,363,365,366,368,369,377,379,380,382,383,384,386,387,389,390,391,393,394,396,397,398,400,401,403,404,405,407,408,410,411,412,414,415,417,418,419,421,422,424,425,426,428,429,431,432,433,435,436,438,439,440,441,442,443,444,447,448,450,451,453,454,455,457,458,460,461,462,464,465,467,468,469,471,472,474,475,476,478,479,481,482,483,485,486,488,489,490,492,493,495,496,497,500,501,502,504,505,507,508,509,511,512,514,515,516,518,519,521,522,523,525,526,528,529,530,532,533,535,536,537,539,540,542,543,544,546,547,549,550,551,553,554,556,557,558,560,561,563,564,565,567,568,570,571,579,581,582,584,585,586,588,589,591,592,593,595,596,598,599,600,603,604,605,607,608,610,611,612,614,615,617,618,619,621,622,624,625,626,628,629,631,632,633,634,635,636,637,640,647,648,649,650,660,662,663,665,666,667,669,670,672,673,674,676,677,679,680,681,683,684,686,687,688,690,691,693,694,695,696,697,698,699,702,704,705,707,708,709,711,712,714,715]:List Nat)
noncomputable def Kc(t:SharedT)(a:Addr):Option (Addr × Obj):=match Nat.blt a t.n with
 | true=>((t.tree.get a).bind alive).map fun o=>(a,o)
 | false=>none
theorem aaL{t:SharedT}{a b:Addr}{o:Obj}(h:Kc t a=some (b,o)):b=a∧t.abs.heap.get? a=some o:=by
 unfold Kc at h
 split at h
 ·rename_i l
  obtain⟨o1,h1,h2⟩:=Option.map_eq_some_iff.mp h
  cases h2
  obtain⟨o2,h3,h4⟩:=Option.bind_eq_some_iff.mp h1
  exact⟨rfl,(abs_get (Nat.blt_eq.mp l) h3).trans h4⟩
 ·cases h
noncomputable def fr(t:SharedT):Frag:=aK.filterMap (Kc t)
theorem Ql(t:SharedT):∀as:List Addr,Frag.In (as.filterMap (Kc t)) t.abs.heap
 | []=>fun a o e=>by cases e
 | b::as=>fun a o e=>by
  cases hf:Kc t b with
  | none=>rw[List.filterMap_cons_none hf]at e;exact Ql t as a o e
  | some p=>
   obtain⟨c,o'⟩:=p
   obtain⟨rfl,hg⟩:=aaL hf
   rw[List.filterMap_cons_some hf,List.lookup_cons]at e
   split at e
   ·rename_i q;cases e;rw[beq_iff_eq.mp q];exact hg
   ·exact Ql t as a o e
theorem acu(t:SharedT):(fr t).In t.abs.heap:=Ql t aK
noncomputable def obK(K:Frag):=(gR.map (gOb K),(iR.map fun r=>iOb K r.1),(sR.map fun r=>sOb K r.1),(tR.map fun r=>tOb K r.1),dOb K dA)
noncomputable def goK:=(gR.map gEx,(iR.map fun r=>some r.2),(sR.map fun r=>some r.2),(tR.map fun r=>some ("tuple",r.2.map some)),some ("dict",0,dR.map fun p=>(hashInt p.1,some p.1,some p.2)))
noncomputable def obL(K:Frag):=(mR.map (mOb K),cR.map (cOb K),(rR.map fun r=>PySem.W.nsIn K mainGlobals r.1))
noncomputable def goL:=(mR.map mEx,cR.map cEx,rR.map (·.2))
theorem aaM{K:Frag}(a:obK K=goK)(b:obL K=goL):Seen K:=by
 simp only[obK,goK,obL,goL,Prod.mk.injEq]at a b
 exact⟨a.1,b.1,b.2.1,b.2.2,a.2.1,a.2.2.1,a.2.2.2.1,a.2.2.2.2⟩
theorem of_map{α β:Type}{o:Option α}{f:α→β}{t:α}{g:β}(h:o=some t)(e:o.map f=some g):f t=g:=by
 rw[h]at e;exact Option.some.inj e
theorem X8{q:Program}{loose mods:List Str}{Xt:Shared→Bool}{s:Shared}(h1:seen ((recsOf q).map (·.name)) (ownsOf q) [] {s with gens:= #[]}=expectedOf q)(h2:s.heap.bltView=bltViewBooted)
  (k:s.heap.keysOk (looseW q loose) ((recsOf q).map (·.name)) ((litsOf q).map (·.1)) ((clssOf q (looseW q loose)).map (·.name))=true) (a:(s.heap.accountedOkI mods&&s.heap.isNs mainGlobals&&s.heap.isNs builtinsNs&&s.gens.size==0)=true) (tb:tablesOk q s.heap=true) (x:Xt s=true)
  (h4:tabsOk q s=true) (h5:pinSeenD q (drecsOf q) s=pinGoodD (drecsOf q)) (h6:plainSeenE q (looseW q loose) s=plainGoodE q (looseW q loose)) (h7:plainSeenD q loose s=plainGoodD q loose) (h8:wideSeen q s=wideGood q) (h9:clsSeenW q loose s=clsGoodW q loose):openSeen q loose mods Xt true s=openGood q loose:=by
 simp only[Bool.and_eq_true]at a
 obtain⟨⟨⟨a1,a2⟩,a3⟩,a4⟩:=a
 unfold openSeen openGood
 rw[h1,h2,k,a1,a2,a3,tb,x,h4,h5,h6,h7,h8,h9,if_pos rfl,a4]
 rfl
noncomputable abbrev XT(s:Shared):Bool:=xlAt qv [] s&&recOk [] s
noncomputable abbrev YP(h:Heap):Prop:=∃K:Frag,K.In h∧Seen K
theorem comb{w:World}(A:∀os,(su w os).map (fun t=>(obA t,obD t))=some (expectedOf qv,true))(G:∀os,(su w os).map (obG w)=some goG)(B:∀os,(su w os).map obB=some goB)(C:∀os,(su w os).map obC=some true)
  (k:∀os,(su w os).map (fun t=>(obK (fr t),obL (fr t)))=some (goK,goL)) (os:OsState):
  ∃t,su w os=some t∧Qm w t=true∧openSeen qv Qn mds XT true t.abs=openGood qv Qn∧YP t.abs.heap=True:=by
 obtain⟨t,h,hA⟩:=Option.map_eq_some_iff.mp (A os)
 have hG:=of_map h (G os)
 have hB:=of_map h (B os)
 have hC:=of_map h (C os)
 have hk:=of_map h (k os)
 simp only[obG,goG,Prod.mk.injEq]at hG
 simp only[obB,goB,Prod.mk.injEq]at hB
 obtain⟨g1,g2,g3,g4,g5,g6⟩:=hG
 obtain⟨b1,b2,b3,b4⟩:=hB
 obtain⟨hA,hD⟩:=Prod.mk.inj hA
 obtain⟨hk,hl⟩:=Prod.mk.inj hk
 exact⟨t,h,g1,X8 hA g2 hC g3 hD g6 g4 g5 b1 b2 b3 b4,eq_true ⟨fr t,acu t,aaM hk hl⟩⟩
end
end Fs
end
section
set_option maxHeartbeats 0
namespace Fs
open PySem PySem.Spec PyProof.Rows L2
noncomputable def sp0(K:PySem.W.Frag):Sp:=fun vs H Q _=>∃(cl:Addr)(cs:List Int)(rA:List (List Int)),vs= [.ref cl]∧bj K H cl (iv cs)∧uM none cs rA∧(PyFlat.told rA).length≤10000000∧∀l H',bu H H'→H' l=some (.lst (iv (PyFlat.told rA)))→Q (.ref l) H'
theorem Yb{P:Program}{w:World}{K:PySem.W.Frag}{mg:Str→Option Value}{h:Heap}{fa:Addr}(X:K.In h)(hfa:mg "answers" =some (.ref fa)){A:bB}(T:Txt K mg A):
  ∃fd:FuncData,(∀(s:Shared)(u:Value),K.In s.heap→BindsTo s fd ⟨[u],[]⟩ [("calls",u)])∧∀base:Heap,Jd P w K mg base QR 14 fa fd ["calls"] (sp0 K):=by
 have e:=hfa.symm.trans T.pP.g
 cases e
 obtain⟨fd,b,hF⟩:=Nm (P:=P) (w:=w) T
 refine⟨fd,fun s u hK=>b s [u] hK rfl,fun base=> ?_⟩
 have:=hF base
 have es:Iu A=sp0 K:=by
  show sp0 A.kk=sp0 K
  rw[T.kk]
 rw[es]at this
 exact this
theorem Yc{K:PySem.W.Frag}{H:Hp}{a:Addr}{ns:List Int}(h:PySw32.answers_asked ns=true)(hS:bj K H a (ns.map V.int)):sp0 K [.ref a] H (fun v H'=>∃l,v= .ref l∧H' l=some (.lst ((PySw32.answers ns).map V.int))) fun _ _ _=>False:=by
 obtain⟨rA,G,e,hl⟩:=V8 h
 exact⟨a,ns,rA,rfl,hS,G,hl,fun l H' _ h'=>⟨l,rfl,by rw[←e];exact h'⟩⟩
end Fs
namespace Fs
open PySem PySem.W PyProof.Rows
theorem afa(w:World)(os:OsState):(su (fal w) os).map (fun t=>(obK (fr t),obL (fr t)))=some (goK,goL):=by kernel_rfl
theorem acz(w:World)(os:OsState):(su (tru w) os).map (fun t=>(obK (fr t),obL (fr t)))=some (goK,goL):=by kernel_rfl
theorem said:PySem.Challenge.rw_farscreen_s01_answers.wellSaid=true:=by
 unfold OpenSpec.wellSaid
 rw[PySem.W.Fast.te12908688711261696721]
 kernel_rfl
theorem Wa:PySem.W.LeftO pw qv Qn XT (fun s=>YP s.heap) (fun _=>True) 10356:=Wn fun w=>byRow2 "special-get-raises" (P:=fun w=>∀os,∃t,su w os=some t∧Qm w t=true∧openSeen qv Qn mds XT true t.abs=openGood qv Qn∧YP t.abs.heap=True)
 (fun w=>comb (adx w) (evG w) (evB w) (evC w) (afa w)) (fun w=>comb (aa7 w) (ady w) (adz w) (adA w) (acz w)) w
end Fs
open PySem PySem.W PyProof.Rows
theorem PySem.Challenge.cw_farscreen_s01_answers_holds : PySem.Challenge.rw_farscreen_s01_answers.Holds := by
  refine holds_os (q := Fs.qv) (loose := Fs.Qn) (Xt := Fs.XT) (XP := XL Fs.qv []) (Yf := fun s => Fs.YP s.heap) (Ya := fun _ => True) (YP := fun _ h => Fs.YP h) (N := 10356) Fs.Wa (fun w s e => of_eq_true e) (fun w h h' ⟨K, a, b⟩ k => ⟨K, a.keeps k, b⟩) (fun s e => xl_of s (Bool.and_eq_true_iff.mp e).1) XL.keeps (by rfl) (by rfl) (by rfl) (fun s e => recFacts_of (Bool.and_eq_true_iff.mp e).2) os_shapes Fs.said (by decide +kernel) ⟨rfl, rfl, rfl, rfl, rfl, by decide +kernel⟩ ⟨[.list []], by decide +kernel, by decide +kernel⟩ ?_
  refine Fs.Xg (k := 14) (x := "calls") rfl ⟨rfl, by decide, by decide⟩ fun w mg fa h Y G hmg => ?_
  obtain ⟨K, KX, S⟩ := Y
  obtain ⟨fd, b, hF⟩ := Fs.Yb (P := Fs.Ow.prog) (w := w) KX hmg (Fs.aaK KX G S)
  exact ⟨K, Fs.sp0 K, fd, KX, b, hF, fun H a ns h hS => Fs.Yc h hS⟩
end
